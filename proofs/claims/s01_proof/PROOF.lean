import PyProof.Rows.All
import Wide.All
import OpenK.AllK
import Wide.FinOn
import PyProof.EqAt
import PyProof.EqKinds
import PyProof.TupleCall
import Open.SpecLaws
import KE.OsHead
import KE.OsGo
import KE.BitLaws
import Open.Pieces
import Open.Tops
import PyProof.StationsW
import OpenK.KMake
import PyProof.ExcBaseAll.Exception
import PyProof.InstStoreFacts
import PyProof.ExcArgsOwn
import PyProof.ExcAttrAll.Exception
import HtMachine
import OpenK.KMore
import PyWrhint
import KE.SpHead
import KE.OsShapes
import PySem.Challenge.RW_gridfit_s01_answers
set_option Elab.async false
set_option linter.all false
set_option maxRecDepth 100000
set_option maxHeartbeats 0
set_option genSizeOf false
open Int renaming ofNat->AD,fdiv->BN,ofNat_lt->BQ,ofNat_le->Bf,fdiv_eq_ediv_of_nonneg->Fq,natCast_nonneg->FG,toNat->HS,toNat_of_nonneg->Lv,eq_ofNat_of_zero_le->O6,le_of_lt->WH,natAbs_mul->Wn,tdiv_eq_ediv_of_nonneg->XH,natAbs_mul_self->eP,pow_pos->bV,emod_nonneg->fK,not_lt->dh,mul_assoc->qr,pow_succ->lq,natAbs_neg->mK
open PySem renaming Addr->AK,Value->AN,World->Ap,wpAny->Aw,model->Ai,starEach->Au,Heap->Ay,Shared->Az,Program->BH,wpAny_bind->BP,Stmt->Bi,Params->CP,backTo->Co,wpAny_pure->Ck,OsState->C7,Around->De,cellsFrom->Dy,wpAny_mono->Et,Scope->FW,FuncData->Ff,NameKind->FV,mem_of_lookup->FX,mainGlobals->GW,sysModules->Gy,compareOp->Gu,compEnvC->Gw,swapsWith->Gb,binaryOp->Gi,codeAny->GB,holding->Hd,treeTable->HQ,bootBuiltins->Ih,behindInMarks->Ie,backToKw->Ig,keywordEach->Iv,DictEntry->Ib,wpAny_loadPart_at->Ik,standAt->J1,getMethod->Ji,attributeBase->J0,wpAny_Call_Name_kw->Jj,bindL->KS,bindC->J8,pushCells->Jm,atKey->J6,wpAny_truthy_bool->Le,wpAny_passesOwn->Lc,callWith->ME,cLine->MZ,codeAny_mono->MG,sliceBounds->LX,Paired->O2,tupleKind->OU,GenState->Oj,wpAny_execs_nil->OV,assignEach->Ob,nsFind->Ot,wpAny_call->Ov,notedBy->Oa,valueAt->Od,excClassObj->O4,callerA->Oo,assign->Sw,wpAny_standAt->SR,getAttr->SM,BindsTo->R8,getItem->TU,call_meets->RS,wpAny_field->Sk,hashInt->Vw,wpAny_holding->XF,letOwnedTupleGo->WR,foldedSetIterable->Wu,typeLookup->Ww,seqIndex?->W5,subscripted->Wv,Keyword->W7,pushCells_keeps->WU,noteFrame->WS,wpAny_typeLookup_exc->WI,importedModules->fw,Within->cK,builtinsNs->dR,storeName->fg,wpAny_Name->cw,wpAny_execs_cons->fV,setItem->fZ,inplaceOp->b7,sizeLine_eq->eN,setAttr->bu,bindArgs->eJ,seqIndex_of->fC,seqIndex_neg->df,operate->dW,compPost->d8,call_meetsIn->bb,wpAny_setField->eQ,codeAny_call_builtin->cX,wpAny_loadName_local->qk,wpAny_loadName_cell->qG,wpAny_isTrue_Compare1->pj,wpAny_Expr_any->qa,wpAny_assign_Name->ng,wpAny_pyNext_range_end->pK,wpAny_pyIter_rangeiter->pR,wpAny_pyIter_range->pT,intBits_le_64->qm,wpAny_nsSet1->px,wpAny_lookBehind->mx,pastItsLine_dict->o7,plainObj_wpAny_Assign_Attribute->pQ,recursionLimit->mJ,slot_list_getitem->qW,call_list_seq->pF,newFunctionEnv->qC,wpAny_newObj_type->qM,tupleKind_room_in1->nP,meets_dict_get->lY,wpAny_Call_method->rL,wpAny_pyIter_enum->mM,wpAny_isSubtype_exc->nj,typeLookup_type->lh,builtinLookup_eq_fast->rC,call->qL
open PySem.W renaming Frag->AS,findIn->C6,SharedT->EF,keepIn->FT,WData->HF,emptyDict->Ic,instObj->J7,fnOf->KG,topFrame->Jw,WellAll->J_,callWith_K->LW,boot_heap->MI,handedIn->O8,byRow2->Oe,topRun->PK,plainGet->Sj,lookIn->WQ,hasDictIn->Vr,isFn->WC,makesIn->XI,methodCall_KW->Wy,restOf->XC,plainGet_of->eO,plainOver->cy,takerIn->ff,typeIn->fh,codeIn->fY,mg_of->fG,hideAll->qT,hideAll_get->rD,of_hideAll->oO,hideAll_none->nR,InitBack->qz,looks_findIn->oJ,bind_fn->p6,callWith_K0->mj,cellsFrom_some->og,length_le_weightAllW->mP,WalkOS->pC
open List renaming length_map->A8,range->BM,forall_mem_cons->Bv,getElem?_eq_getElem->CS,length_range->CO,getElem?_map->CY,mem_cons->Cd,getD_eq_getElem?_getD->Cc,size_toArray->Cp,mem_cons_of_mem->C0,getElem?_set_ne->DM,length_set->DR,mem_cons_self->D0,getElem?_eq_none->EG,replicate->Ed,length_reverse->Ek,mem_map->Fd,all_eq_true->F7,length_cons->HG,length_drop->Gs,drop_zero->G0,getElem?_range->Gr,length_append->E8,map_append->FF,drop_drop->FJ,getElem?_set_self->F9,map_cons->Fs,length_take->HP,lookup_cons->Hb,range_succ->Ha,getElem?_eq_some_iff->IZ,lookup->IY,length_replicate->Im,not_mem_nil->Ia,Nodup->Iu,mem_append_right->J3,find?_cons->KJ,mem_append->L7,mem_range->O_,append_nil->O5,nodup_cons->PD,mem_of_getElem?->PZ,ext_getElem?->Oc,map_map->Oy,map_congr_left->Oi,filterMap_cons->S9,getElem?_cons_succ->Ru,mem_or_eq_of_mem_set->TC,drop_eq_nil_of_le->RP,find?->Rq,mem_filter->V4,length->XB,getElem?_append_right->V5,getElem?_append_left->WE,length_nil->Vz,any_eq_true->Wi,foldl_cons->Wj,getElem_mem->V1,eraseIdx_eq_take_drop_succ->Wq,mem_of_find?_eq_some->Wd,drop_eq_getElem_cons->Ws,foldl_append->Vs,getElem?_drop->V7,eq_of_mem_replicate->WN,mem_filterMap->dj,any_eq_false->eC,of_mem_zip->eo,getElem?_replicate->eK,any_cons->eF,mem_singleton->gA,drop_length->bw,find?_eq_none->fU,mem_append_left->pE,rec->pH,eraseIdxIfInBounds_toArray->mU,forIn_nil->pI,range'->nr,map_take->qA,map_drop->oE,dropLast_concat->mS,take_succ->lX,getElem?_reverse->pO,set_set->nF,pairwise_map->nA,reverse_cons->mr,getElem_range->o9,find?_some->lZ,getD_cons_zero->qF,getD_cons_succ->m_,getElem?_take->rK,mem_reverse->oy,set->pJ,append_assoc->qj
open Nat renaming le_refl->BS,mod_eq_of_lt->Bu,zero_le->B7,le_trans->CC,lt_of_lt_of_le->DO,ne_of_lt->DP,lt_or_ge->Dd,le_of_not_lt->Ej,lt_of_le_of_lt->Er,mod_lt->FD,mod_eq_sub_mod->E7,lt_irrefl->GC,le_of_lt->HU,lt_trans->HH,not_lt_zero->HM,le_of_succ_le->MW,mul_le_mul->MT,zero_add->L0,lt_succ_self->O1,succ_pos->OZ,add_mod_right->Pa,sub_self->Rp,blt->Rf,ne_of_gt->Wo,le_of_eq->WX,le_succ->Vp,lt_succ_of_lt->We,min_eq_left->WV,beq->bq,mul_le_mul_right->eA,lt_of_not_le->fH,mod_add_mod->bc,add_zero->fA,pow_succ->oz,one_mul->qE,le_of_ble_eq_true->pq,le_antisymm->qP,lt_of_succ_lt_succ->p7
open Wrhint renaming step->Bh,isBad->Cz,Face->D7,zoneOf->Ft,rising->GX,shapeStart->J2,good->PU,fontStart->O9,sizedOf->PY,ended->Ou,no->V9,Sized->eG,getOf->eE,zeros->cG,begun->qu,sizeStart->lu,start->mD
open PySem.Heap renaming lt_size->Bz,get?_push_of_some->CW,size_push->HE,get?_push_size->FP,SameBut->R3,get?_update_self->WA,get?_update_other->V_,get?_update_ne->qX
open Int.ofNat renaming inj->B6
open Pure renaming pure->CA
open PySem.Value renaming ref->CL,type->OY,none->Sd,builtin->Ri,isInt->oq,isStrOf->qK,int->qv,str->pf
open Option.some renaming inj->C_
open Or renaming inr->DD,inl->FU
open False renaming elim->DK
open PySem.Builtin renaming bitAnd->Dg,bitOr->S2,bitXor->oI
open Bool renaming false_ne_true->D2,eq_false_iff->Eu,noConfusion->G3,not_eq_true'->L8,and_eq_true->Ol,and_eq_true_iff->PF,eq_iff_iff->Wt,false_eq_true->Wk,or_true->cC
open PyWrhint renaming shape->EN,answers->Sf,calls->dB,whole->qg,answers_asked->qH
open Ne renaming symm->Ei
open PyProof.Rows renaming envOfC->GK,AllBare->KA,Call_->R4,callWith_type1->RJ,boot_range->cz,Subscript_->cg,Constant_none->qJ,iadd_int->pW,isub_int->lW,callWith_builtin1->nL,subscriptTail->nU,subscriptTail_builtinR->rA
open Except renaming ok->G4
open WrhintNeutral renaming pointsOf->HB,text->HW,callOf->Ip,n_->J4,step->Lu,asked1->dm,told->b_,whole32->c7,pointsOk->bY
open Sum renaming inl->IP,inr->Lr
open LawfulBEq renaming eq_of_beq->FL
open PySem.F renaming plainAttrs_list->FK,slot_dict_get->Sy,slot_list_append->RX,type_list_append->TN,excBase_Exception->Wm,slot_list_pop->WB,type_list_pop->Vq,entry_dict_get->bR,args_dict_get_2->dI,store_Exception->dO,plainAttrs_dict->mV,type_dict_get->oH,slot_list_extend->nM,type_list_extend->nS
open True renaming intro->Io
open PySem.PassesOwn renaming never->Ir
open PyFlat renaming calls->KL,call->MJ,rows->Sa,told->V8,played->V2,row->dH
open PySem.Str renaming ofString->MQ,empty->Oz
open PySem.Builtin.Range renaming rangeSize->PV,small->eh,rangeFitsLong->rE
open PySem.W.Codec renaming encAll->PJ,app->TR,denoteAll->mO,withinAll->qU
open PySem.Obj renaming mapSeq->Sq,mapFields->W4,isFreed_of_fields->qb
open PySem.NameKind renaming free->Se,cell->oM
open Option renaming map_some->TX,isSome_iff_exists->dM,rec->o5,getD_none->qx,isSome_some->mC,none->mY
open PySem.Code renaming body->Sl,isFrame->dQ,frames->pM,quiet_builtin->oh
open Array renaming mk->Ro,getElem?_eq_some_iff->WJ,length_toList->pZ,toList->pP,mem_toList_iff->qt,getElem?_toList->rF
open PySem.Challenge renaming rw_gridfit_s01_answers->XE,pw_gridfit_s01_answers->dY,nm_gridfit_s01_answers->gB,fa_gridfit_s01_answers->zk,fr_gridfit_s01_answers->yG
open PySem.Calls renaming callWith_builtin->WL,spliced_nil->fP,spliced_cons->cW,evalArgs_plain->eB,Name_function_global->pY
open ForInStep renaming yield->Wg
open And renaming intro->XG
open Eq renaming trans->WM
open PySem.W.WData renaming weightAll->W8,int->pG
open Sum.inl renaming inj->dA
open PySem.Paired renaming length->bh,snoc->ph
open PySem.Around renaming under->bj
open PySem.Builtin.List renaming listTooLong->bt
open PySem.Flow renaming next->dc
open PySem.CmpOp renaming In->mI,NotIn->qI
open PySem.Walks renaming range->mQ
open PySem.IsRange renaming new->mW
open PySem.Within renaming cons->oW
open PySem.Heap.Ns1 renaming of_empty->oj
open PySem.PyData renaming keyHash->nO
open PySem.EntryCells renaming newEntry->nY
open Nat.le renaming dest->me
open PySem.Value.type renaming inj->mR
open PySem.SeqAt.EqAt renaming int_str->AAF,str_int->zR
open PySem.EqNone renaming eq_none_none->yH,eq_none_bool->AAK,eq_none_int->AAI,eq_none_str->yS,eq_bool_none->zG,eq_int_none->yK,eq_str_none->y4,ne_none_none->yU,ne_none_bool->yj,ne_none_int->zW,ne_none_str->zV,ne_bool_none->y1,ne_int_none->yg,ne_str_none->x_
open PySem.EqMixed renaming eq_bool_str->z9,eq_int_str->zH,eq_str_bool->yY,eq_str_int->zT,ne_bool_str->zw,ne_int_str->yp,ne_str_bool->yW,ne_str_int->AAM
open PySem.DictEntry renaming refKey->AAB
open PySem.W.Looks renaming here->AAA
open PySem.Heap.IsSliceOf renaming new->AAC
open PySem.IsL renaming update->zU
open PySem.Heap.DictOf renaming new->AAT
open PySem.W.Fast renaming tw10110043849684766642->yb,tw14364793385576792824->yQ,te10110043849684766642->zo,te14364793385576792824->AAG
open PySem.Builtin.ObjectAttr renaming storeInDict->AAE,newKeyGuard->z8
open List.Nodup renaming mem_erase_iff->AAS
open List.Pairwise renaming imp_of_mem->y6,filter->yd
open Classical renaming byContradiction->zX
open PySem.W.ReadsAllW renaming nil->yh,cons->zm
noncomputable def AG:=@if_neg
noncomputable def AI:=@if_pos
noncomputable def An:=@of_decide_eq_true
noncomputable def Av:=@decide_eq_true
noncomputable def BO:=@congrArg
noncomputable def D4:=@decide_eq_false
noncomputable def D8:=@if_true
noncomputable def Ew:=@of_decide_eq_false
noncomputable def FR:=@beq_iff_eq
noncomputable def FH:=@if_false
noncomputable def Il:=@beq_eq_false_iff_ne
noncomputable def Lz:=@decide_eq_true_eq
noncomputable def La:=@congrFun
noncomputable def L4:=@propext
noncomputable def WT:=@decide_eq_true_iff
noncomputable def Wc:=@decide_eq_false_iff_not
noncomputable def dD:=@beq_self_eq_true'
noncomputable def qp:=@not_true_eq_false
noncomputable def my:=@not_false_eq_true
noncomputable def p_:=@decide_eq_decide
section
namespace GF
section
open PySem PySem.W PyProof.Rows
noncomputable abbrev pw:BH:=dY
def l1:sreFenced pw.main=true:=by decide+kernel
def l2:((moduleNames pw.main.body).isEmpty||lookedIntoSs (moduleNames pw.main.body) pw.main.body)=true:=by decide+kernel
def l3:namesResolve pw=true:=by decide+kernel
def l4:pw.boundNames.all (fun n=>!worldNames.contains n)=true:=by decide+kernel
def l5:noRoadLSs {strict:=!(fw pw.main.body).all cThrough.contains,foot:=none,bare:=(["vars","dir","locals"]:List Str).filter<|readsOut pw pw.main.body} pw.main.body=true:=by decide+kernel
def l6:(namesMeet pw pw.main.body fun _ n=>attrL n)=true:=by decide+kernel
def l7:pw.boundNames.contains gB=true:=by decide+kernel
def l8:(!startupNames.contains gB)=true:=by decide+kernel
def l9:specDef pw gB 1=true:=by decide+kernel
def l10:zk.all Codec.fits=true:=by decide+kernel
def l11:yG.ok=true:=by decide+kernel
def d2:XE.prog.tablesWhole=true:=by decide+kernel
def ZW{a b:Bool}(h:a=true)(h':b=true):(a&&b)=true:=by rw[h,h'];rfl
def AEr:XE.wellSaid=true:=
 ZW (ZW (ZW (ZW (ZW (ZW (ZW (ZW (ZW (ZW l1 l2) l3) l4) l5) l6) l7) l8) l9) l10) l11
end
end GF
end
section
namespace L2
open PySem PySem.Spec PyProof.Rows
noncomputable abbrev Key:=Sum Int Str
noncomputable def Z3:Key->AN->Bool
 | .inl k,v=>oq k v
 | .inr x,v=>qK x v
noncomputable def AFe(w:Ap):Key->Int
 | .inl k=>Vw k
 | .inr x=>hashStr w x
theorem Ds: ∀{k:Key} {v:AN},Z3 k v=true->(∃ i t,k=IP i/\v=qv i t)\/(∃ x t,k=Lr x/\v=pf x t)
 | .inl i,v,h=>by
  obtain⟨t,e⟩:=Value.isInt_shape (k:=i) (v:=v) h
  exact .inl ⟨i,t,rfl,e⟩
 | .inr x,v,h=>by
  obtain⟨t,e⟩:=Value.isStrOf_shape (x:=x) (v:=v) h
  exact .inr ⟨x,t,rfl,e⟩
def rq(i:Int)(t:Tok):Z3 (.inl i) (.int i t)=true:=by simp[Z3,oq]
def s_(x:Str)(t:Tok):Z3 (.inr x) (.str x t)=true:=by simp[Z3,qK]
def AB_(a b:Int):decide ((IP a:Key)=IP b)=(a==b):=by
 by_cases e:a=b
 ·subst e;simp
 ·have h: ¬(IP a:Key)=IP b:=fun q=>e (dA q)
  rw[D4 h]
  exact(Il.mpr e).symm
def ACS(a b:Str):decide ((Lr a:Key)=Lr b)=decide (a=b):=by
 by_cases e:a=b
 ·subst e;simp
 ·have h: ¬(Lr a:Key)=Lr b:=fun q=>e (Sum.inr.inj q)
  rw[D4 h,D4 e]
def ABr(a:Int)(b:Str):decide ((IP a:Key)=Lr b)=false:=D4 (fun q=>nomatch q)
def ABs(a:Str)(b:Int):decide ((Lr a:Key)=IP b)=false:=D4 (fun q=>nomatch q)
noncomputable def DW(prog:BH)(w:Ap):PySem.KeyKind prog w Key where
 is:=Z3
 hash:=AFe w
 inj:=fun v a b ha hb=>by
  rcases Ds ha with⟨i,t,rfl,rfl⟩ |⟨x,t,rfl,rfl⟩
  ·rcases Ds hb with⟨j,u,rfl,e⟩ |⟨y,u,rfl,e⟩
   ·injection e with e1 _;rw[e1]
   ·exact nomatch e
  ·rcases Ds hb with⟨j,u,rfl,e⟩ |⟨y,u,rfl,e⟩
   ·exact nomatch e
   ·injection e with e1 _;rw[e1]
 byValue:=fun k v h=>by
  rcases Ds h with⟨i,t,rfl,rfl⟩ |⟨x,t,rfl,rfl⟩<;>rfl
 pyHash:=fun hv h=>by
  rcases Ds hv with⟨i,t,rfl,rfl⟩ |⟨x,t,rfl,rfl⟩
  ·exact wpAny_pyHash_int h
  ·exact wpAny_pyHash_str h
 eqBool:=fun hu hv h=>by
  rcases Ds hu with⟨i,t,rfl,rfl⟩ |⟨x,t,rfl,rfl⟩
  ·rcases Ds hv with⟨j,u,rfl,rfl⟩ |⟨y,u,rfl,rfl⟩
   ·rw[AB_]at h;exact wpAny_eqBool_int h
   ·rw[ABr]at h;exact AAF i t y u _ _ _ _ h
  ·rcases Ds hv with⟨j,u,rfl,rfl⟩ |⟨y,u,rfl,rfl⟩
   ·rw[ABs]at h;exact zR x t j u _ _ _ _ h
   ·rw[ACS]at h;exact wpAny_eqBool_str h
 «strs»:=fun k x t v h=>by
  rcases Ds h with⟨i,u,rfl,e⟩ |⟨y,u,rfl,e⟩
  ·exact nomatch e
  ·injection e with e1 _
   subst e1
   cases v<;>rfl
def jJ(prog:BH)(w:Ap)(i:Int)(t:Tok):(DW prog w).is (.inl i) (.int i t)=true:=rq i t
def iR(prog:BH)(w:Ap)(x:Str)(t:Tok):(DW prog w).is (.inr x) (.str x t)=true:=s_ x t
end L2
namespace L2
open PySem PySem.Spec PyProof.Rows
inductive V where
 | non | bl (b:Bool) | int (i:Int) | str (x:Str) | byt (b:Array UInt8) | flt (b:UInt64) | ref (a:AK) | ty (n:String)
 deriving DecidableEq
noncomputable def RelV:V->AN->Prop
 | .non,u=>u=Sd
 | .bl b,u=>u=Value.bool b
 | .int i,u=> ∃ t,u=qv i t
 | .str x,u=> ∃ t,u=pf x t
 | .byt b,u=> ∃ t,u=Value.bytes b t
 | .flt b,u=> ∃ t,u=Value.float b t
 | .ref a,u=>u=CL a
 | .ty n,u=>u=OY n
noncomputable abbrev Vals:List V->List AN->Prop:=O2 RelV
def Vals.length(r:Vals xs us):xs.length=us.length:=bh r
theorem Vals.get{xs:List V}{us:List AN}{i:Nat}{x:V}(h:Vals xs us)(e:xs[i]?=some x): ∃ u,us[i]?=some u/\RelV x u:=by
 induction h generalizing i with
 | nil=>cases e
 | cons r t ih=>
  cases i with
  | zero=>cases e;exact⟨_,rfl,r⟩
  | succ i=>exact ih e
theorem Vals.set(r:RelV x u){xs:List V}{us:List AN}(i:Nat)(h:Vals xs us):Vals (xs.set i x) (us.set i u):=by
 induction h generalizing i with
 | nil=>exact .nil
 | cons q t ih=>
  cases i with
  | zero=>exact .cons r t
  | succ i=>exact .cons q<|ih i
theorem Vals.append{xs ys:List V}{us ws:List AN}(h:Vals xs us)(s:Vals ys ws):Vals (xs++ys) (us++ws):=by
 induction h with
 | nil=>exact s
 | cons r t ih=>exact .cons r ih
theorem Vals.take{xs:List V}{us:List AN}(n:Nat)(h:Vals xs us):Vals (xs.take n) (us.take n):=by
 induction h generalizing n with
 | nil=>cases n<;>exact .nil
 | cons r t ih=>
  cases n with
  | zero=>exact .nil
  | succ n=>exact .cons r<|ih n
theorem Vals.drop{xs:List V}{us:List AN}(n:Nat)(h:Vals xs us):Vals (xs.drop n) (us.drop n):=by
 induction h generalizing n with
 | nil=>cases n<;>exact .nil
 | cons r t ih=>
  cases n with
  | zero=>exact .cons r t
  | succ n=>exact ih n
noncomputable def Ph:Option V->Option AN->Prop
 | some v,some u=>RelV v u
 | none,none=>True
 | _,_=>False
noncomputable def KV:List (κ×V)->List (κ×AN)->Prop:=O2 fun p q=>p.1=q.1/\RelV p.2 q.2
noncomputable def kV:Key->V
 | .inl i=> .int i
 | .inr x=> .str x
inductive HO where
 | lst (xs:List V)
 | tup (xs:List V)
 | dK (BU:List (Key×V)) | dT (BU:List (List Key×V))
 | set (S:Int->Bool) (n:Nat)
 | ins (C dx:AK) (fs:List (Str×V))
 | own (x:AK)
 | xd (fs:List (Str×V))
 | met (f x:AK)
 | rng (lo hi:Int)
 | frz (o:Obj) (u:HO)
 | tbl (ps:Array AN)
 | ext (φ:Ay->Prop)
noncomputable abbrev Hp:=AK->Option HO
noncomputable def upd(H:Hp)(a:AK)(o:HO):Hp:=fun b=>if b=a then some o else H b
def AJ:upd H a o a=some o:=by unfold upd;rw[AI rfl]
def AQ(h:b≠a):upd H a o b=H b:=by unfold upd;rw[AG h]
def Bk:upd (upd H a o) a u=upd H a u:=by
 funext b;unfold upd;split<;>rfl
def aW{H:Hp}(h:H a=some o)(h':H b=some u)(d:o≠u):a≠b:=by
 intro e;subst e;rw[h]at h';exact d<|C_ h'
def Ac{H:Hp}(h:H a=some o)(h':H b=none):a≠b:=by
 intro e;subst e;rw[h]at h';cases h'
section
variable(P:BH)(w:Ap)
noncomputable def EH(H:Hp)(h:Ay)(a:AK):HO->Prop
 | .lst xs=>xs.length<=sizeLine/\ ∃ its n,Vals xs its/\h.get? a=some {cls:= .type "list",data:= .seq its.toArray n}
 | .tup xs=>xs.length<=sizeLine/\ ∃ its,Vals xs its/\IsTup h a its.toArray
 | .dK BU=>BU.length<=sizeLine/\(a==Gy)=false/\ ∃ vs,KV BU vs/\h.DictOf (DW P w) a vs
 | .dT BU=>BU.length<=sizeLine/\(a==Gy)=false/\ ∃ xs:List (List Key×AK×AN),
   O2 (fun p q=>p.1=q.1/\H q.2.1=some (.tup<|p.1.map kV)/\RelV p.2 q.2.2) BU xs/\
   ∃ o es ep,h.get? a=some o/\o.ExactDict/\o.data= .dict es ep/\es.toList=xs.map (entryOfKey<|OU<|DW P w)/\(xs.map (·.1)).Nodup
 | .set S n=>h.SetOf (intKind P w) a S n
 | .ins C dx fs=>H dx=some (.own a)/\fs.length<=1000/\dx≠a/\h.get? a=some (J7 C dx)/\
   ∃ mA,h.Ns1 dx mA/\(∀ f,Ph (fs.lookup f)<|mA f)/\cK mA (fs.map (·.1))
 | .own _=> ∃ o,h.get? a=some o
 | .xd fs=> ∃ mA,h.Ns1 a mA/\ ∀ f,Ph (fs.lookup f)<|mA f
 | .rng lo hi=> ∃ t u v,h.get? a=some {cls:= .type "range",data:= .fields #[.int lo t,.int hi u,.int 1 v]}
 | .frz o u=>h.get? a=some o/\EH H h a u
 | .tbl ps=>h.get? a=some {cls:= .none,data:= .fields ps}
 | .met f x=>h.get? a=some (PySem.W.methodObj (.ref f)<|.ref x)
 | .ext φ=>φ h/\(∃ o,h.get? a=some o)/\ ∀ h1 h2,φ h1->(∀ o,h1.get? a=some o->h2.get? a=some o)->φ h2
noncomputable def NH(H:Hp)(h:Ay):Prop:= ∀ a o,H a=some o->EH P w H h a o
end
section
variable{P:BH}{w:Ap}{H H':Hp}{h h':Ay}{a:AK}{o:HO}
theorem EH.lt(x:EH P w H h a o):a<h.objs.size:=by
 cases o with
 | lst xs=>obtain⟨_,_,_,_,e⟩:=x;exact Bz e
 | tup xs=>obtain⟨_,_,_,p⟩:=x;exact p.lt
 | dK BU=>obtain⟨_,_,_,_,o,_,_,e,_⟩:=x;exact Bz e
 | dT BU=>obtain⟨_,_,_,_,o,_,_,e,_⟩:=x;exact Bz e
 | set S n=>obtain⟨o,_,_,_,e,_⟩:=x;exact Bz e
 | ins C dx fs=>obtain⟨_,_,_,e,_⟩:=x;exact Bz e
 | own y=>obtain⟨_,e⟩:=x;exact Bz e
 | xd fs=>obtain⟨_,⟨_,_,_,e,_⟩,_⟩:=x;exact Bz e
 | rng lo hi=>obtain⟨_,_,_,e⟩:=x;exact Bz e
 | frz ob u=>obtain⟨e,_⟩:=x;exact Bz e
 | tbl ps=>exact Bz<|x
 | met f y=>exact Bz<|x
 | ext φ=>obtain⟨_,⟨_,e⟩,_⟩:=x;exact Bz e
theorem Paired.AEg{l₁:List α}{l₂:List β}(h:O2 F l₁ l₂)(f: ∀ a b,F a b->G a b):O2 G l₁ l₂:=by
 induction h with
 | nil=>exact .nil
 | cons r t ih=>exact .cons (f _ _ r) ih
theorem EH.Px(x:EH P w H h a o)(k: ∀ b u,(b=a\/H b=some (.own a))->h.get? b=some u->h'.get? b=some u)
  (ho: ∀ b,H b=some (.own a)->H' b=some (.own a)) (ht: ∀ b xs,H b=some (.tup xs)->H' b=some (.tup xs)):EH P w H' h' a o:=by
 induction o with
 | lst xs=>obtain⟨z,its,n,r,e⟩:=x;exact⟨z,its,n,r,k _ _ (.inl rfl) e⟩
 | tup xs=>obtain⟨z,its,r,ob,e,c⟩:=x;exact⟨z,its,r,ob,k _ _ (.inl rfl) e,c⟩
 | dK BU=>obtain⟨z,y,vs,r,ob,es,ep,e,c⟩:=x;exact⟨z,y,vs,r,ob,es,ep,k _ _ (.inl rfl) e,c⟩
 | dT BU=>
  obtain⟨z,y,xs,r,ob,es,ep,e,c⟩:=x
  exact⟨z,y,xs,Paired.AEg r fun p q z=>⟨z.1,ht _ _ z.2.1,z.2.2⟩,ob,es,ep,k _ _ (.inl rfl) e,c⟩
 | set S n=>obtain⟨ob,es,ep,t,e,c⟩:=x;exact⟨ob,es,ep,t,k _ _ (.inl rfl) e,c⟩
 | ins C dx fs=>
  obtain⟨d,z,ne,e,mA,⟨od,es,ep,e2,c⟩,r⟩:=x
  exact⟨ho _ d,z,ne,k _ _ (.inl rfl) e,mA,⟨od,es,ep,k _ _ (.inr d) e2,c⟩,r⟩
 | own y=>obtain⟨ob,e⟩:=x;exact⟨ob,k _ _ (.inl rfl) e⟩
 | xd fs=>obtain⟨mA,⟨od,es,ep,e,c⟩,r⟩:=x;exact⟨mA,⟨od,es,ep,k _ _ (.inl rfl) e,c⟩,r⟩
 | rng lo hi=>obtain⟨t,u,v,e⟩:=x;exact⟨t,u,v,k _ _ (.inl rfl) e⟩
 | frz ob u ih=>obtain⟨e,q⟩:=x;exact⟨k _ _ (.inl rfl) e,ih q⟩
 | tbl ps=>
  have e:=x
  exact k a _ (.inl rfl) e
 | met f y=>
  have e:=x
  exact k a _ (.inl rfl) e
 | ext φ=>obtain⟨p,⟨o,e⟩,st⟩:=x;exact⟨st _ _ p fun o q=>k _ _ (.inl rfl) q,⟨o,k _ _ (.inl rfl) e⟩,st⟩
def NH.lt(x:NH P w H h)(e:H a=some o):a<h.objs.size:=(x a o e).lt
theorem NH.fresh(x:NH P w H h)(e:h.objs.size<=a):H a=none:=by
 cases q:H a with
 | none=>rfl
 | some u=>exact absurd (DO (x.lt q) e)<|GC _
def NH.kept(x:NH P w H h)(k: ∀ b u,h.get? b=some u->h'.get? b=some u):NH P w H h':=fun a o e=>
 (x a o e).Px (fun b u _ q=>k b u q) (fun _ q=>q) fun _ _ q=>q
def NH.laid(x:NH P w H h)(k: ∀ b u,h.get? b=some u->h'.get? b=some u)(hp:h.objs.size<=a)(new:EH P w (upd H a o) h' a o):NH P w (upd H a o) h':=fun b u e=>by
 have hn:=x.fresh hp
 by_cases hb:b=a
 ·subst hb;rw[AJ]at e;cases e;exact new
 ·rw[AQ hb]at e
  exact(x b u e).Px (fun c v _ q=>k c v q) (fun c q=>by rw[AQ<|Ac q hn];exact q) fun c xs q=>by rw[AQ<|Ac q hn];exact q
end
noncomputable def Rd(H:Hp)(a:AK)(u:HO):Prop:=H a=some u\/ ∃ o,H a=some (.frz o u)
def Rd.ok(r:Rd H a u)(x:NH P w H h):EH P w H h a u:=by
 rcases r with r |⟨o,r⟩
 ·exact x a u r
 ·obtain⟨_,q⟩:=x a _ r
  exact q
noncomputable def Mut:Option HO->Prop
 | some (.lst _)=>True
 | some (.dK _)=>True
 | some (.dT _)=>True
 | some (.set _ _)=>True
 | some (.ins _ _ _)=>True
 | some (.ext _)=>True
 | _=>False
section
variable{P:BH}{w:Ap}{H:Hp}{h h':Ay}{x e:AK}{o':HO}
def NH.write(ok:NH P w H h)(mu:Mut (H x))(he:e=x\/H e=some (.own x))(k: ∀ b u,b≠e->h.get? b=some u->h'.get? b=some u)(heo: ∃ u,h'.get? e=some u)
  (new:EH P w (upd H x o') h' x o'):NH P w (upd H x o') h':=fun b u q=>by
 have nown: ∀ c y,H c=some (.own y)->c≠x:=fun c y r z=>by subst z;rw[r]at mu;exact mu
 have ntup: ∀ c xs,H c=some (.tup xs)->c≠x:=fun c xs r z=>by subst z;rw[r]at mu;exact mu
 by_cases hb:b=x
 ·subst hb;rw[AJ]at q;cases q;exact new
 ·rw[AQ hb]at q
  by_cases hbe:b=e
  ·have q':H b=some (.own x):=by
    rcases he with z | z
    ·exact absurd (hbe.trans z) hb
    ·rw[hbe];exact z
   rw[q]at q';cases q'
   obtain⟨v,hv⟩:=heo
   exact⟨v,by rw[hbe];exact hv⟩
  ·refine(ok b u q).Px (fun c v hc r=>k c v ?_ r) (fun c r=>by rw[AQ<|nown c b r];exact r) fun c xs r=>by rw[AQ<|ntup c xs r];exact r
   rcases hc with rfl | hc
   ·exact hbe
   ·rintro rfl
    rcases he with z | z
    ·exact nown c b hc z
    ·rw[hc]at z;cases z;exact hb rfl
end
structure Un(fs ex:List AK)(H H':Hp)(h h':Ay):Prop where
 keep: ∀ b o,h.get? b=some o->H b=none->b∉fs->b∉ex->h'.get? b=some o
 slot: ∀ b o,h.get? b=some o->H b=none->b∈fs->b∉ex-> ∃ sl,h'.get? b=some {o with slots:=sl}
 free: ∀ b o,h.get? b=some o->H b=none->b∉ex->H' b=none
 there: ∀ b o,h.get? b=some o->b∉ex-> ∃ o',h'.get? b=some o'
 Vn: ∀ b xs,H b=some (.tup xs)->H' b=some (.tup xs)
 T8: ∀ b o u,H b=some (.frz o u)->H' b=some (.frz o u)
 Vh: ∀ b ps,H b=some (.tbl ps)-> ∃ more,H' b=some (.tbl (ps++more))
section
variable{fs fs' ex ex':List AK}{H H1 H2:Hp}{h h1 h2 h':Ay}{a x e:AK}{o:HO}
def Un.any(u:Un fs ex H H1 h h1)(q:h.get? b=some ob)(n:H b=none)(hx:b∉ex): ∃ sl,h1.get? b=some {ob with slots:=sl}:=by
 by_cases hb:b∈fs
 ·exact u.slot b ob q n hb hx
 ·exact⟨ob.slots,u.keep b ob q n hb hx⟩
theorem Un.kept(k: ∀ b u,h.get? b=some u->h'.get? b=some u):Un fs ex H H h h':=
 ⟨fun b ob q _ _ _=>k b ob q,fun b ob q _ _ _=>⟨ob.slots,k b ob q⟩,fun _ _ _ n _=>n,fun b ob q _=>⟨ob,k b ob q⟩,fun _ _ q=>q,fun _ _ _ q=>q,fun _ ps q=>⟨#[],by rw[q];simp⟩⟩
theorem Un.refl:Un fs ex H H h h:=Un.kept fun _ _ q=>q
theorem Un.laid(k: ∀ b u,h.get? b=some u->h'.get? b=some u)(hp:h.objs.size<=a)(hn:H a=none):Un fs ex H (upd H a o) h h' where
 keep:=fun b u q _ _ _=>k b u q
 slot:=fun b u q _ _ _=>⟨u.slots,k b u q⟩
 free:=fun b u q n _=>by rw[AQ<|DP<|DO (Bz q) hp];exact n
 there:=fun b u q _=>⟨u,k b u q⟩
 Vn:=fun b xs q=>by rw[AQ<|Ac q hn];exact q
 T8:=fun b u xs q=>by rw[AQ<|Ac q hn];exact q
 Vh:=fun b ps q=>⟨#[],by rw[AQ<|Ac q hn,q];simp⟩
def Un.write(mu:Mut (H x))(he:e=x\/H e=some (.own x))(k: ∀ b u,b≠e->h.get? b=some u->h'.get? b=some u)(heo: ∃ u,h'.get? e=some u):Un fs ex H (upd H x o) h h':=by
 have hx: ∀ b,H b=none->b≠x:=fun b n z=>by subst z;rw[n]at mu;exact mu
 have hb: ∀ b,H b=none->b≠e:=fun b n z=>by
  subst z
  rcases he with r | r
  ·exact hx b n r
  ·rw[n]at r;cases r
 have hm: ∀ b u,H b=some u-> ¬ Mut (some u)->b≠x:=fun b u q nm z=>by subst z;rw[q]at mu;exact nm mu
 refine⟨fun b u q n _ _=>k b u (hb b n) q,fun b u q n _ _=>⟨u.slots,k b u (hb b n) q⟩,fun b u q n _=>by rw[AQ<|hx b n];exact n,fun b u q _=>?_,
  fun b xs q=>by rw[AQ<|hm b _ q fun z=>z];exact q,fun b u xs q=>by rw[AQ<|hm b _ q fun z=>z];exact q,fun b ps q=>⟨#[],by rw[AQ<|hm b _ q fun z=>z,q];simp⟩⟩
 by_cases hbe:b=e
 ·subst hbe;exact heo
 ·exact⟨u,k b u hbe q⟩
end
noncomputable def trk(h:Ay)(H:Hp):List AK:=(BM h.objs.size).filter fun a=>(H a).isSome
noncomputable def cY(h:Ay)(H:Hp):Ay:=qT h (trk h H)
def tJ(h:Ay)(H:Hp):(cY h H).objs.size=h.objs.size:=PySem.W.hideAll_size _ _
def wQ(e:h.get? b=some o)(n:H b=none):(cY h H).get? b=some o:=
 rD _ e fun hm=>by
  have q:=(V4.mp hm).2
  rw[n]at q;simp at q
theorem xo(e:(cY h H).get? b=some o):h.get? b=some o/\H b=none:=by
 have e':=oO (trk h H) e
 refine⟨e',?_⟩
 cases q:H b with
 | none=>rfl
 | some x=>
  have hm:b∈trk h H:=V4.mpr ⟨O_.mpr<|Bz e',by simp[q]⟩
  have z:(cY h H).get? b=none:=nR (trk h H) hm
  rw[z]at e;cases e
end L2
namespace L2
open PySem PySem.Spec PyProof.Rows
structure Mod(K:AS)(mg:Str->Option AN)(base:Ay):Prop where
 xi:K.In base
 glob:base.Ns GW mg
 blt: ∃ mb,base.Ns dR mb/\ ∀ x:Str,x≠"__name__"->mb x=Ih x
 nolimit:base.NoLimit
structure Cx where
 prog:BH
 w:Ap
 K:AS
 mg:Str->Option AN
 base:Ay
 A:De
 N:List Str
 Pw:Az
 H_0:Hp
 env:Env
 outer:List Env
 stack:List Env
 ex:List AK
 fn:Str->Bool
 calm:Bool
 pn:List (AK×Obj)
 xe:AN->Az->Prop
noncomputable def CM(l:List Env):List AK:=l.filterMap (·.frame)
noncomputable abbrev Cx.fs(X:Cx):List AK:=CM X.outer
noncomputable def wB(sc:FW)(x:Str):Prop:=sc.names.lookup x=some .local\/sc.names.lookup x=some .cell\/sc.names.lookup x=some .free
noncomputable def Loc(sc:FW)(x:Str):Prop:=sc.names.lookup x=some .local\/sc.names.lookup x=some .cell
noncomputable def Look(env:Env)(h:Ay)(m:Str->Option AN)(x:Str)(u:AN):Prop:=
 (env.kindOf x=some .local/\m x=some u)\/((env.kindOf x=some .cell\/env.kindOf x=some .free)/\ ∃ c,env.cells.lookup x=some c/\h.IsCell c (some u))
structure Cx.Ok(X:Cx):Prop where
 mod:Mod X.K X.mg X.base
 kind:X.env.scope.kind= .function
 glob:X.env.globals=GW
 blt:X.env.builtins=dR
 above:X.Pw.heap.objs.size<=X.env.locals
 inj: ∀ x y c,X.env.cells.lookup x=some c->X.env.cells.lookup y=some c->x=y
 has: ∀ x,(X.env.kindOf x=some .cell\/X.env.kindOf x=some .free)-> ∃ c,X.env.cells.lookup x=some c
 cab: ∀ x c,X.fn x=true->X.env.cells.lookup x=some c->X.Pw.heap.objs.size<=c
 hd:X.calm=true->X.A.handled=none
 frames:X.A.frames=some X.stack
 C2:X.stack=X.outer\/(X.stack=X.env::X.outer/\X.env.frame=some X.env.locals)
 exf: ∀ b∈X.ex,b≠X.env.locals/\ ∀ x c,X.env.cells.lookup x=some c->c≠b
 bs: ∀ b o,X.base.get? b=some o->X.Pw.heap.get? b=some o/\X.H_0 b=none
 uB:X.base.objs.size<=X.Pw.heap.objs.size
 kF: ∀ b o,X.base.get? b=some o->b∉X.ex
 jz: ∀ b∈X.ex,b∉X.fs
 funs:X.Pw.heap.FunFrames X.base X.outer
 y2: ∀ b∈X.fs,X.H_0 b=none
 nd:X.N.Nodup
structure Inv(X:Cx)(pins:List (AK×Obj))(σ:List (Option V))(H:Hp)(s:Az):Prop where
 ok:X.Ok
 os:s.os=X.Pw.os
 bare:KA s.gens
 base:Un X.fs X.ex X.H_0 H X.Pw.heap s.heap
 loc: ∃ m,s.heap.Ns X.env.locals m/\ ∀(i:Nat) x v,X.N[i]?=some x->σ[i]?=some (some v)->wB X.env.scope x-> ∃ u,RelV v u/\Look X.env s.heap m x u
 cell: ∀ x c,X.env.cells.lookup x=some c-> ∃ v,s.heap.IsCell c v
 free:H X.env.locals=none
 KH: ∀ x c,X.env.cells.lookup x=some c->H c=none
 pin: ∀ p∈X.pn++pins,s.heap.get? p.1=some p.2/\H p.1=none/\p.1≠X.env.locals/\p.1∉X.fs/\ ∀ v,p.2.data≠ .cell v
 C1:NH X.prog X.w H s.heap
 len:σ.length=X.N.length
section
variable{X:Cx}{pins:List (AK×Obj)}{σ:List (Option V)}{H H':Hp}{s:Az}{h':Ay}
def Cx.Ok.AGH(ok:X.Ok)(e:X.base.get? b=some o):b∉X.fs:=fun hb=>by
 have:=(ok.funs.mem hb).1
 rw[e]at this;cases this
def Inv.bs(I:Inv X pins σ H s): ∀ b o,X.base.get? b=some o->s.heap.get? b=some o/\H b=none:=fun b o e=>
 ⟨I.base.keep b o (I.ok.bs b o e).1 (I.ok.bs b o e).2 (I.ok.AGH e)<|I.ok.kF b o e,I.base.free b o (I.ok.bs b o e).1 (I.ok.bs b o e).2<|I.ok.kF b o e⟩
def Inv.bk(I:Inv X pins σ H s): ∀ b o,X.base.get? b=some o->s.heap.get? b=some o:=fun b o e=>(I.bs b o e).1
def Inv.mod(I:Inv X pins σ H s):Mod X.K X.mg X.base:=I.ok.mod
def Inv.Qs(I:Inv X pins σ H s):X.K.In s.heap:=I.ok.mod.xi.keeps I.bk
def Inv.fr(I:Inv X pins σ H s): ∃ m,Fr X.base X.env.locals s.heap m:=
 let⟨m,hn,_⟩:=I.loc
 ⟨m,hn,I.bk,CC I.ok.uB I.ok.above⟩
def Inv.lt(I:Inv X pins σ H s):X.env.locals<s.heap.objs.size:=let⟨_,hn,_⟩:=I.loc;hn.lt
def Inv.sz(I:Inv X pins σ H s):X.Pw.heap.objs.size<=s.heap.objs.size:=CC I.ok.above (HU I.lt)
def Inv.AFO(I:Inv X pins σ H s){a:AK}(h:s.heap.objs.size<=a):a∉X.fs:=fun hb=>by
 obtain⟨_,o,ho,_⟩:=I.ok.funs.mem hb
 exact absurd (DO (Bz ho)<|CC I.sz h)<|GC _
def Inv.cne(I:Inv X pins σ H s): ∀ x c,X.env.cells.lookup x=some c->c≠X.env.locals:=fun x c e z=>by
 obtain⟨v,o,ho,hd⟩:=I.cell x c e
 obtain⟨m,⟨o',es,ep,ho',hd',_⟩,_⟩:=I.loc
 rw[z,ho']at ho;cases ho;rw[hd']at hd;cases hd
def Inv.funs(I:Inv X pins σ H s):s.heap.FunFrames X.base X.outer:=by
 have all: ∀(l:List Env),(∀ b∈CM l,b∈X.fs)->X.Pw.heap.FunFrames X.base l->s.heap.FunFrames X.base l:=by
  intro l
  induction l with
  | nil=>intro _ _;trivial
  | cons env r ih=>
   rintro hs ⟨hk,⟨L,o,hf,hn,ho,hd⟩,hr⟩
   have hL:=hs L<|by unfold CM;rw[S9,hf];exact D0
   obtain⟨sl,e⟩:=I.base.slot L o ho (I.ok.y2 L hL) hL fun z=>I.ok.jz L z hL
   exact⟨hk,⟨L,_,hf,hn,e,hd⟩,ih (fun b hb=>hs b<|by unfold CM;rw[S9,hf];exact C0 _ hb) hr⟩
 exact all X.outer (fun _ hb=>hb) I.ok.funs
def Inv.stack(I:Inv X pins σ H s):s.heap.FunFrames X.base X.stack:=by
 rcases I.ok.C2 with e |⟨e,hf⟩
 ·rw[e];exact I.funs
 ·rw[e]
  obtain⟨m,hn,_⟩:=I.loc
  refine .cons (by rw[I.ok.kind];decide) hf hn ?_ I.funs
  exact Heap.get?_none_of_le<|CC I.ok.uB I.ok.above
def Inv.lI(I:Inv X pins σ H s): ∀ b∈CM X.stack,b∈X.env.locals::X.fs:=fun b hb=>by
 rcases I.ok.C2 with e |⟨e,hf⟩
 ·rw[e]at hb;exact C0 _ hb
 ·rw[e]at hb
  unfold CM at hb
  rw[S9,hf]at hb
  exact hb
def Inv.WK(I:Inv X pins σ H s): ∀ b∈CM X.stack,H b=none:=fun b hb=>by
 rcases Cd.mp (I.lI b hb)with e | hb
 ·rw[e];exact I.free
 ·obtain⟨_,o,ho,_⟩:=I.ok.funs.mem hb
  exact I.base.free b o ho (I.ok.y2 b hb) fun z=>I.ok.jz b z hb
def Inv.step{g':Array Oj}{ch:List AK}(I:Inv X pins σ H s)
  (hch: ∀ b∈ch,(b∈X.ex\/X.Pw.heap.objs.size<=b)/\b≠X.env.locals/\(∀ x c,X.env.cells.lookup x=some c->c≠b)/\ ∀ p∈X.pn++pins,p.1≠b)
  (keep: ∀ b o,b≠X.env.locals->b∉X.fs->b∉ch->s.heap.get? b=some o->H b=none->h'.get? b=some o)
  (slot: ∀ b o,b≠X.env.locals->b∈X.fs->b∉ch->s.heap.get? b=some o->H b=none-> ∃ sl,h'.get? b=some {o with slots:=sl}) (free: ∀ b o,b∉ch->s.heap.get? b=some o->H b=none->H' b=none)
  (there: ∀ b o,b∉ch->s.heap.get? b=some o-> ∃ o',h'.get? b=some o')
  (Vn: ∀ b xs,H b=some (.tup xs)->H' b=some (.tup xs)) (T8: ∀ b o u,H b=some (.frz o u)->H' b=some (.frz o u)) (Vh: ∀ b ps,H b=some (.tbl ps)-> ∃ more,H' b=some (.tbl<|ps++more))
  (ns: ∀ m,s.heap.Ns X.env.locals m->h'.Ns X.env.locals m) (C1:NH X.prog X.w H' h') (hg:KA g'):
  Inv X pins σ H' {s with heap:=h',gens:=g',drawn:=d',toks:=t'}:=by
 have neL: ∀ b o,X.Pw.heap.get? b=some o->b≠X.env.locals:=fun b o e=>DP<|DO (Bz e) I.ok.above
 have neC: ∀ b o,X.Pw.heap.get? b=some o->b∉X.ex->b∉ch:=fun b o e hx hb=>by
  rcases(hch b hb).1 with z | z
  ·exact hx z
  ·exact absurd (DO (Bz e) z)<|GC _
 have cellK: ∀ x c,X.env.cells.lookup x=some c-> ∀ v,s.heap.IsCell c v->h'.IsCell c v:=fun x c e v ⟨o,ho,hd⟩=>by
  have nch:c∉ch:=fun z=>(hch c z).2.2.1 x c e rfl
  by_cases hc:c∈X.fs
  ·obtain⟨sl,q⟩:=slot c o (I.cne x c e) hc nch ho (I.KH x c e)
   exact⟨_,q,hd⟩
  ·exact⟨o,keep c o (I.cne x c e) hc nch ho<|I.KH x c e,hd⟩
 refine⟨I.ok,I.os,hg,⟨fun b o e n hb hx=>(keep b o (neL b o e) hb (neC b o e hx) (I.base.keep b o e n hb hx)<|I.base.free b o e n hx),fun b o e n hb hx=>?_,fun b o e n hx=>?_,fun b o e hx=>?_,fun b xs e=>Vn b xs<|I.base.Vn b xs e,fun b o xs e=>T8 b o xs<|I.base.T8 b o xs e,fun b ps e=>?_⟩,?_,fun x c e=>?_,?_,fun x c e=>?_,fun p hp=>?_,C1,I.len⟩
 ·obtain⟨sl,e1⟩:=I.base.slot b o e n hb hx
  obtain⟨sl',e2⟩:=slot b _ (neL b o e) hb (neC b o e hx) e1<|I.base.free b o e n hx
  exact⟨sl',e2⟩
 ·obtain⟨o',e1⟩:=I.base.there b o e hx
  exact free b o' (neC b o e hx) e1<|I.base.free b o e n hx
 ·obtain⟨o',e1⟩:=I.base.there b o e hx
  exact there b o' (neC b o e hx) e1
 ·obtain⟨m1,e1⟩:=I.base.Vh b ps e
  obtain⟨m2,e2⟩:=Vh b _ e1
  exact⟨m1++m2,by rw[e2,Array.append_assoc]⟩
 ·obtain⟨m,hn,hl⟩:=I.loc
  refine⟨m,ns m hn,fun i x v e1 e2 e3=>?_⟩
  obtain⟨u,r,l⟩:=hl i x v e1 e2 e3
  refine⟨u,r,?_⟩
  rcases l with l |⟨k,c,e,z⟩
  ·exact .inl l
  ·exact .inr ⟨k,c,e,cellK x c e _ z⟩
 ·obtain⟨v,z⟩:=I.cell x c e
  exact⟨v,cellK x c e v z⟩
 ·obtain⟨m,⟨o,_,_,ho,_⟩,_⟩:=I.loc
  exact free _ o (fun z=>(hch _ z).2.1 rfl) ho I.free
 ·obtain⟨v,o,ho,hd⟩:=I.cell x c e
  exact free c o (fun z=>(hch c z).2.2.1 x c e rfl) ho<|I.KH x c e
 ·obtain⟨e,n,ne,nf,d⟩:=I.pin p hp
  have nch:p.1∉ch:=fun z=>(hch p.1 z).2.2.2 p hp rfl
  exact⟨keep p.1 p.2 ne nf nch e n,free p.1 p.2 nch e n,ne,nf,d⟩
def Inv.un{t':Nat}(I:Inv X pins σ H s)(u:Un X.fs [] H H' s.heap h')(C1:NH X.prog X.w H' h'):Inv X pins σ H' {s with heap:=h',toks:=t'}:=by
 obtain⟨m,⟨o,es,ep,ho,r⟩,_⟩:=id I.loc
 obtain⟨sl,hL⟩:=u.any ho I.free<|by simp
 exact I.step (g':=s.gens) (d':=s.drawn) (ch:= []) (fun _ z=>nomatch z) (fun b o _ hb _ e n=>u.keep b o e n hb<|by simp) (fun b o _ hb _ e n=>u.slot b o e n hb<|by simp) (fun b o _ e n=>u.free b o e n<|by simp) (fun b o _ e=>u.there b o e<|by simp) u.Vn u.T8 u.Vh (fun m' hm=>by
  obtain⟨o',es',ep',ho',r'⟩:=hm
  rw[ho]at ho';cases ho'
  exact⟨_,es',ep',hL,r'⟩) C1 I.bare
def Inv.call{g':Array Oj}(I:Inv X pins σ H s)(u:Un (CM X.stack) ch H H' s.heap h')(C1:NH X.prog X.w H' h')(hg:KA g')
  (hch: ∀ b∈ch,(b∈X.ex\/X.Pw.heap.objs.size<=b)/\b≠X.env.locals/\(∀ x c,X.env.cells.lookup x=some c->c≠b)/\ ∀ p∈X.pn++pins,p.1≠b):
  Inv X pins σ H' {s with heap:=h',gens:=g',drawn:=d',toks:=t'}:=by
 obtain⟨m,⟨o,es,ep,ho,r⟩,_⟩:=id I.loc
 obtain⟨sl,hL⟩:=u.any ho I.free fun z=>(hch _ z).2.1 rfl
 exact I.step hch (fun b o hL hb hc e n=>u.keep b o e n (fun z=>(Cd.mp<|I.lI b z).elim hL hb) hc) (fun b o _ _ hc e n=>u.any e n hc) (fun b o hc e n=>u.free b o e n hc) (fun b o hc e=>u.there b o e hc) u.Vn u.T8 u.Vh (fun m' hm=>by
  obtain⟨o',es',ep',ho',r'⟩:=hm
  rw[ho]at ho';cases ho'
  exact⟨_,es',ep',hL,r'⟩) C1 hg
def Inv.turned{t':Nat}(I:Inv X pins σ H s)(k: ∀ b o,b≠it->s.heap.get? b=some o->h'.get? b=some o)(hn:H it=none)(hL:it≠X.env.locals)
  (h1:it∈X.ex\/X.Pw.heap.objs.size<=it) (h2: ∀ x c,X.env.cells.lookup x=some c->c≠it) (h3: ∀ p∈X.pn++pins,p.1≠it):Inv X pins σ H {s with heap:=h',toks:=t'}:=by
 have nit: ∀ b u,H b=some u->b≠it:=fun b u e z=>by rw[z,hn]at e;cases e
 refine I.step (g':=s.gens) (d':=s.drawn) (ch:= [it]) (fun b hb=>?_) (fun b o _ _ hc e _=>k b o (fun z=>hc<|by simp[z]) e) (fun b o _ _ hc e _=>⟨o.slots,k b o (fun z=>hc<|by simp[z]) e⟩) (fun _ _ _ _ n=>n)
  (fun b o hc e=>⟨o,k b o (fun z=>hc<|by simp[z]) e⟩) (fun _ _ e=>e) (fun _ _ _ e=>e) (fun b ps e=>⟨#[],by rw[e];simp⟩) (fun m hm=>?_) (fun b u e=>?_) I.bare
 ·have e:b=it:=by simpa using hb
  subst e
  exact⟨h1,hL,h2,h3⟩
 ·obtain⟨o,es,ep,ho,r⟩:=hm
  exact⟨o,es,ep,k _ o (Ei hL) ho,r⟩
 ·refine(I.C1 b u e).Px (fun c v hc q=>k c v ?_ q) (fun _ q=>q) fun _ _ q=>q
  rcases hc with z | z
  ·rw[z];exact nit b u e
  ·exact nit c _ z
def Inv.tok(I:Inv X pins σ H s)(t:Nat):Inv X pins σ H {s with toks:=t}:=I.un Un.refl I.C1
def Inv.kept{t':Nat}(I:Inv X pins σ H s)(k: ∀ b u,s.heap.get? b=some u->h'.get? b=some u):Inv X pins σ H {s with heap:=h',toks:=t'}:=I.un (Un.kept k) (I.C1.kept k)
def Inv.laid{a:AK}(I:Inv X pins σ H s)(k: ∀ b u,s.heap.get? b=some u->h'.get? b=some u)(hp:s.heap.objs.size<=a)(new:EH X.prog X.w (upd H a o) h' a o):
  Inv X pins σ (upd H a o) {s with heap:=h',toks:=t'}:=I.un (Un.laid k hp<|I.C1.fresh hp)<|I.C1.laid k hp new
def Inv.write{x e:AK}(I:Inv X pins σ H s)(mu:Mut (H x))(he:e=x\/H e=some (.own x))(k: ∀ b u,b≠e->s.heap.get? b=some u->h'.get? b=some u)(heo: ∃ u,h'.get? e=some u)
  (new:EH X.prog X.w (upd H x o) h' x o):Inv X pins σ (upd H x o) {s with heap:=h',toks:=t'}:=I.un (Un.write mu he k heo)<|I.C1.write mu he k heo new
def Inv.weak{σ':List (Option V)}(I:Inv X pins σ H s)(hl:σ'.length=σ.length)(w: ∀(i:Nat) v,σ'[i]?=some (some v)->σ[i]?=some (some v)):Inv X pins σ' H s:=
 ⟨I.ok,I.os,I.bare,I.base,let⟨m,hn,hl'⟩:=I.loc;⟨m,hn,fun i x v e1 e2 e3=>hl' i x v e1 (w i v e2) e3⟩,I.cell,I.free,I.KH,I.pin,I.C1,hl.trans I.len⟩
def Inv.pU{pins':List (AK×Obj)}(I:Inv X pins σ H s)(h: ∀ p∈pins',s.heap.get? p.1=some p.2/\H p.1=none/\p.1≠X.env.locals/\p.1∉X.fs/\ ∀ v,p.2.data≠ .cell v):Inv X pins' σ H s:=
 ⟨I.ok,I.os,I.bare,I.base,I.loc,I.cell,I.free,I.KH,fun p hp=>(L7.mp hp).elim (fun z=>I.pin p<|pE _ z)<|h p,I.C1,I.len⟩
def Yb{N:List Str}(hN:N.Nodup){i j:Nat}(a:N[i]?=some x)(b:N[j]?=some x):i=j:=by
 obtain⟨h1,e1⟩:=IZ.mp a
 obtain⟨h2,e2⟩:=IZ.mp b
 exact(List.getElem_inj hN).mp<|e1.trans e2.symm
def aX{M:Model}(I:Inv X pins σ H s)(hN:X.N.Nodup)(hi:X.N[i]?=some x)(hx:Loc X.env.scope x)(r:RelV v u)
  (h: ∀ s',Inv X pins (σ.set i<|some v) H s'->(∃ a,R3 a s.heap s'.heap/\(a=X.env.locals\/X.env.cells.lookup x=some a))->Q () s') (hf:X.fn x=true\/X.env.scope.names.lookup x=some .local:=by first | exact .inl rfl | exact .inr rfl | assumption):Aw M A (fg X.env x u) Q E s:=by
 obtain⟨m,hn,hl⟩:=id I.loc
 have hcls:(X.env.scope.kind== .class||(X.env.scope.kind== .module&&X.env.locals !=X.env.globals))=false:=by rw[I.ok.kind];rfl
 have hiσ:i<σ.length:=by rw[I.len];exact(IZ.mp hi).1
 have cne:=I.cne
 have tracked: ∀{a:AK} {h':Ay},(∃ o,s.heap.get? a=some o/\H a=none)->R3 a s.heap h'->NH X.prog X.w H h':=fun{a h'} ha hs b ob e=>by
  obtain⟨_,_,hfree⟩:=ha
  refine(I.C1 b ob e).Px (fun c w' hc q=>(hs.2 c ?_).trans q) (fun _ q=>q) fun _ _ q=>q
  rintro rfl
  rcases hc with rfl | hc
  ·rw[hfree]at e;cases e
  ·rw[hfree]at hc;cases hc
 rcases hx with hk | hk
 ·refine wpAny_storeName_local hk hn (fun h' hn' hs=>?_) hcls
  obtain⟨oL,_,_,hoL,_⟩:=id hn
  refine h _ ⟨I.ok,I.os,I.bare,⟨fun b o e n hb hx=>((hs.2 b<|DP<|DO (Bz e) I.ok.above).trans<|I.base.keep b o e n hb hx),fun b o e n hb hx=>?_,I.base.free,fun b o e hx=>?_,I.base.Vn,I.base.T8,I.base.Vh⟩,⟨_,hn',fun j y v' e1 e2 e3=>?_⟩,fun y c e=>?_,I.free,I.KH,fun p hp=>?_,tracked ⟨oL,hoL,I.free⟩ hs,by simpa using I.len⟩ ⟨_,hs,.inl rfl⟩
  ·obtain⟨sl,e1⟩:=I.base.slot b o e n hb hx
   exact⟨sl,(hs.2 b<|DP<|DO (Bz e) I.ok.above).trans e1⟩
  ·obtain⟨o',e1⟩:=I.base.there b o e hx
   exact⟨o',(hs.2 b<|DP<|DO (Bz e) I.ok.above).trans e1⟩
  ·by_cases hj:j=i
   ·subst hj
    rw[hi]at e1;cases e1
    rw[F9 hiσ]at e2
    cases e2
    exact⟨u,r,.inl ⟨hk,by simp⟩⟩
   ·rw[DM<|Ei hj]at e2
    obtain⟨u',r',q⟩:=hl j y v' e1 e2 e3
    refine⟨u',r',?_⟩
    rcases q with⟨k,e⟩ |⟨k,c,e,z⟩
    ·refine .inl ⟨k,?_⟩
     have:y≠x:=fun e=>hj<|Yb hN e1<|e▸hi
     simp[this,e]
    ·exact .inr ⟨k,c,e,z.sameBut hs<|cne y c e⟩
  ·obtain⟨w',z⟩:=I.cell y c e
   exact⟨w',z.sameBut hs<|cne y c e⟩
  ·obtain⟨e,n,ne,nf,d⟩:=I.pin p hp
   exact⟨(hs.2 p.1 ne).trans e,n,ne,nf,d⟩
 ·have hfn:X.fn x=true:=by
   rcases hf with z | z
   ·exact z
   ·rw[z]at hk;cases hk
  obtain⟨c,hc⟩:=I.ok.has x<|.inl hk
  obtain⟨w',z⟩:=I.cell x c hc
  refine wpAny_storeName_cell I.ok.kind hk hc z fun h' hc' hs=>?_
  obtain⟨oc,hoc,hocd⟩:=id z
  refine h {s with heap:=h'} ⟨I.ok,I.os,I.bare,⟨fun b o e n hb hx=>((hs.2 b<|DP<|DO (Bz e)<|I.ok.cab x c hfn hc).trans<|I.base.keep b o e n hb hx),fun b o e n hb hx=>?_,I.base.free,fun b o e hx=>?_,I.base.Vn,I.base.T8,I.base.Vh⟩,⟨m,hn.sameBut hs<|Ei<|cne x c hc,fun j y v' e1 e2 e3=>?_⟩,fun y c' e=>?_,I.free,I.KH,fun p hp=>?_,tracked ⟨oc,hoc,I.KH x c hc⟩ hs,by simpa using I.len⟩ ⟨c,hs,.inr hc⟩
  ·obtain⟨sl,e1⟩:=I.base.slot b o e n hb hx
   exact⟨sl,(hs.2 b<|DP<|DO (Bz e)<|I.ok.cab x c hfn hc).trans e1⟩
  ·obtain⟨o',e1⟩:=I.base.there b o e hx
   exact⟨o',(hs.2 b<|DP<|DO (Bz e)<|I.ok.cab x c hfn hc).trans e1⟩
  ·by_cases hj:j=i
   ·subst hj
    rw[hi]at e1;cases e1
    rw[F9 hiσ]at e2
    cases e2
    exact⟨u,r,.inr ⟨.inl hk,c,hc,hc'⟩⟩
   ·rw[DM<|Ei hj]at e2
    obtain⟨u',r',q⟩:=hl j y v' e1 e2 e3
    refine⟨u',r',?_⟩
    rcases q with q |⟨k,c',e,z'⟩
    ·exact .inl q
    ·refine .inr ⟨k,c',e,z'.sameBut hs ?_⟩
     rintro rfl
     exact hj<|Yb hN e1<|I.ok.inj _ _ _ e hc▸hi
  ·by_cases hcc:c'=c
   ·subst hcc;exact⟨_,hc'⟩
   ·obtain⟨w2,z2⟩:=I.cell y c' e
    exact⟨w2,z2.sameBut hs hcc⟩
  ·obtain⟨e,n,ne,nf,d⟩:=I.pin p hp
   refine⟨(hs.2 p.1 ?_).trans e,n,ne,nf,d⟩
   intro q
   rw[q,hoc]at e
   exact d w'<|by rw[<-(C_ e)];exact hocd
def So{M:Model}(I:Inv X pins σ H s)(hN:X.N.Nodup)(hi:X.N[i]?=some x)(hx:Loc X.env.scope x)(r:RelV v u)
  (h: ∀ s',Inv X pins (σ.set i<|some v) H s'->Q () s') (hf:X.fn x=true\/X.env.scope.names.lookup x=some .local:=by first | exact .inl rfl | exact .inr rfl | assumption):Aw M A (fg X.env x u) Q E s:=
 aX I hN hi hx r (fun s' I' _=>h s' I') hf
def Inv.vx{s':Az}(I:Inv X pins σ H s)(ho:s'.os=s.os)(u:Un (CM X.stack) ch H H' s.heap s'.heap)(C1:NH X.prog X.w H' s'.heap)(hg:KA s'.gens)
  (hch: ∀ b∈ch,(b∈X.ex\/X.Pw.heap.objs.size<=b)/\b≠X.env.locals/\(∀ x c,X.env.cells.lookup x=some c->c≠b)/\ ∀ p∈X.pn++pins,p.1≠b):Inv X pins σ H' s':=by
 obtain⟨h',g',d',t',o'⟩:=s'
 have e:=ho
 subst e
 exact I.call u C1 hg hch
end
noncomputable abbrev XK:=AN->Option AK->Hp->Prop
noncomputable abbrev St:=List (Option V)
noncomputable abbrev VK:=V->Hp->Prop
noncomputable abbrev TE:=St->Hp->VK->Prop
noncomputable abbrev TT:=St->Hp->(Bool->Hp->Prop)->Prop
noncomputable abbrev TA:=St->Hp->(List V->Hp->Prop)->Prop
structure Ends where
 nx:St->Hp->Prop
 rt:VK
 bk:St->Hp->Prop:=fun _ _=>False
 ct:St->Hp->Prop:=fun _ _=>False
noncomputable abbrev TS:=Ends->St->Hp->Prop
noncomputable def EP(X:Cx)(pins:List (AK×Obj))(σ:St)(Q:VK)(u:AN)(s':Az):Prop:= ∃ v H',Inv X pins σ H' s'/\RelV v u/\Q v H'
noncomputable def TP(X:Cx)(pins:List (AK×Obj))(σ:St)(Q:Bool->Hp->Prop)(b:Bool)(s':Az):Prop:= ∃ H',Inv X pins σ H' s'/\Q b H'
noncomputable def AP(X:Cx)(pins:List (AK×Obj))(σ:St)(Q:List V->Hp->Prop)(us:List AN)(s':Az):Prop:= ∃ vs H',Inv X pins σ H' s'/\Vals vs us/\Q vs H'
noncomputable def SP(X:Cx)(pins:List (AK×Obj))(D:Ends)(f:Flow)(s':Az):Prop:=
 match f with
 | .next=> ∃ σ' H',Inv X pins σ' H' s'/\D.nx σ' H'
 | .brk=> ∃ σ' H',Inv X pins σ' H' s'/\D.bk σ' H'
 | .cont=> ∃ σ' H',Inv X pins σ' H' s'/\D.ct σ' H'
 | .ret u=> ∃ v σ' H',Inv X pins σ' H' s'/\RelV v u/\D.rt v H'
noncomputable def PE(X:Cx)(e:Expr)(t:TE):Prop:=
 ∀(pins:List (AK×Obj)) s (σ:St) H Q,Inv X pins σ H s->t σ H Q->Aw (Ai X.prog X.w) X.A (eval e X.env) (EP X pins σ Q) X.xe s
noncomputable def PT(X:Cx)(e:Expr)(t:TT):Prop:=
 ∀(pins:List (AK×Obj)) s (σ:St) H Q,Inv X pins σ H s->t σ H Q->Aw (Ai X.prog X.w) X.A (isTrue e X.env<|eval e X.env) (TP X pins σ Q) X.xe s
noncomputable def PW(X:Cx)(e:Expr)(t:TT):Prop:=
 ∀(whole:Sem AN) pins s (σ:St) H Q,Inv X pins σ H s->t σ H Q->Aw (Ai X.prog X.w) X.A (isTrue e X.env whole) (TP X pins σ Q) X.xe s
def PW.pt(h:PW X e t):PT X e t:=h _
noncomputable def PA(X:Cx)(es:List Expr)(t:TA):Prop:=
 ∀(pos:Pos) pins s (σ:St) H Q,Inv X pins σ H s->t σ H Q->Aw (Ai X.prog X.w) X.A (spliced<|Co pos<|Au es X.env) (AP X pins σ Q) X.xe s
noncomputable def PS(X:Cx)(st:Bi)(t:TS):Prop:=
 ∀(pins:List (AK×Obj)) s (σ:St) H D,Inv X pins σ H s->t D σ H->Aw (Ai X.prog X.w) X.A (exec st X.env) (SP X pins D) X.xe s
noncomputable def dX(X:Cx)(st:List Bi)(t:TS):Prop:=
 ∀(pins:List (AK×Obj)) s (σ:St) H D,Inv X pins σ H s->t D σ H->Aw (Ai X.prog X.w) X.A (execs st X.env) (SP X pins D) X.xe s
def QE(h:Aw M A t Q E s)(hQ: ∀ a s,Q a s->Q' a s):Aw M A t Q' E s:=Et h hQ fun _ _ x=>x
def HV(h:Aw M A t (EP X pins σ Q) E s)(k: ∀ v s x H,Inv X pins σ H s->RelV x v->Q x H->Q' v s):Aw M A t Q' E s:=QE h fun v s ⟨x,H,a,b,c⟩=>k v s x H a b c
def ki(h:Aw M A t (AP X pins σ Q) E s)(k: ∀ v s x H,Inv X pins σ H s->Vals x v->Q x H->Q' v s):Aw M A t Q' E s:=QE h fun v s ⟨x,H,a,b,c⟩=>k v s x H a b c
end L2
namespace L2
open PySem PySem.Spec PyProof.Rows
section
variable{X:Cx}
def bin{a b:Expr}(ha:PE X a ta)(hb:PE X b tb){σ:St}{R:V->V->Hp->Prop}(I:Inv X pins σ H s)(h:ta σ H fun x H1=>tb σ H1 fun y H2=>R x y H2)
 {f:AN->AN->Sem α}
  (hf: ∀ v u s2 x y H2,Inv X pins σ H2 s2->RelV x v->RelV y u->R x y H2->Aw (Ai X.prog X.w) X.A (f v u) Q X.xe s2):
  Aw (Ai X.prog X.w) X.A (eval a X.env) (fun v s₁=>Aw (Ai X.prog X.w) X.A (eval b X.env) (fun u s₂=>Aw (Ai X.prog X.w) X.A (f v u) Q X.xe s₂) X.xe s₁) X.xe s:=by
 exact HV (ha pins s σ H _ I h) fun v s1 x H1 I1 r1 q1=>HV (hb pins s1 σ H1 _ I1 q1) fun u s2 y H2 I2 r2 q2=>hf v u s2 x y H2 I2 r1 r2 q2
noncomputable def Jg(o:Option (Option V))(k:V->Prop):Prop:=o5 (motive:=fun _=>Prop) False (fun o=>o5 (motive:=fun _=>Prop) False k o) o
noncomputable def RI(x:V)(k:Int->Prop):Prop:=V.rec (motive:=fun _=>Prop) False (fun _=>False) k (fun _=>False) (fun _=>False) (fun _=>False) (fun _=>False) (fun _=>False) x
noncomputable def uF(x:V)(k:Bool->Prop):Prop:=V.rec (motive:=fun _=>Prop) False k (fun _=>False) (fun _=>False) (fun _=>False) (fun _=>False) (fun _=>False) (fun _=>False) x
noncomputable def QL(x:V)(k:AK->Prop):Prop:=V.rec (motive:=fun _=>Prop) False (fun _=>False) (fun _=>False) (fun _=>False) (fun _=>False) (fun _=>False) k (fun _=>False) x
noncomputable def xj(l:List V)(k:V->Prop):Prop:=pH (motive:=fun _=>Prop) False (fun x r _=>pH (motive:=fun _=>Prop) (k x) (fun _ _ _=>False) r) l
theorem Jg.ex: ∀{o:Option (Option V)} {k:V->Prop},Jg o k-> ∃ v,o=some (some v)/\k v
 | some (some v),_,h=>⟨v,rfl,h⟩
 | some none,_,h=>h.elim
 | none,_,h=>h.elim
def RI.ex: ∀{x:V} {k:Int->Prop},RI x k-> ∃ i,x= .int i/\k i:=fun{x k} h=>by cases x<;>first | exact⟨_,rfl,h⟩ | exact h.elim
def uF.ex: ∀{x:V} {k:Bool->Prop},uF x k-> ∃ i,x= .bl i/\k i:=fun{x k} h=>by cases x<;>first | exact⟨_,rfl,h⟩ | exact h.elim
def QL.ex: ∀{x:V} {k:AK->Prop},QL x k-> ∃ i,x= .ref i/\k i:=fun{x k} h=>by cases x<;>first | exact⟨_,rfl,h⟩ | exact h.elim
theorem xj.ex: ∀{l:List V} {k:V->Prop},xj l k-> ∃ x,l= [x]/\k x
 | [x],_,h=>⟨x,rfl,h⟩
 | [],_,h=>h.elim
 | _::_::_,_,h=>h.elim
def Jg.of(e:o=some (some v))(h:k v):Jg o k:=by subst e;exact h
def RI.of(e:x= .int i)(h:k i):RI x k:=by subst e;exact h
def QL.of(e:x= .ref i)(h:k i):QL x k:=by subst e;exact h
noncomputable def Jh(i:Nat):TE:=fun σ H Q=>Jg σ[i]? fun v=>Q v H
noncomputable def tC(v:V):TE:=fun _ H Q=>Q v H
def Qz{pos:Pos}(hN:X.N[i]?=some x)(hv:wB X.env.scope x)(hd:(x==("__debug__":Str))=false:=by decide)(hcd:(x==("__classdict__":Str))=false:=by decide):PE X (.Name x pos) (Jh i):=by
 intro pins s σ H Q I h
 obtain⟨v,e,h⟩:=Jg.ex h
 obtain⟨m,hn,hl⟩:=I.loc
 obtain⟨u,r,l⟩:=hl i x v hN e hv
 have fin:EP X pins σ Q u s:=⟨v,H,I,r,h⟩
 rcases l with⟨hk,hm⟩ |⟨hk,c,hc,hcell⟩
 ·exact cw (qk I.ok.kind hk hn hm fin) hd
 ·rcases hk with hk | hk
  ·exact cw (qG I.ok.kind hk hc hcell fin) hd
  ·exact cw (wpAny_loadName_free I.ok.kind hk hc hcell fin hcd) hd
def AE:PE X (.Constant (.int i) j pos) (tC<|.int i):=fun _ _ _ H _ I h=>wpAny_Constant_int ⟨.int i,H,I.tok _,⟨_,rfl⟩,h⟩
def au:PE X (.Constant (.bool b) j pos) (tC<|.bl b):=fun _ _ _ H _ I h=>Constant_bool ⟨.bl b,H,I,rfl,h⟩
def XN:PE X (.Constant .none j pos) (tC .non):=fun _ _ _ H _ I h=>qJ ⟨.non,H,I,rfl,h⟩
noncomputable def Gl(X:Cx)(x:Str):Prop:=X.env.kindOf x=some .globalImplicit
def Lb{E:AN->Az->Prop}{σ:St}(I:Inv X pins σ H s)(hg:Gl X x)(hm:X.mg x=some u)(h:Q u s)
  (hd:(x==("__debug__":Str))=false:=by decide):Aw (Ai X.prog X.w) X.A (eval (.Name x pos) X.env) Q E s:=
 pY I.ok.kind hg (Calls.loadGlobal_global (by rw[I.ok.glob];exact I.mod.glob.keeps I.bk) hm h) hd
def Q4{E:AN->Az->Prop}{σ:St}{pos:Pos}(I:Inv X pins σ H s)(hg:Gl X x)(hm:X.mg x=none)(hv:Ih x=some u)(h:Q u s)
  (hn:x≠"__name__":=by decide) (hd:(x==("__debug__":Str))=false:=by decide):Aw (Ai X.prog X.w) X.A (eval (.Name x pos) X.env) Q E s:=by
 obtain⟨mb,h1,h2⟩:=I.mod.blt
 exact pY I.ok.kind hg (Calls.loadGlobal_builtin (by rw[I.ok.glob];exact I.mod.glob.keeps I.bk) hm (by rw[I.ok.blt];exact h1.keeps I.bk) ((h2 x hn).trans hv) h) hd
def DZ(hg:Gl X x)(hm:X.mg x=some u)(r:RelV v u)(hd:(x==("__debug__":Str))=false:=by decide):PE X (.Name x pos) (tC v):=
 fun _ _ _ H _ I h=>Lb I hg hm ⟨v,H,I,r,h⟩ hd
variable{a b:Expr}{ta tb:TE}{pos:Pos}
noncomputable def PC(X:Cx)(op:CmpOp)(a b:Expr)(t:TE):Prop:=
 ∀(pins:List (AK×Obj)) s (σ:St) H Q,Inv X pins σ H s->t σ H Q->
  Aw (Ai X.prog X.w) X.A (eval a X.env) (fun v s₁=>Aw (Ai X.prog X.w) X.A (eval b X.env) (fun u s₂=>Aw (Ai X.prog X.w) X.A (Gu op v u) (EP X pins σ Q) X.xe s₂) X.xe s₁) X.xe s
def wG(b:Expr)(h:op≠ .In)(h2:op≠ .NotIn):Ie op b=false:=by
 have e1:(op==mI)=false:=by cases op<;>first | rfl | exact absurd rfl h
 have e2:(op==qI)=false:=by cases op<;>first | rfl | exact absurd rfl h2
 cases b<;>simp[Ie,e1,e2]
noncomputable def AF9(ta:TE):TE:=fun σ H Q=>ta σ H fun x H1=>Q (.bl<|decide (x= .non)) H1
theorem RelV.vn(r:RelV x v):(v==Sd)=decide (x= .non):=by
 cases x with
 | non=>cases r;rfl
 | bl _=>cases r;rfl
 | int _=>obtain⟨t,rfl⟩:=r;rfl
 | str _=>obtain⟨t,rfl⟩:=r;rfl
 | byt _=>obtain⟨t,rfl⟩:=r;rfl
 | flt _=>obtain⟨t,rfl⟩:=r;rfl
 | ref _=>cases r;rfl
 | ty _=>cases r;rfl
def Kg(ha:PE X a ta):PC X .Is a (.Constant .none j pos') (AF9 ta):=
 fun pins s σ H Q I h=>HV (ha pins s σ H _ I h) fun v s1 x H1 I1 r1 q1=>qJ<|is_none_gen ⟨.bl _,H1,I1,by rw[r1.vn];rfl,q1⟩
noncomputable def tB(t:TE):TT:=fun σ H Q=>t σ H fun x H1=>uF x fun c=>Q c H1
def KW(h:PC X op a b t)(h1:Ie op b=false:=by first | exact wG _ (by decide) (by decide) | rfl):PT X (.Compare a [op] [b] pos) (tB t):=by
 refine fun pins s σ H Q I hw=>pj (QE (h pins s σ H _ I hw) fun v s1 h1=>QE h1 fun u s2 h2=>QE h2 fun c s3 ⟨x,H1,I1,r1,q1⟩=>?_) h1
 obtain⟨d,rfl,q⟩:=uF.ex q1
 cases r1
 exact Le ⟨H1,I1,q⟩
def MN(h:PE X e t)(he: ∀ whole,isTrue e X.env whole=(do let v <-whole;J1 e.pos;Hd [v] (truthy v)):=by intro _;rfl):PT X e (tB t):=by
 refine fun pins s σ H Q I hw=>isTrue_plain (HV (h pins s σ H _ I hw) fun v s1 x H1 I1 r1 q1=>?_)<|he _
 obtain⟨d,rfl,q⟩:=uF.ex q1
 cases r1
 exact Le ⟨H1,I1,q⟩
variable{tA tB':TT}{rest:List Expr}
noncomputable def AFk(t u:TT):TT:=fun σ H Q=>t σ H fun c H1=>if c=true then u σ H1 Q else Q false H1
noncomputable def tOr(t u:TT):TT:=fun σ H Q=>t σ H fun c H1=>if c=true then Q true H1 else u σ H1 Q
noncomputable def AFM(t:TT):TT:=fun σ H Q=>t σ H fun c H1=>Q (!c) H1
theorem Oh(ha:PT X a tA):PW X (.BoolOp .And [a] pos) tA:=by
 refine fun wh pins s σ H Q I h=>isTrue_and<|QE (ha pins s σ H Q I h) fun c s1 e=>?_
 cases c with
 | true=>exact isTrue_and_nil e
 | false=>exact e
theorem GL(ha:PT X a tA):PW X (.BoolOp .Or [a] pos) tA:=by
 refine fun wh pins s σ H Q I h=>isTrue_or<|QE (ha pins s σ H Q I h) fun c s1 e=>?_
 cases c with
 | false=>exact isTrue_or_nil e
 | true=>exact e
theorem UP(ha:PT X a tA)(hb:PW X (.BoolOp .And (b::rest) pos) tB'):PW X (.BoolOp .And (a::b::rest) pos) (AFk tA tB'):=by
 refine fun wh pins s σ H Q I h=>isTrue_and<|QE (ha pins s σ H _ I h) fun c s1 ⟨H1,I1,q1⟩=>?_
 cases c with
 | true=>exact hb wh pins s1 σ H1 Q I1 q1
 | false=>exact⟨H1,I1,q1⟩
theorem Fy(ha:PT X a tA)(hb:PW X (.BoolOp .Or (b::rest) pos) tB'):PW X (.BoolOp .Or (a::b::rest) pos) (tOr tA tB'):=by
 refine fun wh pins s σ H Q I h=>isTrue_or<|QE (ha pins s σ H _ I h) fun c s1 ⟨H1,I1,q1⟩=>?_
 cases c with
 | true=>exact⟨H1,I1,q1⟩
 | false=>exact hb wh pins s1 σ H1 Q I1 q1
def w6(ha:PT X a tA):PT X (.UnaryOp .Not a pos) (AFM tA):=
 fun pins s σ H Q I h=>isTrue_not<|ha pins s σ H (fun c H1=>Q (!c) H1) I h
noncomputable def ADQ(ta tb:TE):TE:=fun σ H Q=>ta σ H fun x H1=>uF x fun c=>if c=true then tb σ H1 Q else Q (.bl false) H1
noncomputable def AFu(ta tb:TE):TE:=fun σ H Q=>ta σ H fun x H1=>uF x fun c=>if c=true then Q (.bl true) H1 else tb σ H1 Q
def wC(h:PE X a t):PE X (.BoolOp op [a] pos) t:=fun pins s σ H Q I hw=>BoolOp_one (h pins s σ H Q I hw)
theorem ACZ(ha:PE X a ta)(hb:PE X (.BoolOp .And (b::rest) pos) tb):PE X (.BoolOp .And (a::b::rest) pos) (ADQ ta tb):=by
 refine fun pins s σ H Q I h=>BoolOp_and<|HV (ha pins s σ H _ I h) fun v s1 x H1 I1 r1 q1=>?_
 obtain⟨c,rfl,q1⟩:=uF.ex q1
 cases r1
 refine Le ?_
 cases c with
 | true=>exact hb pins s1 σ H1 Q I1 q1
 | false=>exact⟨.bl false,H1,I1,rfl,q1⟩
theorem ADc(ha:PE X a ta)(hb:PE X (.BoolOp .Or (b::rest) pos) tb):PE X (.BoolOp .Or (a::b::rest) pos) (AFu ta tb):=by
 refine fun pins s σ H Q I h=>BoolOp_or<|HV (ha pins s σ H _ I h) fun v s1 x H1 I1 r1 q1=>?_
 obtain⟨c,rfl,q1⟩:=uF.ex q1
 cases r1
 refine Le ?_
 cases c with
 | false=>exact hb pins s1 σ H1 Q I1 q1
 | true=>exact⟨.bl true,H1,I1,rfl,q1⟩
noncomputable def tIf(t:TT)(ta tb:TE):TE:=fun σ H Q=>t σ H fun c H1=>if c=true then ta σ H1 Q else tb σ H1 Q
theorem Bm(hc:PT X c tA)(ha:PE X a ta)(hb:PE X b tb):PE X (.IfExp c a b pos) (tIf tA ta tb):=by
 refine fun pins s σ H Q I h=>wpAny_IfExp<|QE (hc pins s σ H _ I h) fun d s1 ⟨H1,I1,q1⟩=>?_
 cases d with
 | true=>exact ha pins s1 σ H1 Q I1 q1
 | false=>exact hb pins s1 σ H1 Q I1 q1
end
end L2
namespace L2
open PySem PySem.Spec PyProof.Rows
noncomputable def BF(K:AS)(H:Hp)(a:AK)(xs:List V):Prop:=
 Rd H a (.lst xs)\/
  ∃ o its n,K.lookup a=some o/\o.cls= .type "list"/\o.dict=none/\o.data= .seq its n/\its.size<=sizeLine/\Vals xs its.toList
noncomputable def Dh(K:AS)(H:Hp)(a:AK)(xs:List V):Prop:=
 Rd H a (.tup xs)\/
  ∃ o its n,K.lookup a=some o/\o.cls= .type "tuple"/\o.data= .seq its n/\its.size<=sizeLine/\Vals xs its.toList
noncomputable def AFl:AN->Option V
 | .none=>some .non
 | .bool b=>some<|.bl b
 | .int i _=>some<|.int i
 | .str x _=>some<|.str x
 | .bytes b _=>some<|.byt b
 | .float b _=>some<|.flt b
 | .ref a=>some<|.ref a
 | .type n=>some<|.ty n
 | _=>none
theorem RelV.abs(r:RelV x u):AFl u=some x:=by
 cases x with
 | non=>cases r;rfl
 | bl _=>cases r;rfl
 | int _=>obtain⟨t,rfl⟩:=r;rfl
 | str _=>obtain⟨t,rfl⟩:=r;rfl
 | byt _=>obtain⟨t,rfl⟩:=r;rfl
 | flt _=>obtain⟨t,rfl⟩:=r;rfl
 | ref _=>cases r;rfl
 | ty _=>cases r;rfl
def RelV.inj(r:RelV x u)(q:RelV y u):x=y:=C_ (r.abs.symm.trans q.abs)
theorem Vals.inj{xs ys:List V}{us:List AN}(h:Vals xs us)(k:Vals ys us):xs=ys:=by
 induction h generalizing ys with
 | nil=>cases k;rfl
 | cons r t ih=>
  cases k with
  | cons r' t'=>rw[r.inj r',ih t']
section
variable{X:Cx}{pins:List (AK×Obj)}{σ:St}{H:Hp}{s:Az}{a:AK}{xs ys:List V}
def BF.of{K:AS}(h:H a=some (.lst xs)):BF K H a xs:= .inl (.inl h)
def Dh.of{K:AS}(h:H a=some (.tup xs)):Dh K H a xs:= .inl (.inl h)
def Inv.list(I:Inv X pins σ H s)(h:BF X.K H a xs): ∃ its:List AN,Vals xs its/\PlainL s.heap a its.toArray/\xs.length<=sizeLine:=by
 rcases h with h |⟨o,its,n,hk,hc,hd,hs,hz,r⟩
 ·obtain⟨z,its,n,r,e⟩:=h.ok I.C1
  exact⟨its,r,⟨_,n,e,rfl,rfl,rfl⟩,z⟩
 ·refine⟨its.toList,r,⟨o,n,I.Qs a o hk,hc,hd,by simpa using hs⟩,?_⟩
  have e:=r.length
  simp only[pZ]at e
  lia
def Inv.tuple(I:Inv X pins σ H s)(h:Dh X.K H a xs): ∃ its:List AN,Vals xs its/\IsTup s.heap a its.toArray/\xs.length<=sizeLine:=by
 rcases h with h |⟨o,its,n,hk,hc,hs,hz,r⟩
 ·obtain⟨z,its,r,p⟩:=h.ok I.C1
  exact⟨its,r,p,z⟩
 ·refine⟨its.toList,r,⟨o,I.Qs a o hk,hc,n,by simpa using hs⟩,?_⟩
  have e:=r.length
  simp only[pZ]at e
  lia
def Inv.g9(I:Inv X pins σ H s)(h:BF X.K H a xs)(h':BF X.K H a ys):xs=ys:=by
 obtain⟨its,r,⟨o,n,e,_,_,d⟩,_⟩:=I.list h
 obtain⟨its',r',⟨o',n',e',_,_,d'⟩,_⟩:=I.list h'
 rw[e]at e';cases e'
 rw[d]at d'
 injection d' with d1 _
 have:its=its':=by simpa using BO pP d1
 subst this
 exact r.inj r'
end
noncomputable abbrev Cx.YQ(X:Cx)(E:AN->Az->Prop):Cx:={X with xe:=E}
noncomputable abbrev Cx.nox(X:Cx):Cx:=X.YQ fun _ _=>False
def Cx.Ok.YQ{X:Cx}(ok:X.Ok)(E:AN->Az->Prop):(X.YQ E).Ok:=
 ⟨ok.mod,ok.kind,ok.glob,ok.blt,ok.above,ok.inj,ok.has,ok.cab,ok.hd,ok.frames,ok.C2,ok.exf,ok.bs,ok.uB,ok.kF,ok.jz,ok.funs,ok.y2,ok.nd⟩
def Cx.Ok.Lf{X:Cx}(ok:(X.YQ E).Ok):X.Ok:=
 ⟨ok.mod,ok.kind,ok.glob,ok.blt,ok.above,ok.inj,ok.has,ok.cab,ok.hd,ok.frames,ok.C2,ok.exf,ok.bs,ok.uB,ok.kF,ok.jz,ok.funs,ok.y2,ok.nd⟩
section
variable{X:Cx}{pins:List (AK×Obj)}{σ:St}{H:Hp}{s:Az}{E:AN->Az->Prop}
def Inv.YQ(I:Inv X pins σ H s)(E:AN->Az->Prop):Inv (X.YQ E) pins σ H s:=⟨I.ok.YQ E,I.os,I.bare,I.base,I.loc,I.cell,I.free,I.KH,I.pin,I.C1,I.len⟩
def Inv.Lf(I:Inv (X.YQ E) pins σ H s):Inv X pins σ H s:=⟨I.ok.Lf,I.os,I.bare,I.base,I.loc,I.cell,I.free,I.KH,I.pin,I.C1,I.len⟩
theorem SP.Lf(h:SP (X.YQ E) pins D f s'):SP X pins D f s':=by
 cases f with
 | next=>obtain⟨σ',H',I,q⟩:=h;exact⟨σ',H',I.Lf,q⟩
 | brk=>obtain⟨σ',H',I,q⟩:=h;exact⟨σ',H',I.Lf,q⟩
 | cont=>obtain⟨σ',H',I,q⟩:=h;exact⟨σ',H',I.Lf,q⟩
 | ret u=>obtain⟨v,σ',H',I,r,q⟩:=h;exact⟨v,σ',H',I.Lf,r,q⟩
def dX.nox{st:List Bi}(h:dX X.nox st t):dX X st t:=fun pins s σ H D I hw=>
 Et (h pins s σ H D (I.YQ _) hw) (fun _ _ q=>q.Lf) fun _ _ z=>DK z
end
section
variable{X:Cx}{st:Bi}{rest:List Bi}{t u:TS}{e:Expr}{te:TE}{pos:Pos}
noncomputable def Zw:TS:=fun D σ H=>D.nx σ H
noncomputable def xR(t u:TS):TS:=fun D σ H=>t {D with nx:=u D} σ H
def AX:dX X [] Zw:=fun _ _ σ H _ I h=>OV ⟨σ,H,I,h⟩
theorem AB(h1:PS X st t)(h2:dX X rest u):dX X (st::rest) (xR t u):=by
 refine fun pins s σ H D I h=>fV<|QE (h1 pins s σ H {D with nx:=u D} I h) fun f s1 q=>?_
 cases f with
 | next=>
  obtain⟨σ',H',I',q⟩:=q
  exact h2 pins s1 σ' H' D I' q
 | ret v=>exact q
 | brk=>exact q
 | cont=>exact q
theorem AF(h1:PS X st t):dX X [st] t:=by
 refine fun pins s σ H D I h=>fV<|QE (h1 pins s σ H D I h) fun f s1 q=>?_
 cases f with
 | next=>exact OV q
 | ret v=>exact q
 | brk=>exact q
 | cont=>exact q
def AAJ:PS X (.Pass pos) Zw:=fun _ _ σ H _ I h=>wpAny_Pass ⟨σ,H,I,h⟩
def Inv.quiet{pins:List (AK×Obj)}{σ:St}(I:Inv X pins σ H s):interactive X.env=false:=by simp[interactive,I.ok.kind]
noncomputable def AEd(te:TE):TS:=fun D σ H=>te σ H fun _ H1=>D.nx σ H1
def Ad(he:PE X e te)(hs:Gb e none pos.line X.env=CA false:=by rfl):PS X (.Expr e pos) (AEd te):=
 fun pins s σ H D I h=>qa (HV (he pins s σ H _ I h) fun v s1 x H1 I1 r1 q1=>⟨σ,H1,I1,q1⟩) I.quiet hs
noncomputable def dt(te:TE):TS:=fun D σ H=>te σ H D.rt
def AY(he:PE X e te):PS X (.Return (some e) pos) (dt te):=
 fun pins s σ H D I h=>wpAny_Return_some<|HV (he pins s σ H _ I h) fun v s1 x H1 I1 r1 q1=>⟨x,σ,H1,I1,r1,q1⟩
noncomputable def ADy:TS:=fun D _ H=>D.rt .non H
def f6:PS X (.Return none pos) ADy:=fun _ _ σ H _ I h=>wpAny_Return_none ⟨.non,σ,H,I,rfl,h⟩
noncomputable def uJ(c:TT)(t u:TS):TS:=fun D σ H=>c σ H fun b H1=>if b=true then t D σ H1 else u D σ H1
theorem Aq(hc:PT X c tc)(ha:dX X a t)(hb:dX X b u):PS X (.If c a b pos) (uJ tc t u):=by
 refine fun pins s σ H D I h=>wpAny_If<|QE (hc pins s σ H _ I h) fun d s1 ⟨H1,I1,q1⟩=>?_
 cases d with
 | true=>exact ha pins s1 σ H1 D I1 q1
 | false=>exact hb pins s1 σ H1 D I1 q1
end
noncomputable abbrev TG:=V->St->Hp->(St->Hp->Prop)->Prop
noncomputable abbrev TGs:=List V->St->Hp->(St->Hp->Prop)->Prop
noncomputable def PG(X:Cx)(target:Expr)(t:TG):Prop:=
 ∀(pins:List (AK×Obj)) s (σ:St) H v u Q,Inv X pins σ H s->RelV v u->t v σ H Q->
  Aw (Ai X.prog X.w) X.A (Sw target X.env u) (fun _ s'=> ∃ σ' H',Inv X pins σ' H' s'/\Q σ' H') X.xe s
noncomputable def PGs(X:Cx)(ts:List Expr)(t:TGs):Prop:=
 ∀(pins:List (AK×Obj)) s (σ:St) H vs us Q,Inv X pins σ H s->Vals vs us->t vs σ H Q->
  Aw (Ai X.prog X.w) X.A (assignInOrder ((Ob ts X.env).map (·.2)) us) (fun _ s'=> ∃ σ' H',Inv X pins σ' H' s'/\Q σ' H') X.xe s
noncomputable abbrev AE2:=V->V->V->Hp->(Hp->Prop)->Prop
noncomputable def AEV(X:Cx)(t:AE2):Prop:=
 ∀(pins:List (AK×Obj)) s (σ:St) H o i v ov iv u Q,Inv X pins σ H s->RelV o ov->RelV i iv->RelV v u->t o i v H Q->
  Aw (Ai X.prog X.w) X.A (fZ ov iv u) (fun _ s'=> ∃ H',Inv X pins σ H' s'/\Q H') X.xe s
noncomputable abbrev TIp:=V->V->Hp->VK->Prop
noncomputable def PIp(X:Cx)(op:Operator)(t:TIp):Prop:=
 ∀(pins:List (AK×Obj)) s (σ:St) H x y v u Q,Inv X pins σ H s->RelV x v->RelV y u->t x y H Q->
  Aw (Ai X.prog X.w) X.A (b7 op v u) (EP X pins σ Q) X.xe s
section
variable{X:Cx}{pos:Pos}
noncomputable def RZ(i:Nat):TG:=fun v σ H Q=>Q (σ.set i<|some v) H
def yo(hN:X.N.Nodup)(hi:X.N[i]?=some x)(hx:Loc X.env.scope x)(hf:X.fn x=true\/X.env.scope.names.lookup x=some .local:=by first | exact .inl rfl | exact .inr rfl | assumption):PG X (.Name x pos) (RZ i):=
 fun pins s σ H v u Q I r h=>ng<|So I hN hi hx r (fun s' I'=>⟨_,H,I',h⟩) hf
noncomputable def AFH:TGs:=fun vs σ H Q=>vs= []/\Q σ H
noncomputable def AEl(t:TG)(u:TGs):TGs:=fun vs σ H Q=> ∃ v r,vs=v::r/\t v σ H fun σ' H'=>u r σ' H' Q
def MX:PGs X [] AFH:=by
 intro pins s σ H vs us Q I r h
 obtain⟨e,h⟩:=h
 subst e
 cases r
 exact assignInOrder_nil ⟨σ,H,I,h⟩
theorem Dk(h1:PG X e t)(h2:PGs X es u)
  (hs:(Ob (e::es) X.env).map (·.2)=Sw e X.env::(Ob es X.env).map (·.2):=by rfl):PGs X (e::es) (AEl t u):=by
 intro pins s σ H vs us Q I r h
 obtain⟨v,vr,e1,h⟩:=h
 subst e1
 cases r with
 | cons r rr=>
  rw[hs]
  refine assignInOrder_cons<|QE (h1 pins s σ H _ _ _ I r h) fun _ s1 ⟨σ1,H1,I1,q1⟩=>?_
  exact h2 pins s1 σ1 H1 _ _ Q I1 rr q1
noncomputable def AEN(K:AS)(n:Nat)(t:TGs):TG:=fun v σ H Q=> ∃ a xs,v= .ref a/\Dh K H a xs/\xs.length=n/\t xs σ H Q
def RH{k:Nat}(hc:X.calm=true)(h:PGs X es t)
  (hn:(Ob es X.env).length=n:=by rfl) (hst:(Ob es X.env).findIdx? (·.1)=none:=by rfl):PG X (.Tuple es k pos) (AEN X.K n t):=by
 intro pins s σ H v u Q I r hw
 obtain⟨a,xs,e1,hq,hl,hw⟩:=hw
 subst e1
 cases r
 obtain⟨its,rv,ht,hz⟩:=I.tuple hq
 refine assign_Tuple_tuple (I.ok.hd hc) ht (by simp[hn,<-hl,rv.length]) hst fun h' hx=>?_
 have I1:Inv X pins σ H {s with heap:=h'}:=I.kept (t':=s.toks) fun b o e=>hx b o (DP<|Bz e) e
 exact h pins _ σ H xs _ Q I1 (by simpa using rv) hw
noncomputable def AFd(to ti:TE)(t:AE2):TG:=fun v σ H Q=>to σ H fun o H1=>ti σ H1 fun i H2=>t o i v H2 fun H3=>Q σ H3
def Hx(ho:PE X o to)(hi:PE X i ti)(hs:AEV X t)
  (ha: ∀ v,Sw (.Subscript o i pos) X.env v=(do
   let ov <-Hd [v] (eval o X.env)
   let iv <-Hd [v,ov] (eval i X.env)
   J1 pos
   Hd [v,ov,iv] (fZ ov iv v)
   release [v,ov,iv] []):=by intro _;rfl):PG X (.Subscript o i pos) (AFd to ti t):=by
 intro pins s σ H v u Q I r h
 rw[ha]
 exact BP<|XF<|HV (ho pins s σ H _ I h) fun ov s1 x H1 I1 r1 q1=>BP<|XF<|HV (hi pins s1 σ H1 _ I1 q1) fun iv s2 y H2 I2 r2 q2=>BP<|SR<|BP<|XF<|QE (hs pins s2 σ H2 x y v ov iv u _ I2 r1 r2 r q2) fun _ s3 ⟨H3,I3,q3⟩=>wpAny_release ⟨σ,H3,I3,q3⟩
noncomputable def zE(te:TE)(g:TG):TS:=fun D σ H=>te σ H fun x H1=>g x σ H1 D.nx
def Hz(he:PE X e te)(hg:PG X tg g)(hs:swapsWithSole [tg] e pos.line X.env=CA false:=by rfl)(hw:swappedStores [tg] e X.env=CA none:=by rfl)
  (h1:(Ob [tg] X.env).map (·.2)= [Sw tg X.env]:=by rfl):PS X (.Assign [tg] e pos) (zE te g):=by
 refine fun pins s σ H D I h=>wpAny_Assign_stores (HV (he pins s σ H _ I h) fun v s1 x H1 I1 r1 q1=>?_) hs hw
 rw[h1]
 exact QE (hg pins s1 σ H1 x v _ I1 r1 q1) fun _ s2 q=>q
def lH(hN:X.N.Nodup)(hi:X.N[i]?=some x)(hx:Loc X.env.scope x)(he:PE X e te)(hs:Gb e (some<|.Name x pos') pos.line X.env=CA false:=by rfl)(hf:X.fn x=true\/X.env.scope.names.lookup x=some .local:=by first | exact .inl rfl | exact .inr rfl | assumption):
  PS X (.Assign [.Name x pos'] e pos) (zE te<|RZ i):=by
 refine fun pins s σ H D I h=>wpAny_Assign_Name (HV (he pins s σ H _ I h) fun v s1 y H1 I1 r1 q1=>?_) hs
 exact So I1 hN hi hx r1 (fun s2 I2=>⟨_,H1,I2,q1⟩) hf
noncomputable def AE6(i:Nat)(te:TE)(ti:TIp):TS:=fun D σ H=> ∃ x,σ[i]?=some (some x)/\te σ H fun y H1=>ti x y H1 fun z H2=>D.nx (σ.set i<|some z) H2
def ABQ(hN:X.N.Nodup)(hi:X.N[i]?=some x)(hx:Loc X.env.scope x)(he:PE X e te)(ho:PIp X op ti)(hf:X.fn x=true\/X.env.scope.names.lookup x=some .local:=by first | exact .inl rfl | exact .inr rfl | assumption):
  PS X (.AugAssign (.Name x pos') op e pos) (AE6 i te ti):=by
 rintro pins s σ H D I ⟨v,e1,h⟩
 obtain⟨m,hn,hl⟩:=I.loc
 have vis:wB X.env.scope x:=by rcases hx with k | k;exact .inl k;exact .inr<|.inl k
 obtain⟨u,r,l⟩:=hl i x v hi e1 vis
 refine wpAny_AugAssign_Name ?_
 have go:Aw (Ai X.prog X.w) X.A (eval e X.env) (fun w s₂=>Aw (Ai X.prog X.w) X.A (b7 op u w) (fun r s₃=>Aw (Ai X.prog X.w) X.A (fg X.env x r) (fun _=>SP X pins D .next) X.xe s₃) X.xe s₂) X.xe s:=by
  exact HV (he pins s σ H _ I h) fun w s1 y H1 I1 r1 q1=>HV (ho pins s1 σ H1 v y u w _ I1 r r1 q1) fun z s2 zv H2 I2 r2 q2=>So I2 hN hi hx r2 (fun s3 I3=>⟨_,H2,I3,q2⟩) hf
 rcases l with⟨hk,hm⟩ |⟨hk,c,hc,hcell⟩
 ·exact qk I.ok.kind hk hn hm go
 ·rcases hk with hk | hk
  ·exact qG I.ok.kind hk hc hcell go
  ·rcases hx with k | k
   ·have:X.env.scope.names.lookup x=some .free:=hk
    rw[k]at this;cases this
   ·have:X.env.scope.names.lookup x=some .free:=hk
    rw[k]at this;cases this
noncomputable def ipI(f:Int->Int->Int):TIp:=fun x y H Q=> ∃ i j,x= .int i/\y= .int j/\Q (.int<|f i j) H
def cu:PIp X .Add (ipI fun i j=>i+j):=by
 rintro pins s σ H x y v u Q I r1 r2 ⟨i,j,e1,e2,q⟩
 subst e1;subst e2
 obtain⟨t,rfl⟩:=r1
 obtain⟨t',rfl⟩:=r2
 exact pW ⟨.int _,H,I.tok _,⟨_,rfl⟩,q⟩
def ABD:PIp X .Sub (ipI fun i j=>i-j):=by
 rintro pins s σ H x y v u Q I r1 r2 ⟨i,j,e1,e2,q⟩
 subst e1;subst e2
 obtain⟨t,rfl⟩:=r1
 obtain⟨t',rfl⟩:=r2
 exact lW ⟨.int _,H,I.tok _,⟨_,rfl⟩,q⟩
end
section
variable{X:Cx}{pos:Pos}
noncomputable def uj(c:TT)(tb:TS):TS:=fun D σ H=> ∃ W:Nat->St->Hp->Prop,(∃ m,W m σ H)/\ ∀ m σ H,W m σ H->
 c σ H fun b H1=>if b=true then ∃ N,(∀ σ' H',N σ' H'-> ∃ m',m'<m/\W m' σ' H')/\tb {D with nx:=N,ct:=N,bk:=D.nx} σ H1 else D.nx σ H1
theorem JH(hp:PassesOwn (Ai X.prog X.w) X.A X.env X.xe)(hc:PT X c tc)(hb:dX X body tb):PS X (.While c body [] pos) (uj tc tb):=by
 rintro pins s σ H D I ⟨W,⟨m0,w0⟩,turn⟩
 refine wpAny_While<|codeAny_whileLoop (fun n s'=> ∃ σ' H',Inv X pins σ' H' s'/\W n σ' H') ?_ m0 ⟨σ,H,I,w0⟩
 rintro n s1 ⟨σ1,H1,I1,w1⟩
 refine Lc hp<|QE (hc pins s1 σ1 H1 _ I1<|turn n σ1 H1 w1) fun b s2 ⟨H2,I2,q2⟩=>?_
 cases b with
 | true=>
  obtain⟨N,hN,q2⟩:=q2
  rw[AI rfl]
  refine Lc hp<|QE (hb pins s2 σ1 H2 _ I2 q2) fun f s3 q3=>?_
  cases f with
  | next=>
   obtain⟨σ3,H3,I3,n3⟩:=q3
   obtain⟨m',hm,w3⟩:=hN σ3 H3 n3
   exact⟨m',hm,σ3,H3,I3,w3⟩
  | cont=>
   obtain⟨σ3,H3,I3,n3⟩:=q3
   obtain⟨m',hm,w3⟩:=hN σ3 H3 n3
   exact⟨m',hm,σ3,H3,I3,w3⟩
  | brk=>exact q3
  | ret v=>exact q3
 | false=>
  rw[AG D2]
  exact OV ⟨σ1,H2,I2,q2⟩
end
structure It where
 go:Nat->Hp->Prop
 uC:Nat->Hp->V->Hp->Prop
 stop:Nat->Hp->Prop
noncomputable def YD(X:Cx)(pins:List (AK×Obj))(H:Hp)(b:AK):Prop:=
 H b=none/\b≠X.env.locals/\b∉X.fs/\(b∈X.ex\/X.Pw.heap.objs.size<=b)/\(∀ x c,X.env.cells.lookup x=some c->c≠b)/\ ∀ p∈X.pn++pins,p.1≠b
def Inv.wu{X:Cx}{σ:St}{b:AK}(I:Inv X pins σ H s)(hb:s.heap.objs.size<=b)(hn:H' b=none):YD X pins H' b:=by
 refine⟨hn,Wo<|DO I.lt hb,I.AFO hb,.inr<|CC I.sz hb,fun x c e z=>?_,fun p hp z=>absurd (DO (Bz (I.pin p hp).1)<|by rw[z];exact hb)<|GC _⟩
 ·obtain⟨v,q⟩:=I.cell x c e
  exact absurd (DO q.lt<|by rw[z];exact hb)<|GC _
structure Turn(P:BH)(w:Ap)(K:AS)(tg:Expr)(J:It)(fp:List AK)(it:AK)(tn:Nat->Ay->Prop):Prop where
 mem:it∈fp
 obj: ∀ i h,tn i h-> ∀ b∈fp,∃ o,h.get? b=some o/\ ∀ v,o.data≠ .cell v
 keep: ∀ i h h',tn i h->(∀ b∈fp,∀ o,h.get? b=some o->h'.get? b=some o)->tn i h'
 item: ∀(X:Cx),X.prog=P->X.w=w->X.K=K->X.calm=true-> ∀ i pins s (σ:St) H E,Inv X pins σ H s->(∀ b∈fp,YD X pins H b)->tn i s.heap->J.go i H->
  Aw (Ai P w) X.A (pyNext (.ref it)) (fun r s1=> ∃ u,r=some u/\
   Aw (Ai P w) X.A (WR tg (.ref it) u) (fun _ s2=> ∃ x H',Inv X pins σ H' s2/\RelV x u/\J.uC i H x H'/\tn (i+1) s2.heap/\ ∀ b∈fp,H' b=none) E s1) E s
 done: ∀ X,X.prog=P->X.w=w->X.K=K->X.calm=true-> ∀ i pins s (σ:St) H E,Inv X pins σ H s->(∀ b∈fp,YD X pins H b)->tn i s.heap->J.stop i H->
  Aw (Ai P w) X.A (pyNext (.ref it)) (fun r s1=>r=none/\Inv X pins σ H s1) E s
 self: ∀ A i s Q E,tn i s.heap->Q (.ref it) s->Aw (Ai P w) A (pyIter (.ref it)) Q E s
noncomputable abbrev TI:=St->Hp->(It->Hp->Prop)->Prop
noncomputable def PIE(X:Cx)(pins:List (AK×Obj))(σ:St)(tg:Expr)(R:It->Hp->Prop)(itv:AN)(s2:Az):Prop:=
 ∃(it:AK) (fp:List AK) (tn:Nat->Ay->Prop) (J:It) (H':Hp),itv= .ref it/\Inv X pins σ H' s2/\Turn X.prog X.w X.K tg J fp it tn/\tn 0 s2.heap/\(∀ b∈fp,YD X pins H' b)/\R J H'
noncomputable def PI(X:Cx)(tg iter:Expr)(wi:TI):Prop:=
 ∀(pins:List (AK×Obj)) s (σ:St) H R,Inv X pins σ H s->wi σ H R->
  Aw (Ai X.prog X.w) X.A (eval iter X.env) (fun v s1=>Aw (Ai X.prog X.w) X.A (pyIter v) (PIE X pins σ tg R) X.xe s1) X.xe s
def vt(ho:s.heap.get? it=some o)(hc:o.cls= .type n)(hd:o.data= .fields vs)
  (hn: ["enumerate","zip","dict_itemiterator","dict_reverseitemiterator","odict_iterator","itertools.zip_longest","itertools.pairwise"].contains n=false) (hQ:Q () s):Aw M A (WR tg (.ref it) u) Q E s:=by
 unfold WR
 cases tg<;>first
  | exact Ck hQ
  |(cases u<;>first
    | exact Ck hQ
    |(
      refine BP<|wpAny_load ho ?_
      rw[hc,hd]
      show Aw M A (if(["enumerate","zip","dict_itemiterator","dict_reverseitemiterator","odict_iterator","itertools.zip_longest","itertools.pairwise"].contains n&&vs[0]?==some (rawInt _))=true then _ else _) Q E s
      rw[AG<|by intro h;rw[hn,Bool.false_and]at h;cases h]
      exact Ck hQ))
noncomputable def mZ(K:AS)(a:AK):It:=
 ⟨fun i H=> ∃ xs x,BF K H a xs/\xs[i]?=some x,fun i H x H'=>H'=H/\ ∀ xs,BF K H a xs->xs[i]?=some x,fun i H=> ∃ xs,BF K H a xs/\xs.length<=i⟩
noncomputable def xh(lo:Int)(n:Nat):It:=⟨fun i _=>i<n,fun i H x H'=>H'=H/\x= .int (lo+i),fun i _=>n<=i⟩
theorem rk{P:BH}{K:AS}(a it:AK):Turn P w K tg (mZ K a) [it] it (fun i h=>h.IsListIter it a i) where
 mem:=by simp
 obj:=fun i h st b hb=>by
  have e:b=it:=by simpa using hb
  subst e
  obtain⟨o,e,c,d⟩:=st
  exact⟨o,e,fun v z=>by rw[d]at z;cases z⟩
 keep:=fun i h h' st k=>st.at fun o e=>k it (by simp) o e
 item:=by
  intro X hP hw hK hc i pins s σ H E I hf st hg
  subst hP hw hK
  obtain⟨xs,x,hq,hx⟩:=hg
  obtain⟨its,rv,p,hz⟩:=I.list hq
  obtain⟨u,hu,ru⟩:=rv.get hx
  obtain⟨f0,f1,f2,f3,f4,f5⟩:=hf it<|by simp
  refine wpAny_pyNext_list_item st p.isList (x:=u) (by simpa using hu) fun h' st' sb=>?_
  have I1:Inv X pins σ H {s with heap:=h'}:=I.turned (t':=s.toks) (fun b o hb e=>(sb.2 b hb).trans e) f0 f1 f3 f4 f5
  obtain⟨o,e,c,d⟩:=id st'
  exact⟨u,rfl,vt (s:={s with heap:=h'}) e c d (by decide) ⟨x,H,I1,ru,⟨rfl,fun ys hy=>by rw[I.g9 hy hq];exact hx⟩,st',fun b hb=>(hf b hb).1⟩⟩
 done:=by
  intro X hP hw hK hc i pins s σ H E I hf st hg
  subst hP hw hK
  obtain⟨xs,hq,hx⟩:=hg
  obtain⟨its,rv,p,hz⟩:=I.list hq
  obtain⟨f0,f1,f2,f3,f4,f5⟩:=hf it<|by simp
  have hl:=rv.length
  exact wpAny_pyNext_list_end (I.ok.hd hc) st p.isList (by simp;lia) fun h' eb=>⟨rfl,I.turned (t':=s.toks) (fun b o hb e=>eb b o hb e) f0 f1 f3 f4 f5⟩
 self:=fun _ _ _ _ _ st h=>wpAny_pyIter_listiter st h
theorem kn{P:BH}{K:AS}(it:AK)(lo:Int)(n:Nat):Turn P w K tg (xh lo n) [it] it (fun i h=>IsRangeIter h it (lo+(i:Nat)*1) ((n:Int)- (i:Nat)) 1) where
 mem:=by simp
 obj:=fun i h st b hb=>by
  have e:b=it:=by simpa using hb
  subst e
  exact⟨_,st,fun v z=>by
   have z':Data.fields _=Data.cell v:=z
   cases z'⟩
 keep:=fun i h h' st k=>k it (by simp) _ st
 item:=by
  intro X hP hw hK hc i pins s σ H E I hf st hg
  subst hP hw hK
  obtain⟨f0,f1,f2,f3,f4,f5⟩:=hf it<|by simp
  have W:=mQ (prog:=X.prog) (w:=X.w) (I.ok.hd hc) it lo 1 n
  refine W.item i s _ _ hg st fun v h' tk hv st' kk=>?_
  obtain⟨t,rfl⟩:=hv
  have I1:Inv X pins σ H {s with heap:=h',toks:=tk}:=I.turned (fun b o hb e=>kk b o (by simpa using hb) e) f0 f1 f3 f4 f5
  refine⟨_,rfl,vt (s:={s with heap:=h',toks:=tk}) (n:="range_iterator") st' rfl rfl (by decide) ⟨.int<|lo+i,H,I1,⟨t,?_⟩,⟨rfl,rfl⟩,st',fun b hb=>(hf b hb).1⟩⟩
  rw[Int.mul_one]
 done:=by
  intro X hP hw hK hc i pins s σ H E I hf st hg
  subst hP hw hK
  obtain⟨f0,f1,f2,f3,f4,f5⟩:=hf it<|by simp
  exact pK (I.ok.hd hc) st (by have:n<=i:=hg;lia) fun h' eb=>⟨rfl,I.turned (t':=s.toks) (fun b o hb e=>eb b o hb e) f0 f1 f3 f4 f5⟩
 self:=fun _ _ _ _ _ st h=>pR st h
end L2
namespace L2
open PySem PySem.Spec PyProof.Rows
section
variable{X:Cx}{tg:Expr}
noncomputable def AEq(K:AS)(tl:TE):TI:=fun σ H R=>tl σ H fun x H1=>QL x fun a=>(∃ xs,BF K H1 a xs)/\R (mZ K a) H1
def Gd(hl:PE X l tl):PI X tg l (AEq X.K tl):=by
 refine fun pins s σ H R I h=>HV (hl pins s σ H _ I h) fun v s1 x H1 I1 r1 q1=>?_
 obtain⟨a,rfl,⟨xs,hq⟩,q⟩:=QL.ex q1
 cases r1
 obtain⟨its,rv,p,hz⟩:=I1.list hq
 refine wpAny_pyIter_list p.isList<|⟨s1.heap.objs.size,[s1.heap.objs.size],_,_,H1,rfl,I1.kept fun b o e=>CW _ e,rk a _,⟨_,FP _ rfl,rfl,rfl⟩,fun b hb=>?_,q⟩
 have e:b=s1.heap.objs.size:=by simpa using hb
 subst e
 exact I1.wu (BS _)<|I1.C1.fresh<|BS _
def ig{pins:List (AK×Obj)}{σ:St}{lo hi:Int}(I:Inv X pins σ H s)(h1: -(2^62)<=lo)(h2:lo<2^62)(h3: -(2^62)<=hi)(h4:hi<2^62)
  (q:R (xh lo (hi-lo).toNat) H):Aw (Ai X.prog X.w) X.A (pyIter<|.ref s.heap.objs.size) (PIE X pins σ tg R) E {s with heap:=s.heap.push {cls:= .type "range",data:= .fields #[.int lo t,.int hi u,.int 1 v]},toks:=tk}:=by
 refine pT (mW ..) (small_one h1 h2 h3 h4) ?_
 have I1:Inv X pins σ H {s with heap:=s.heap.push {cls:= .type "range",data:= .fields #[.int lo t,.int hi u,.int 1 v]},toks:=tk}:=I.kept fun b o e=>CW _ e
 refine⟨(s.heap.push {cls:= .type "range",data:= .fields #[.int lo t,.int hi u,.int 1 v]}).objs.size,[(s.heap.push {cls:= .type "range",data:= .fields #[.int lo t,.int hi u,.int 1 v]}).objs.size],_,_,H,rfl,
  I1.kept fun b o e=>CW _ e,kn _ lo (hi-lo).toNat,?_,fun b hb=>?_,q⟩
 ·have e1:lo+((0:Nat):Int)*1=lo:=by simp
  have e2:(((hi-lo).toNat:Nat):Int)- ((0:Nat):Int)=PV lo hi 1:=by rw[rangeSize_one];split<;>lia
  rw[e1,e2]
  exact FP _ rfl
 ·have e:b=(s.heap.push {cls:= .type "range",data:= .fields #[.int lo t,.int hi u,.int 1 v]}).objs.size:=by simpa using hb
  subst e
  exact I1.wu (BS _)<|I1.C1.fresh<|BS _
noncomputable def AEt(ta:TA):TI:=fun σ H R=>ta σ H fun vs H1=> ∃ j,vs= [.int j]/\ -(2^62)<=j/\j<2^62/\R (xh 0 j.toNat) H1
noncomputable def ADq(ta:TA):TI:=fun σ H R=>ta σ H fun vs H1=> ∃ i j,vs= [.int i,.int j]/\(-(2^62)<=i/\i<2^62/\ -(2^62)<=j/\j<2^62)/\R (xh i (j-i).toNat) H1
theorem T3(hg:Gl X "range")(hm:X.mg "range"=none)(ha:PA X [a] ta)(hs:Au [a] X.env= [(false,eval a X.env)]:=by rfl):PI X tg (.Call (.Name "range" p) [a] [] pos) (AEt ta):=by
 refine fun pins s σ H R I h=>R4<|Q4 I hg hm cz<|RJ (ki (ha pos pins s σ H _ I h) fun us s1 vs H1 I1 r1 q1=>?_) hs rfl
 obtain⟨j,rfl,q1,q2,q⟩:=q1
 cases r1 with
 | cons r rr=>
  cases rr
  obtain⟨t,rfl⟩:=r
  exact call_range_1<|ig I1 (by lia) (by lia) q1 q2<|by simpa using q
theorem Uj{p pos:Pos}(hg:Gl X "range")(hm:X.mg "range"=none)(ha:PA X [a,b] ta)(hs:Au [a,b] X.env= [(false,eval a X.env),(false,eval b X.env)]:=by rfl)(hs2:Au [b] X.env= [(false,eval b X.env)]:=by rfl):
  PI X tg (.Call (.Name "range" p) [a,b] [] pos) (ADq ta):=by
 refine fun pins s σ H R I h=>R4<|Q4 I hg hm cz<|RJ (ki (ha pos pins s σ H _ I h) fun us s1 vs H1 I1 r1 q1=>?_) (by rw[hs,hs2])<|by rw[hs2];rfl
 obtain⟨i,j,rfl,⟨q1,q2,q3,q4⟩,q⟩:=q1
 cases r1 with
 | cons r rr=>
  cases rr with
  | cons r' rr=>
   cases rr
   obtain⟨t,rfl⟩:=r
   obtain⟨t',rfl⟩:=r'
   exact call_range_2<|ig I1 q1 q2 q3 q4 q
noncomputable def AF4(wi:TI)(g:TG)(tb:TS):TS:=fun D σ H=>wi σ H fun J H1=> ∃ W:Nat->Nat->St->Hp->Prop,(∃ m,W 0 m σ H1)/\ ∀ i m σ H,W i m σ H->
 (J.stop i H/\D.nx σ H)\/(J.go i H/\ ∃ N,(∀ σ' H',N σ' H'-> ∃ m',m'<m/\W (i+1) m' σ' H')/\ ∀ x H',J.uC i H x H'->g x σ H' fun σ2 H2=>tb {D with nx:=N,ct:=N,bk:=D.nx} σ2 H2)
noncomputable def XZ(fp:List AK)(h:Ay):List (AK×Obj):=fp.filterMap fun b=>(h.get? b).map fun o=>(b,o)
def Qm(hb:b∈fp)(e:h.get? b=some o):(b,o)∈XZ fp h:=dj.mpr ⟨b,hb,by rw[e];rfl⟩
theorem rf(hp:p∈XZ fp h):p.1∈fp/\h.get? p.1=some p.2:=by
 obtain⟨b,hb,e⟩:=dj.mp hp
 cases q:h.get? b with
 | none=>rw[q]at e;cases e
 | some o=>
  rw[q]at e
  have e':=C_ e
  subst e'
  exact⟨hb,q⟩
def Inv.pinned{pins:List (AK×Obj)}{σ:St}(I:Inv X pins σ H s)(hf: ∀ b∈fp,YD X pins H b)(ho: ∀ b∈fp,∃ o,s.heap.get? b=some o/\ ∀ v,o.data≠ .cell v):Inv X (pins++XZ fp s.heap) σ H s:=
 I.pU fun p hp=>(L7.mp hp).elim (fun z=>I.pin p<|J3 _ z) fun z=>by
  obtain⟨hb,e⟩:=rf z
  obtain⟨f0,f1,f2,_⟩:=hf p.1 hb
  obtain⟨o,e',d⟩:=ho p.1 hb
  rw[e]at e';cases e'
  exact⟨e,f0,f1,f2,d⟩
def Inv.Rm{pins pl:List (AK×Obj)}{σ:St}(I:Inv X (pins++pl) σ H s):Inv X pins σ H s:=I.pU fun p hp=>I.pin p (J3 _<|pE _ hp)
def EM(hp:PassesOwn (Ai X.prog X.w) X.A X.env X.xe)(hc:X.calm=true)(hi:PI X tg iter wi)(hg:PG X tg g)(hb:dX X body tb)
  (hs: ∀ x,Wu iter X.env x=CA x:=by intro _;rfl):PS X (.For tg iter body [] pos) (AF4 wi g tb):=by
 refine fun pins s σ H D I h=>wpAny_For (QE (hi pins s σ H _ I h) fun v s1 h1=>QE h1 fun itv s2 h2=>?_) hs
 obtain⟨it,fp,tn,J,H2,rfl,I2,T,st2,f2,W,⟨m0,w0⟩,turn⟩:=h2
 have stat: ∀{H':Hp},(∀ b∈fp,H' b=none)-> ∀ b∈fp,YD X pins H' b:=fun hn b hb=>⟨hn b hb,(f2 b hb).2⟩
 refine codeAny_forLoop_any (fun n s'=> ∃ i σ' H',Inv X pins σ' H' s'/\tn i s'.heap/\(∀ b∈fp,H' b=none)/\W i n σ' H') ?_ m0 ⟨0,σ,H2,I2,st2,fun b hb=>(f2 b hb).1,w0⟩
 rintro n s3 ⟨i,σ3,H3,I3,st3,fr3,w3⟩
 rcases turn i n σ3 H3 w3 with⟨stop,qn⟩ |⟨go,N,hN,step⟩
 ·refine Lc hp (QE (T.done X rfl rfl rfl hc i pins s3 σ3 H3 X.xe I3 (stat fr3) st3 stop) fun r s4 ⟨hr,I4⟩=>?_)
  subst hr
  exact OV ⟨σ3,H3,I4,qn⟩
 ·refine Lc hp (QE (T.item X rfl rfl rfl hc i pins s3 σ3 H3 X.xe I3 (stat fr3) st3 go) fun r s4 ⟨u,hr,h4⟩=>?_)
  subst hr
  refine Lc hp<|QE h4 fun _ s5 ⟨x,H5,I5,r5,y5,st5,fr5⟩=>?_
  refine Lc hp<|QE (hg _ s5 σ3 H5 x u _ (I5.pinned (stat fr5)<|T.obj _ _ st5) r5<|step x H5 y5) fun _ s6 ⟨σ6,H6,I6,q6⟩=>Lc hp<|QE (hb _ s6 σ6 H6 _ I6 q6) fun f s7 q7=>?_
  have again: ∀{σ7:St} {H7:Hp},Inv X (pins++XZ fp s5.heap) σ7 H7 s7->N σ7 H7-> ∃ m,m<n/\ ∃ i σ' H',Inv X pins σ' H' s7/\tn i s7.heap/\(∀ b∈fp,H' b=none)/\W i m σ' H':=fun{σ7 H7} I7 n7=>by
   obtain⟨m',hm,w7⟩:=hN σ7 H7 n7
   refine⟨m',hm,i+1,σ7,H7,I7.Rm,T.keep _ _ _ st5 fun b hb o e=>(I7.pin (b,o)<|J3 _<|J3 _<|Qm hb e).1,fun b hb=>?_,w7⟩
   obtain⟨o,e,d⟩:=T.obj _ _ st5 b hb
   exact(I7.pin (b,o)<|J3 _<|J3 _<|Qm hb e).2.1
  cases f with
  | next=>obtain⟨σ7,H7,I7,n7⟩:=q7;exact again I7 n7
  | cont=>obtain⟨σ7,H7,I7,n7⟩:=q7;exact again I7 n7
  | brk=>obtain⟨σ7,H7,I7,q7⟩:=q7;exact⟨σ7,H7,I7.Rm,q7⟩
  | ret v=>obtain⟨x7,σ7,H7,I7,r7,q7⟩:=q7;exact⟨x7,σ7,H7,I7.Rm,r7,q7⟩
end
def SN{K:AS}{g:TG}{tb:TS}{D:Ends}(Pv:Nat->St->Hp->Prop)(h0:Pv 0 σ H)(hl: ∀ i σ H,i<=xs.length->Pv i σ H->BF K H a xs)
  (hs: ∀ i x σ H,xs[i]?=some x->Pv i σ H->g x σ H fun σ2 H2=>tb {D with nx:=Pv<|i+1,ct:=Pv<|i+1,bk:=D.nx} σ2 H2) (hd: ∀ σ H,Pv xs.length σ H->D.nx σ H):
  ∃ W:Nat->Nat->St->Hp->Prop,(∃ m,W 0 m σ H)/\ ∀ i m σ H,W i m σ H->
   ((mZ K a).stop i H/\D.nx σ H)\/((mZ K a).go i H/\ ∃ N,(∀ σ' H',N σ' H'-> ∃ m',m'<m/\W (i+1) m' σ' H')/\ ∀ x H',(mZ K a).uC i H x H'->g x σ H' fun σ2 H2=>tb {D with nx:=N,ct:=N,bk:=D.nx} σ2 H2):=by
 refine⟨fun i m σ H=>m=xs.length-i/\i<=xs.length/\Pv i σ H,⟨xs.length,by simp,B7 _,h0⟩,?_⟩
 rintro i m σ H ⟨rfl,hi,p⟩
 have q:=hl i σ H hi p
 by_cases hlt:i<xs.length
 ·refine .inr ⟨⟨xs,xs[i],q,by simp[hlt]⟩,Pv<|i+1,fun σ' H' p'=>⟨xs.length- (i+1),by lia,rfl,hlt,p'⟩,fun x H' y=>?_⟩
  obtain⟨rfl,y⟩:=y
  exact hs i x σ _ (y xs q) p
 ·have e:i=xs.length:=by lia
  subst e
  exact .inl ⟨⟨xs,q,BS _⟩,hd σ H p⟩
def Oq{lo:Int}{g:TG}{tb:TS}{D:Ends}(Pv:Nat->St->Hp->Prop)(h0:Pv 0 σ H)
  (hs: ∀ i σ H,i<n->Pv i σ H->g (.int<|lo+i) σ H fun σ2 H2=>tb {D with nx:=Pv<|i+1,ct:=Pv<|i+1,bk:=D.nx} σ2 H2) (hd: ∀ σ H,Pv n σ H->D.nx σ H):
  ∃ W:Nat->Nat->St->Hp->Prop,(∃ m,W 0 m σ H)/\ ∀ i m σ H,W i m σ H->
   ((xh lo n).stop i H/\D.nx σ H)\/((xh lo n).go i H/\ ∃ N,(∀ σ' H',N σ' H'-> ∃ m',m'<m/\W (i+1) m' σ' H')/\ ∀ x H',(xh lo n).uC i H x H'->g x σ H' fun σ2 H2=>tb {D with nx:=N,ct:=N,bk:=D.nx} σ2 H2):=by
 refine⟨fun i m σ H=>m=n-i/\i<=n/\Pv i σ H,⟨n,by simp,B7 _,h0⟩,?_⟩
 rintro i m σ H ⟨rfl,hi,p⟩
 by_cases hlt:i<n
 ·refine .inr ⟨hlt,Pv<|i+1,fun σ' H' p'=>⟨n- (i+1),by lia,rfl,hlt,p'⟩,fun x H' y=>?_⟩
  obtain⟨e,y⟩:=y
  subst e y
  exact hs i σ _ hlt p
 ·have e:i=n:=by lia
  subst e
  exact .inl ⟨BS _,hd σ H p⟩
theorem NP(Pv:St->Hp->Prop)(μ:St->Hp->Nat)(h0:Pv σ H)
  (hs: ∀ σ H,Pv σ H->c σ H fun b H1=>if b=true then tb {D with nx:=fun σ' H'=>Pv σ' H'/\μ σ' H'<μ σ H,ct:=fun σ' H'=>Pv σ' H'/\μ σ' H'<μ σ H,bk:=D.nx} σ H1 else D.nx σ H1)
  (mono: ∀ σ H Q Q',(∀ b H1,Q b H1->Q' b H1)->c σ H Q->c σ H Q'):uj c tb D σ H:=by
 refine⟨fun m σ H=>m=μ σ H/\Pv σ H,⟨_,rfl,h0⟩,?_⟩
 rintro m σ H ⟨rfl,p⟩
 refine mono σ H _ _ (fun b H1 q=>?_)<|hs σ H p
 cases b with
 | true=>exact⟨_,fun σ' H' ⟨p',l⟩=>⟨_,l,rfl,p'⟩,q⟩
 | false=>exact q
end L2
namespace L2
open PySem PySem.Spec PyProof.Rows
noncomputable abbrev R2:=V->V->Hp->VK->Prop
noncomputable def Us(X:Cx)(f:AN->AN->Sem AN)(r:R2):Prop:=
 ∀(pins:List (AK×Obj)) s (σ:St) H x y v u Q,Inv X pins σ H s->RelV x v->RelV y u->r x y H Q->
  Aw (Ai X.prog X.w) X.A (f v u) (EP X pins σ Q) X.xe s
noncomputable def UnR(X:Cx)(f:AN->Sem AN)(r:V->Hp->VK->Prop):Prop:=
 ∀(pins:List (AK×Obj)) s (σ:St) H x v Q,Inv X pins σ H s->RelV x v->r x H Q->
  Aw (Ai X.prog X.w) X.A (f v) (EP X pins σ Q) X.xe s
noncomputable def Y_(X:Cx)(f:AN)(r:List V->Hp->VK->Prop):Prop:=
 ∀(pins:List (AK×Obj)) s (σ:St) H xs us Q,Inv X pins σ H s->Vals xs us->r xs H Q->
  Aw (Ai X.prog X.w) X.A (call f us) (EP X pins σ Q) X.xe s
noncomputable def iX(r:R2)(ta tb:TE):TE:=fun σ H Q=>ta σ H fun x H1=>tb σ H1 fun y H2=>r x y H2 Q
noncomputable def tUn(r:V->Hp->VK->Prop)(ta:TE):TE:=fun σ H Q=>ta σ H fun x H1=>r x H1 Q
noncomputable def rI(C:Int->Int->Prop)(g:Int->Int->V):R2:=fun x y H Q=>RI x fun i=>RI y fun j=>C i j/\Q (g i j) H
noncomputable def V3(g:Int->Int->V):R2:=fun x y H Q=>RI x fun i=>RI y fun j=>Q (g i j) H
noncomputable def rU(g:Int->V):V->Hp->VK->Prop:=fun x H Q=>RI x fun i=>Q (g i) H
section
variable{X:Cx}{a b c:Expr}{ta tb tc:TE}{pos:Pos}
def ABx(ha:PE X a ta)(hb:PE X b tb){pins:List (AK×Obj)}{σ:St}{R:V->V->Hp->Prop}(I:Inv X pins σ H s)
  (h:ta σ H fun x H1=>tb σ H1 fun y H2=>R x y H2) {f:AN->AN->Sem AN}
  (hf: ∀ v u s2 x y H2,Inv X pins σ H2 s2->RelV x v->RelV y u->R x y H2->Aw (Ai X.prog X.w) X.A (f v u) Q X.xe s2):
  Aw (Ai X.prog X.w) X.A (eval a X.env) (fun v s₁=>Aw (Ai X.prog X.w) X.A (eval b X.env) (fun u s₂=>Aw (Ai X.prog X.w) X.A (f v u) Q X.xe s₂) X.xe s₁) X.xe s:=by
 exact HV (ha pins s σ H _ I h) fun v s1 x H1 I1 r1 q1=>HV (hb pins s1 σ H1 _ I1 q1) fun u s2 y H2 I2 r2 q2=>hf v u s2 x y H2 I2 r1 r2 q2
def AU(ho:Us X (Gi op) r)(ha:PE X a ta)(hb:PE X b tb):PE X (.BinOp a op b pos) (iX r ta tb):=
 fun pins s σ H Q I h=>wpAny_BinOp<|ABx ha hb I h fun v u s2 x y H2 I2 rx ry q=>ho pins s2 σ H2 x y v u Q I2 rx ry q
def LG(ho:UnR X (unaryOp op) r)(ha:PE X a ta):PE X (.UnaryOp op a pos) (tUn r ta):=
 fun pins s σ H Q I h=>UnaryOp_<|HV (ha pins s σ H _ I h) fun v s1 x H1 I1 r1 q1=>ho pins s1 σ H1 x v Q I1 r1 q1
def opI{g:Int->Int->Int}
  (rule: ∀ i j t u s Q E,C i j->Q (.int (g i j) s.toks) {s with toks:=s.toks+1}->Aw (Ai X.prog X.w) X.A (f (.int i t)<|.int j u) Q E s):
  Us X f (rI C fun i j=> .int<|g i j):=by
 intro pins s σ H x y v u Q I rx ry h
 obtain⟨i,rfl,h'⟩:=RI.ex h
 obtain⟨j,rfl,hc,q⟩:=RI.ex h'
 obtain⟨t,rfl⟩:=rx
 obtain⟨t',rfl⟩:=ry
 exact rule i j t t' s _ _ hc ⟨.int<|g i j,H,I.tok _,⟨_,rfl⟩,q⟩
def uq{g:Int->Int->Int}
  (rule: ∀ i j t u s Q E,Q (.int (g i j) s.toks) {s with toks:=s.toks+1}->Aw (Ai X.prog X.w) X.A (f (.int i t)<|.int j u) Q E s):
  Us X f (V3 fun i j=> .int<|g i j):=by
 intro pins s σ H x y v u Q I rx ry h
 obtain⟨i,rfl,h'⟩:=RI.ex h
 obtain⟨j,rfl,q⟩:=RI.ex h'
 obtain⟨t,rfl⟩:=rx
 obtain⟨t',rfl⟩:=ry
 exact rule i j t t' s _ _ ⟨.int<|g i j,H,I.tok _,⟨_,rfl⟩,q⟩
def yq{g:Int->Int->Bool}
  (rule: ∀ i j t u s Q E,Q (.bool<|g i j) s->Aw (Ai X.prog X.w) X.A (f (.int i t)<|.int j u) Q E s):
  Us X f (V3 fun i j=> .bl<|g i j):=by
 intro pins s σ H x y v u Q I rx ry h
 obtain⟨i,rfl,h'⟩:=RI.ex h
 obtain⟨j,rfl,q⟩:=RI.ex h'
 obtain⟨t,rfl⟩:=rx
 obtain⟨t',rfl⟩:=ry
 exact rule i j t t' s _ _ ⟨.bl<|g i j,H,I,rfl,q⟩
noncomputable def tR(i j:Int):Prop:=(-(2^64)<i/\i<2^64)\/(-(2^64)<j/\j<2^64)
def tR.ok(h:tR i j):IntMulOk i j:=by
 rcases h with⟨h1,h2⟩ |⟨h1,h2⟩
 ·exact .of_left<|qm h1 h2
 ·exact .of_right<|qm h1 h2
def jv(k:Nat):(0:Int)<=2^k:=by
 rw[two_pow_cast]
 exact FG _
def BJ:Us X (Gi .Add) (V3 fun i j=> .int<|i+j):=uq fun _ _ _ _ _ _ _ q=>add_int q
def B3:Us X (Gi .Sub) (V3 fun i j=> .int<|i-j):=uq fun _ _ _ _ _ _ _ q=>sub_int q
def Bb:Us X (Gi .Mult) (rI tR fun i j=> .int<|i*j):=opI fun _ _ _ _ _ _ _ hc q=>mul_int q hc.ok
def Dz:Us X (Gi .Mod) (rI (fun _ j=>0<j) fun i j=> .int<|i%j):=opI fun i j _ _ _ _ _ hc q=>by
 exact mod_int' (by lia)<|by rw[Int.fmod_eq_emod_of_nonneg i<|by lia];exact q
def ABK:Us X (Gi .RShift) (rI (fun _ j=>0<=j) fun i j=> .int<|i/2^j.toNat):=opI fun i j _ _ _ _ _ hc q=>
 rshift_int hc (by rw[Fq i<|jv _];exact q)
def Tf:Us X (Gi .BitAnd) (V3 fun i j=> .int<|Dg i j):=uq fun _ _ _ _ _ _ _ q=>and_int q
def ADz:Us X (Gi .BitOr) (V3 fun i j=> .int<|S2 i j):=uq fun _ _ _ _ _ _ _ q=>or_int q
def ABR:Us X (Gi .BitXor) (V3 fun i j=> .int<|oI i j):=uq fun _ _ _ _ _ _ _ q=>xor_int q
def unI{g:Int->Int}
  (rule: ∀ i t s Q E,Q (.int (g i) s.toks) {s with toks:=s.toks+1}->Aw (Ai X.prog X.w) X.A (f<|.int i t) Q E s):
  UnR X f (rU fun i=> .int<|g i):=by
 intro pins s σ H x v Q I rx h
 obtain⟨i,rfl,q⟩:=RI.ex h
 obtain⟨t,rfl⟩:=rx
 exact rule i t s _ _ ⟨.int<|g i,H,I.tok _,⟨_,rfl⟩,q⟩
def G2:UnR X (unaryOp .USub) (rU fun i=> .int<|-i):=unI fun _ _ _ _ _ q=>neg_int q
end
noncomputable def AEu:V->V->Bool
 | .non,.non=>true | .non,.int _=>true | .int _,.non=>true | .non,.bl _=>true | .bl _,.non=>true | .non,.str _=>true | .str _,.non=>true
 | .int _,.int _=>true | .bl _,.bl _=>true | .str _,.str _=>true | .byt _,.byt _=>true
 | .int _,.str _=>true | .str _,.int _=>true | .bl _,.str _=>true | .str _,.bl _=>true
 | _,_=>false
noncomputable def rEq:R2:=fun x y H Q=>AEu x y=true/\Q (.bl<|decide (x=y)) H
noncomputable def rNe:R2:=fun x y H Q=>AEu x y=true/\Q (.bl<|!decide (x=y)) H
def EC:decide (V.int i=V.int j)=(i==j):=by
 rw[Wt]
 simp
def vM:decide (V.bl i=V.bl j)=(i==j):=by
 rw[Wt]
 simp
def mX:decide (V.str i=V.str j)=(i==j):=by
 rw[Wt]
 simp
def l_:decide (V.byt i=V.byt j)=(i.toList==j.toList):=by
 rw[Wt]
 cases i
 cases j
 simp
section
variable{X:Cx}{a b c:Expr}{ta tb tc:TE}{pos:Pos}
def CQ{pins:List (AK×Obj)}{σ:St}(I:Inv X pins σ H s)(q:Q (.bl k) H)(e:k=k'):EP X pins σ Q (.bool k') s:=by
 subst e
 exact⟨.bl k,H,I,rfl,q⟩
theorem BD:Us X (Gu .Eq) rEq:=by
 rintro pins s σ H x y v u Q I rx ry ⟨hs,q⟩
 cases x with
 | non=>
  cases rx
  cases y with
  | non=>cases ry;exact yH<|CQ I q<|by simp
  | bl j=>cases ry;exact AAK<|CQ I q<|by simp
  | int j=>obtain⟨t',rfl⟩:=ry;exact AAI<|CQ I q<|by simp
  | str j=>obtain⟨t',rfl⟩:=ry;exact yS<|CQ I q<|by simp
  | _=>exact absurd (hs) D2
 | bl i=>
  cases rx
  cases y with
  | non=>cases ry;exact zG<|CQ I q<|by simp
  | bl j=>cases ry;exact eq_bool<|CQ I q vM
  | str j=>obtain⟨t',rfl⟩:=ry;exact z9<|CQ I q<|by simp
  | _=>exact absurd (hs) D2
 | int i=>
  obtain⟨t,rfl⟩:=rx
  cases y with
  | non=>cases ry;exact yK<|CQ I q<|by simp
  | int j=>obtain⟨t',rfl⟩:=ry;exact eq_int<|CQ I q EC
  | str j=>obtain⟨t',rfl⟩:=ry;exact zH<|CQ I q<|by simp
  | _=>exact absurd (hs) D2
 | str i=>
  obtain⟨t,rfl⟩:=rx
  cases y with
  | non=>cases ry;exact y4<|CQ I q<|by simp
  | bl j=>cases ry;exact yY<|CQ I q<|by simp
  | int j=>obtain⟨t',rfl⟩:=ry;exact zT<|CQ I q<|by simp
  | str j=>obtain⟨t',rfl⟩:=ry;exact eq_str<|CQ I q mX
  | _=>exact absurd (hs) D2
 | byt i=>
  obtain⟨t,rfl⟩:=rx
  cases y with
  | byt j=>obtain⟨t',rfl⟩:=ry;exact PySem.W.eq_bytes<|CQ I q l_
  | _=>exact absurd (hs) D2
 | _=>cases y<;>exact absurd (hs) D2
theorem Ep:Us X (Gu .NotEq) rNe:=by
 rintro pins s σ H x y v u Q I rx ry ⟨hs,q⟩
 cases x with
 | non=>
  cases rx
  cases y with
  | non=>cases ry;exact yU<|CQ I q<|by simp
  | bl j=>cases ry;exact yj<|CQ I q<|by simp
  | int j=>obtain⟨t',rfl⟩:=ry;exact zW<|CQ I q<|by simp
  | str j=>obtain⟨t',rfl⟩:=ry;exact zV<|CQ I q<|by simp
  | _=>exact absurd (hs) D2
 | bl i=>
  cases rx
  cases y with
  | non=>cases ry;exact y1<|CQ I q<|by simp
  | bl j=>cases ry;exact ne_bool<|CQ I q<|BO not vM
  | str j=>obtain⟨t',rfl⟩:=ry;exact zw<|CQ I q<|by simp
  | _=>exact absurd (hs) D2
 | int i=>
  obtain⟨t,rfl⟩:=rx
  cases y with
  | non=>cases ry;exact yg<|CQ I q<|by simp
  | int j=>obtain⟨t',rfl⟩:=ry;exact ne_int<|CQ I q<|BO not EC
  | str j=>obtain⟨t',rfl⟩:=ry;exact yp<|CQ I q<|by simp
  | _=>exact absurd (hs) D2
 | str i=>
  obtain⟨t,rfl⟩:=rx
  cases y with
  | non=>cases ry;exact x_<|CQ I q<|by simp
  | bl j=>cases ry;exact yW<|CQ I q<|by simp
  | int j=>obtain⟨t',rfl⟩:=ry;exact AAM<|CQ I q<|by simp
  | str j=>obtain⟨t',rfl⟩:=ry;exact ne_str<|CQ I q<|BO not mX
  | _=>exact absurd (hs) D2
 | byt i=>
  obtain⟨t,rfl⟩:=rx
  cases y with
  | byt j=>obtain⟨t',rfl⟩:=ry;exact PySem.W.ne_bytes<|CQ I q<|BO not l_
  | _=>exact absurd (hs) D2
 | _=>cases y<;>exact absurd (hs) D2
def Dq:Us X (Gu .Lt) (V3 fun i j=> .bl<|decide (i<j)):=yq fun _ _ _ _ _ _ _ q=>lt_int q
def IT:Us X (Gu .LtE) (V3 fun i j=> .bl<|decide (i<=j)):=yq fun _ _ _ _ _ _ _ q=>le_int q
def DE:Us X (Gu .Gt) (V3 fun i j=> .bl<|decide (j<i)):=yq fun _ _ _ _ _ _ _ q=>gt_int q
def Ut:Us X (Gu .GtE) (V3 fun i j=> .bl<|decide (j<=i)):=yq fun _ _ _ _ _ _ _ q=>ge_int q
def uQ(b:Expr)(h:op≠ .In:=by decide)(h2:op≠ .NotIn:=by decide):Ie op b=false:=by
 have e1:(op==mI)=false:=by cases op<;>first | rfl | exact absurd rfl h
 have e2:(op==qI)=false:=by cases op<;>first | rfl | exact absurd rfl h2
 cases b<;>simp[Ie,e1,e2]
def AAV(ho:Us X (Gu op) r)(ha:PE X a ta)(hb:PE X b tb)(hm:Ie op b=false):PE X (.Compare a [op] [b] pos) (iX r ta tb):=
 fun pins s σ H Q I h=>wpAny_Compare1 (ABx ha hb I h fun v u s2 x y H2 I2 rx ry q=>ho pins s2 σ H2 x y v u Q I2 rx ry q) hm
noncomputable def Y9(t:TE):TT:=fun σ H Q=>t σ H fun x H1=>uF x fun k=>Q k H1
def z_(ho:Us X (Gu op) r)(ha:PE X a ta)(hb:PE X b tb)(hm:Ie op b=false):PT X (.Compare a [op] [b] pos) (Y9<|iX r ta tb):=by
 refine fun pins s σ H Q I h=>pj (HV (ha pins s σ H _ I h) fun v s1 x H1 I1 r1 q1=>HV (hb pins s1 σ H1 _ I1 q1) fun u s2 y H2 I2 r2 q2=>
  HV (ho pins s2 σ H2 x y v u _ I2 r1 r2 q2) fun c s3 z H3 I3 r3 q3=>?_) hm
 obtain⟨k,rfl,q3⟩:=uF.ex q3
 cases r3
 exact Le ⟨H3,I3,q3⟩
noncomputable def b6(r r':R2)(ta tb tc:TE):TE:=fun σ H Q=>ta σ H fun x H1=>tb σ H1 fun y H2=>r x y H2 fun z H3=> ∃ k,z= .bl k/\
 (if k=true then tc σ H3 fun w' H4=>r' y w' H4 Q else Q (.bl false) H3)
theorem Kw(ho:Us X (Gu op) r)(ho':Us X (Gu op') r')(ha:PE X a ta)(hb:PE X b tb)(hc:PE X c tc)
  (hm:lastMarks [op,op'] [b,c]=false:=by with_unfolding_all rfl):PT X (.Compare a [op,op'] [b,c] pos) (Y9<|b6 r r' ta tb tc):=by
 refine fun pins s σ H Q I h=>isTrue_chain (HV (ha pins s σ H _ I h) fun v s1 x H1 I1 r1 q1=>test_link (HV (hb pins s1 σ H1 _ I1 q1) fun u s2 y H2 I2 r2 q2=>
  HV (ho pins s2 σ H2 x y v u _ I2 r1 r2 q2) fun d s3 z H3 I3 r3 q_=>?_)) hm
 obtain⟨k,e,q3⟩:=q_
 subst e
 cases r3
 refine Le ?_
 cases k with
 | false=>
  exact ite_ff ⟨H3,I3,q3⟩
 | true=>
  refine ite_tt<|test_last<|HV (hc pins s3 σ H3 _ I3 q3) fun w' s4 z' H4 I4 r4 q4=>HV (ho' pins s4 σ H4 y z' u w' _ I4 r2 r4 q4) fun d' s5 z2 H5 I5 r5 q5=>?_
  obtain⟨k2,rfl,q5⟩:=uF.ex q5
  cases r5
  exact Le ⟨H5,I5,q5⟩
def Xi:(sizeLine:Nat)<2^63:=by rw[eN];decide
theorem vals1(r:Vals [x] us): ∃ u,us= [u]/\RelV x u:=by
 cases r with
 | cons r1 r2=>cases r2;exact⟨_,rfl,r1⟩
theorem vals2(r:Vals [x,y] us): ∃ u w',us= [u,w']/\RelV x u/\RelV y w':=by
 cases r with
 | cons r1 r2=>
  cases r2 with
  | cons r3 r4=>cases r4;exact⟨_,_,rfl,r1,r3⟩
def Hq:Y_ X (.builtin "abs") (fun xs H Q=> ∃ i,xs= [.int i]/\Q (.int<|if i<0 then-i else i) H):=by
 rintro pins s σ H xs us Q I r ⟨i,rfl,q⟩
 obtain⟨u,rfl,t,rfl⟩:=vals1 r
 exact call_abs_int fun u tk=>⟨.int<|if i<0 then-i else i,H,I.tok _,⟨_,rfl⟩,q⟩
def r9(hc:X.calm=true):Y_ X (.builtin "max") (fun xs H Q=> ∃ i j,xs= [.int i,.int j]/\Q (.int<|if j>i then j else i) H):=by
 rintro pins s σ H xs us Q I r ⟨i,j,rfl,q⟩
 obtain⟨u,w',rfl,⟨t,rfl⟩,t',rfl⟩:=vals2 r
 refine max_two_ints (I.ok.hd hc) fun h' tk k=>⟨_,H,I.kept k,?_,q⟩
 by_cases hj:j>i
 ·rw[AI hj,AI hj];exact⟨_,rfl⟩
 ·rw[AG hj,AG hj];exact⟨_,rfl⟩
def rQ(hc:X.calm=true):Y_ X (.builtin "min") (fun xs H Q=> ∃ i j,xs= [.int i,.int j]/\Q (.int<|if j<i then j else i) H):=by
 rintro pins s σ H xs us Q I r ⟨i,j,rfl,q⟩
 obtain⟨u,w',rfl,⟨t,rfl⟩,t',rfl⟩:=vals2 r
 refine min_two_ints (I.ok.hd hc) fun h' tk k=>⟨_,H,I.kept k,?_,q⟩
 by_cases hj:j<i
 ·rw[AI hj,AI hj];exact⟨_,rfl⟩
 ·rw[AG hj,AG hj];exact⟨_,rfl⟩
end
end L2
namespace L2
open PySem PySem.Spec PyProof.Rows
structure kH(h:Ay)(x dx C:AK)(mA:Str->Option AN):Prop where
 obj:h.get? x=some (J7 C dx)
 ns:h.Ns1 dx mA
 ne:dx≠x
def rj{h:Ay}(n:h.Ns1 dx mA): ∃ od,h.get? dx=some od/\ ∀ name,WQ name od=some (mA name):=by
 obtain⟨o,es,ep,ho,hd,hk,_,hm⟩:=n
 refine⟨o,ho,fun name=>?_⟩
 have e:=hm name
 unfold Ot findBy at e
 rw[<-Array.find?_toList]at e
 unfold WQ
 rw[hd]
 dsimp only
 split
 ·rename_i y q
  rw[q]at e
  exact BO some e
 ·rename_i q
  rw[q]at e
  have a:es.toList.any (·.refKey)=false:=by
   rw[eC]
   intro y hy
   obtain⟨z,t,hkey⟩:=hk y<|qt.mp hy
   simp[AAB,hkey]
  have a': ¬ es.toList.any (·.refKey)=true:=by rw[a];exact D2
  rw[AG a']
  exact BO some e
def kH.look(I:kH h x dx C mA): ∃ od,PySem.W.InstAt h x (J7 C dx) C (some od)/\ ∀ name,WQ name od=some (mA name):=
 let⟨od,ho,hl⟩:=rj I.ns
 ⟨od,⟨I.obj,rfl,rfl,ho⟩,hl⟩
section
variable{prog:BH}{w:Ap}{A:De}{E:AN->Az->Prop}{s:Az}{K:AS}{x dx C f:AK}{mA:Str->Option AN}{name:Str}{v:AN}
def get_map(X:K.In s.heap)(I:kH s.heap x dx C mA)(hg:Sj K C name=true)(hh:Vr K C=true)
  (ha:C6 K (.ref C) name=some none) (hv:mA name=some v) (hv':O8 v=true) (h:Q v {s with toks:=s.toks+1}):
  Aw (Ai prog w) A (SM (.ref x) name expr) Q E s:=by
 obtain⟨od,J,hl⟩:=I.look
 exact PySem.W.get_value X J (eO hg).1 (PySem.W.findObj_own hh ha rfl<|by rw[hl,hv]) hv' h
def vH(X:K.In s.heap)(I:kH s.heap x dx C mA)(hg:Sj K C name=true)
  (hf:C6 K (.ref C) name=some (some<|.ref f)) (ht:WC K (.ref f)=true) (hv:mA name=none) (h:Q (.ref f,[.ref x]) s):
  Aw (Ai prog w) A (Ji (.ref x) name pl) Q E s:=by
 obtain⟨od,J,hl⟩:=I.look
 exact PySem.W.method_fn X J (eO hg).1 (eO hg).2 hf (FR.mp ht) (by show(WQ name od).map (·.isSome)=some false;rw[hl,hv];rfl) h
def zu(X:K.In s.heap)(I:kH s.heap x dx C mA)
  (hs:C6 K (.ref C) "__setattr__"=some (some<|.builtin "object.__setattr__")) (hp:cy K C=true) (ht:ff K C name=some none) (hh:Vr K C=true)
  (hw:cK mA ns) (hsz:ns.length<=sizeLine)
  (h: ∀ h',kH h' x dx C (fun y=>if y=name then some v else mA y)->R3 dx s.heap h'->Q () {s with heap:=h',toks:=s.toks+2}):
  Aw (Ai prog w) A (bu (.ref x) name v) Q E s:=by
 obtain⟨od,J,hl⟩:=I.look
 refine PySem.W.set_plain X J hs<|PySem.W.osa_open X J hp ht fun b=>?_
 obtain⟨cd,hc,hd'⟩:=PySem.W.any_some hh
 refine BP<|Ck<|BP<|BP<|wpAny_loadPart I.obj<|BP<|AAA (PySem.W.looks_clsIn X hc) ?_
 rw[hd']
 refine Ck<|BP<|Ck<|BP<|px I.ns fun h' hn2 hs2=>?_
 obtain⟨oD,esD,epD,hoD,hdD,hcD⟩:=hn2.count<|oW name v hw
 exact BP<|mx hoD (by rw[hdD];exact o7<|CC hcD<|by rw[HG];lia)<|Ck<|h _ ⟨(hs2.2 _<|Ei I.ne).trans I.obj,hn2,I.ne⟩ hs2
def uS(X:K.In s.heap)(hm:XI K C=true)
  (hi:C6 K (.ref C) "__init__"=some (some<|.ref f)) (hf:fh K (.ref f)=some (.type "function"))
  (h:GB (Ai prog w) (A.under<|.builtin "type.__call__" ⟨.ref C::vs,kw⟩) (.call (.ref f) ⟨.ref (s.heap.objs.size+1)::vs,kw⟩) (qz (s.heap.objs.size+1) R)
   {s with heap:=(s.heap.push Ic).push<|J7 C s.heap.objs.size}):
  GB (Ai prog w) A (.call (.ref C) ⟨vs,kw⟩) R s:=by
 obtain⟨hh,g,d,t,os⟩:=s
 exact PySem.W.make_core (PySem.W.makes_of X hm) (oJ X hi) (fun self=>p6 X self hf) (.inl rfl) h
end
noncomputable def DI(f:Str)(v:V):List (Str×V)->List (Str×V)
 | []=> [(f,v)]
 |(g,x)::r=>if g=f then(g,v)::r else(g,x)::DI f v r
theorem Up(f g:Str)(v:V): ∀ fs:List (Str×V),(DI f v fs).lookup g=if g=f then some v else fs.lookup g
 | []=>by
  show IY g [(f,v)]=_
  by_cases h:g=f
  ·have hb:(g==f)=true:=FR.mpr h
   simp only[IY,hb,AI h]
  ·have hb:(g==f)=false:=Il.mpr h
   simp only[IY,hb,AG h]
 |(k,x)::r=>by
  have ih:=Up f g v r
  rw[show DI f v ((k,x)::r)=(if k=f then(k,v)::r else(k,x)::DI f v r)from rfl]
  by_cases hk:k=f
  ·rw[AI hk]
   by_cases h:g=k
   ·have hb:(g==k)=true:=FR.mpr h
    simp only[IY,hb,AI<|h.trans hk]
   ·have hb:(g==k)=false:=Il.mpr h
    simp only[IY,hb,AG fun e:g=f=>h<|e.trans hk.symm]
  ·rw[AG hk]
   by_cases h:g=k
   ·have hb:(g==k)=true:=FR.mpr h
    simp only[IY,hb,AG fun e:g=f=>hk<|h.symm.trans e]
   ·have hb:(g==k)=false:=Il.mpr h
    simp only[IY,hb]
    exact ih
theorem Tj(f:Str)(v:V): ∀ fs:List (Str×V),f∈(DI f v fs).map (·.1)/\ ∀ g,g∈fs.map (·.1)->g∈(DI f v fs).map (·.1)
 | []=>⟨by simp[DI],fun g h=>by simp at h⟩
 |(k,x)::r=>by
  obtain⟨i1,i2⟩:=Tj f v r
  rw[show DI f v ((k,x)::r)=(if k=f then(k,v)::r else(k,x)::DI f v r)from rfl]
  by_cases hk:k=f
  ·rw[AI hk]
   subst hk
   exact⟨by simp,fun g h=>by simpa using h⟩
  ·rw[AG hk]
   refine⟨?_,fun g h=>?_⟩
   ·rw[Fs]
    exact C0 _ i1
   ·rw[Fs]at h ⊢
    rcases Cd.mp h with e | e
    ·exact Cd.mpr<|.inl e
    ·exact C0 _<|i2 g e
theorem U0(f:Str)(v:V): ∀ fs:List (Str×V),(DI f v fs).length<=fs.length+1
 | []=>by simp[DI]
 |(k,x)::r=>by
  have ih:=U0 f v r
  rw[show DI f v ((k,x)::r)=(if k=f then(k,v)::r else(k,x)::DI f v r)from rfl]
  by_cases hk:k=f
  ·rw[AI hk,HG,HG];lia
  ·rw[AG hk,HG,HG];lia
theorem Ph.some_of(r:Ph (some v) o): ∃ u,o=some u/\RelV v u:=by
 cases o with
 | none=>exact(r).elim
 | some u=>exact⟨u,rfl,r⟩
theorem Ph.none_of(r:Ph none o):o=none:=by
 cases o with
 | none=>rfl
 | some u=>exact(r).elim
theorem sY(r:RelV v u):O8 u=true:=by
 cases v with
 | non=>cases (r);rfl
 | bl b=>cases (r);rfl
 | int i=>obtain⟨t,e⟩:=(r);cases e;rfl
 | str x=>obtain⟨t,e⟩:=(r);cases e;rfl
 | byt b=>obtain⟨t,e⟩:=(r);cases e;rfl
 | flt b=>obtain⟨t,e⟩:=(r);cases e;rfl
 | ref a=>cases (r);rfl
 | ty n=>cases (r);rfl
section
variable{P:BH}{w:Ap}{H H':Hp}{h h':Ay}{a C dx:AK}{fs fs':List (Str×V)}
def du(C1:NH P w H h)(e:H a=some (.ins C dx fs)): ∃ mA,kH h a dx C mA/\(∀ f,Ph (fs.lookup f)<|mA f)/\cK mA (fs.map (·.1))/\fs.length<=1000/\H dx=some (.own a):=by
 obtain⟨d,z,ne,ob,mA,n,r,q⟩:=(C1 a _ e)
 exact⟨mA,⟨ob,n,ne⟩,r,q,z,d⟩
end
structure af(K:AS)(C:AK):Prop where
 pg:Sj K C Oz=true
 hd:Vr K C=true
 po:cy K C=true
 sa:C6 K (.ref C) "__setattr__"=some (some (.builtin "object.__setattr__"))
def af.get{K:AS}(c:af K C)(f:Str):Sj K C f=true:=c.pg
noncomputable def YB(K:AS)(C:AK)(f:Str):Prop:=C6 K (.ref C) f=some none
def YB.AD_{K:AS}(n:YB K C f):ff K C f=some none:=by
 unfold ff
 rw[show C6 K (.ref C) f=some none from n]
 rfl
structure Meth(K:AS)(C:AK)(m:Str)(f:AK):Prop where
 at_:C6 K (.ref C) m=some (some (.ref f))
 fn:WC K (.ref f)=true
 kp:FT K (.ref f)=true
section
variable{X:Cx}{pins:List (AK×Obj)}{σ:St}{H:Hp}{s:Az}{a C dx:AK}{fs:List (Str×V)}{f:Str}{v:V}{A:De}{E:AN->Az->Prop}
def Y8{b:Bool}(I:Inv X pins σ H s)(e:H a=some (.ins C dx fs))(c:af X.K C)(n:YB X.K C f)(l:fs.lookup f=some v)
  (h: ∀ u s',Inv X pins σ H s'->RelV v u->Q u s'):Aw (Ai X.prog X.w) A (SM (.ref a) f b) Q E s:=by
 obtain⟨mA,O,r,_,_,_⟩:=du I.C1 e
 obtain⟨u,hu,ru⟩:=Ph.some_of<|by rw[<-l];exact r f
 exact get_map I.Qs O (c.get f) c.hd n hu (sY ru)<|h u _ (I.tok _) ru
def QZ{m:Str}(I:Inv X pins σ H s)(e:H a=some (.ins C dx fs))(c:af X.K C)(k:Meth X.K C m g)(l:fs.lookup m=none)
  (h:Q (.ref g,[.ref a]) s):Aw (Ai X.prog X.w) A (Ji (.ref a) m pl) Q E s:=by
 obtain⟨mA,O,r,_,_,_⟩:=du I.C1 e
 exact vH I.Qs O (c.get m) k.at_ k.fn (Ph.none_of<|by rw[<-l];exact r m) h
def Xv{y:V}(I:Inv X pins σ H s)(e:H a=some (.ins C dx fs))(c:af X.K C)(n:YB X.K C f)(hl:fs.length<1000)(ry:RelV y u)
  (h: ∀ s',Inv X pins σ (upd H a<|.ins C dx<|DI f y fs) s'->Q () s'):Aw (Ai X.prog X.w) A (bu (.ref a) f u) Q E s:=by
 obtain⟨mA,O,r,wi,_,ho⟩:=du I.C1 e
 have hz:(fs.map (·.1)).length<=sizeLine:=by rw[A8,eN];lia
 refine zu I.Qs O c.sa c.po n.AD_ c.hd wi hz fun h' O' sb=>h _ ?_
 have hd: ∃ o,h'.get? dx=some o:=let⟨o,_,_,e',_⟩:=O'.ns;⟨o,e'⟩
 refine I.write (by rw[e];exact Io) (.inr ho) (fun b q hb z=>(sb.2 b hb).trans z) hd<|⟨by rw[AQ O.ne];exact ho,?_,O.ne,O'.obj,_,O'.ns,fun g=>?_,fun g hg=>?_⟩
 ·have:=U0 f y fs;lia
 ·rw[Up]
  by_cases q:g=f
  ·rw[AI q,AI q];exact ry
  ·rw[AG q,AG q];exact r g
 ·by_cases q:g=f
  ·rw[q];exact(Tj f y fs).1
  ·refine(Tj f y fs).2 g (wi g fun z=>hg ?_)
   show(if g=f then some u else mA g)=none
   rw[AG q];exact z
def Inv.made(I:Inv X pins σ H s):Inv X pins σ (upd (upd H s.heap.objs.size<|.own<|s.heap.objs.size+1) (s.heap.objs.size+1)<|.ins C s.heap.objs.size [])
  {s with heap:=(s.heap.push Ic).push<|J7 C s.heap.objs.size}:=by
 have e1:(s.heap.push Ic).get? s.heap.objs.size=some Ic:=FP s.heap rfl
 have e2:((s.heap.push Ic).push<|J7 C s.heap.objs.size).get? (s.heap.objs.size+1)=some (J7 C s.heap.objs.size):=by
  have:=FP (s.heap.push Ic) (o:=J7 C s.heap.objs.size) rfl
  rwa[HE]at this
 have e3:(s.heap.push Ic).Ns s.heap.objs.size (fun _=>none):=⟨Ic,#[],_,e1,rfl,(fun e he=>absurd he<|by simp),fun _=>rfl⟩
 have I1:=I.laid (a:=s.heap.objs.size) (o:= .own<|s.heap.objs.size+1) (h':=s.heap.push Ic) (t':=s.toks) (fun b u q=>CW _ q) (BS _) ⟨_,e1⟩
 refine I1.laid (fun b u q=>CW _ q) (WX<|HE _ _) ?_
 have ne:s.heap.objs.size≠s.heap.objs.size+1:=DP<|O1 _
 refine⟨by rw[AQ ne,AJ],B7 _,ne,e2,fun _=>none,(oj e3).at fun o q=>CW _ q,fun _=>Io,fun y hy=>absurd rfl hy⟩
def rJ(hb:J0 e f env (eval e env)=eval e env)
  (h:Aw (Ai prog w) A (eval e env) (fun o s₁=>Aw (Ai prog w) A (SM o f true) Q E s₁) E s):Aw (Ai prog w) A (eval (.Attribute e f pos) env) Q E s:=
 Attribute_any_ h (by rw[arm_eval_Attribute,hb])
end
structure FA(K:AS)(C:AK)(f:Str):Prop where
 c:af K C
 n:YB K C f
inductive AC2(K:AS)(f:Str)(a:AK)(H:Hp)(N:AK->V->Prop):Prop
 | mk {C dx:AK} {fs:List (Str×V)} {v:V}:H a=some (.ins C dx fs)->FA K C f->fs.lookup f=some v->N C v->AC2 K f a H N
noncomputable def vE(K:AS)(ta:TE)(f:Str):TE:=fun σ H Q=>ta σ H fun x H1=>QL x fun a=>AC2 K f a H1 fun _ v=>Q v H1
inductive AA8(K:AS)(f:Str)(y:V)(a:AK)(H:Hp)(N:Hp->Prop):Prop
 | mk {C dx:AK} {fs:List (Str×V)}:H a=some (.ins C dx fs)->FA K C f->fs.length<1000->N (upd H a (.ins C dx (DI f y fs)))->AA8 K f y a H N
noncomputable def AEp(K:AS)(ta tv:TE)(f:Str):TS:=fun D σ H=>tv σ H fun y H1=>ta σ H1 fun x H2=>QL x fun a=>AA8 K f y a H2 fun H3=>D.nx σ H3
noncomputable def ABg(X:Cx)(op:Operator)(rd:V->V->Hp->VK->Prop):Prop:=
 ∀(pins:List (AK×Obj)) s (σ:St) H x y u v Q,Inv X pins σ H s->RelV x u->RelV y v->rd x y H Q->Aw (Ai X.prog X.w) X.A (b7 op u v) (EP X pins σ Q) X.xe s
inductive ADa(C a:AK)(f:Str)(z:V)(H:Hp)(N:Hp->Prop):Prop
 | mk {dx:AK} {fs:List (Str×V)}:H a=some (.ins C dx fs)->fs.length<1000->N (upd H a (.ins C dx (DI f z fs)))->ADa C a f z H N
noncomputable def yx(K:AS)(ta tv:TE)(rd:V->V->Hp->VK->Prop)(f:Str):TS:=fun D σ H=>ta σ H fun x H1=>QL x fun a=>AC2 K f a H1 fun C v=>
 tv σ H1 fun y H2=>rd v y H2 fun z H3=>ADa C a f z H3 fun H4=>D.nx σ H4
section
variable{X:Cx}{o e value:Expr}{f:Str}{pos pos' tpos:Pos}{ta tv:TE}
def dU(he:PE X e ta)(hb:J0 e f X.env (eval e X.env)=eval e X.env):PE X (.Attribute e f pos) (vE X.K ta f):=by
 refine fun pins s σ H Q I h=>rJ hb<|HV (he pins s σ H _ I h) fun u s1 x H1 I1 rx qq=>?_
 obtain⟨a,rfl,@⟨C,dx,fs,v,ea,⟨c,n⟩,l,q⟩⟩:=QL.ex qq
 obtain rfl:u=CL a:=rx
 exact Y8 I1 ea c n l fun u' s2 I2 ru=>⟨v,H1,I2,ru,q⟩
def ACR(ha:PE X o ta)(hv:PE X value tv)(hs:Gb value (some<|.Attribute o f pos') pos.line X.env=CA false):PS X (.Assign [.Attribute o f pos'] value pos) (AEp X.K ta tv f):=by
 refine fun pins s σ H D I h=>pQ (HV (hv pins s σ H _ I h) fun u s1 y H1 I1 ry q=>HV (ha pins s1 σ H1 _ I1 q) fun ov s2 x H2 I2 rx qq=>?_) hs
 obtain⟨a,rfl,@⟨C,dx,fs,ea,⟨c,n⟩,l,q2⟩⟩:=QL.ex qq
 obtain rfl:ov=CL a:=rx
 exact Xv I2 ea c n l ry fun s3 I3=>⟨σ,_,I3,q2⟩
def O7(ha:PE X o ta)(hv:PE X value tv)(hop:ABg X op rd):PS X (.AugAssign (.Attribute o f tpos) op value pos) (yx X.K ta tv rd f):=by
 refine fun pins s σ H D I h=>wpAny_AugAssign_AttributeAny<|HV (ha pins s σ H _ I h) fun ov s1 x H1 I1 rx qq=>?_
 obtain⟨a,rfl,@⟨C,dx,fs,v,ea,⟨c,n⟩,l,q⟩⟩:=QL.ex qq
 obtain rfl:ov=CL a:=rx
 refine Y8 I1 ea c n l fun u s2 I2 ru=>HV (hv pins s2 σ H1 _ I2 q) fun w3 s3 y H2 I3 ry q3=>HV (hop pins s3 σ H2 v y u w3 _ I3 ru ry q3) fun w4 s4 z H3 I4 rz q0=>?_
 obtain @⟨dx',fs',ea',l',q4⟩:=q0
 exact Xv I4 ea' c n l' rz fun s5 I5=>⟨σ,_,I5,q4⟩
noncomputable def AFc:V->V->Hp->VK->Prop:=fun x y H Q=> ∃ i j,x= .int i/\y= .int j/\Q (.int<|i+j) H
noncomputable def AFS:V->V->Hp->VK->Prop:=fun x y H Q=> ∃ i j,x= .int i/\y= .int j/\Q (.int<|i-j) H
def k8:ABg X .Add AFc:=by
 rintro pins s σ H x y u v Q I rx ry ⟨i,j,rfl,rfl,q⟩
 obtain⟨t,rfl⟩:=(rx)
 obtain⟨t',rfl⟩:=(ry)
 exact pW ⟨.int<|i+j,H,I.tok _,⟨_,rfl⟩,q⟩
def ABT:ABg X .Sub AFS:=by
 rintro pins s σ H x y u v Q I rx ry ⟨i,j,rfl,rfl,q⟩
 obtain⟨t,rfl⟩:=(rx)
 obtain⟨t',rfl⟩:=(ry)
 exact lW ⟨.int<|i-j,H,I.tok _,⟨_,rfl⟩,q⟩
def AA6{pl:Sem Bool}{σ:St}(he:PE X e te)(I:Inv X pins σ H s)
  (h:te σ H fun x H1=> ∃ a C dx fs g,x= .ref a/\H1 a=some (.ins C dx fs)/\af X.K C/\Meth X.K C m g/\fs.lookup m=none/\
   ∀ s1,Inv X pins σ H1 s1->Aw (Ai X.prog X.w) X.A (ME pos (.ref g) [.ref a] (Co pos<|Au args X.env)<|Ig pos<|Iv [] X.env) Q X.xe s1)
  (ht:eval (.Call (.Attribute e m apos) args [] pos) X.env=(do
   let ov <-eval e X.env
   J1 apos.atName
   let(f,first) <-Hd [ov] (Ji ov m pl)
   ME pos f first (Co pos<|Au args X.env) (Ig pos<|Iv [] X.env))):
  Aw (Ai X.prog X.w) X.A (eval (.Call (.Attribute e m apos) args [] pos) X.env) Q X.xe s:=by
 refine Wy (HV (he pins s σ H _ I h) fun u s1 x H1 I1 rx q_=>?_) ht
 obtain⟨a,C,dx,fs,g,ex,ea,c,k,l,q⟩:=q_
 subst ex
 obtain rfl:u=CL a:=rx
 exact QZ I1 ea c k l<|q s1 I1
end
end L2
namespace L2
open PySem PySem.Spec PyProof.Rows
structure EE(k:Nat)(A:De):Prop where
 hd:A.handled=none
 dp:A.depth+3*k+5<mJ
 un:A.units+16*k+200<MZ
def EE.mono(r:EE k A)(h:j<=k):EE j A:=⟨r.hd,by have:=r.dp;lia,by have:=r.un;lia⟩
def EE.deeper(r:EE (k+1) A)(env:Env):EE k (A.deeper env):=
 ⟨r.hd,by have:=r.dp;show A.depth+1+3*k+5<_;lia,by have:=r.un;show A.units+3+16*k+200<_;lia⟩
def jn{A:De}:(A.under<|.builtin "type.__call__" ⟨.ref C::us,kw⟩).depth=A.depth+1:=by
 first | rfl | simp[bj,Code.weight,Code.isCreation,Code.isGuard,Code.isCaller,pM,dQ,guardIds]
def jq{A:De}:(A.under<|.builtin "type.__call__" ⟨.ref C::us,kw⟩).units=A.units+1:=by
 first | rfl | simp[bj,Code.cUnits,pM,dQ]
def EE.make(r:EE (k+1) A)(C:AK)(us:List AN)(kw:List (Str×AN)):EE k (A.under<|.builtin "type.__call__" ⟨.ref C::us,kw⟩):=
 ⟨r.hd,by have:=r.dp;rw[jn];lia,by have:=r.un;rw[jq];lia⟩
def EE.depth(r:EE k A):A.depth<mJ:=by have:=r.dp;lia
def EE.units(r:EE k A):A.units+64<MZ:=by have:=r.un;lia
noncomputable def Ua:TA:=fun _ H Q=>Q [] H
noncomputable def J9(ta:TE)(tr:TA):TA:=fun σ H Q=>ta σ H fun x H1=>tr σ H1 fun xs H2=>Q (x::xs) H2
section
variable{X:Cx}{e:Expr}{es:List Expr}{te:TE}{t:TA}{pos:Pos}
def Ez:PA X [] Ua:=fun _ _ _ _ H Q I h=>fP ⟨[],H,I,.nil,h⟩
def Cs(ha:PE X e te)(hr:PA X es t)(hs:Au (e::es) X.env=(false,eval e X.env)::Au es X.env:=by rfl):PA X (e::es) (J9 te t):=by
 intro pos pins s σ H Q I h
 rw[hs]
 exact cW<|HV (ha pins s σ H _ I h) fun u s1 x H1 I1 r1 q1=>ki (hr pos pins s1 σ H1 _ I1 q1) fun us s2 xs H2 I2 r2 q2=>⟨x::xs,H2,I2,.cons r1 r2,q2⟩
noncomputable def AFJ(t:TA):TE:=fun σ H Q=>t σ H fun xs H1=>xs.length<=sizeLine/\ ∀ p,H1 p=none->Q (.ref p) (upd H1 p<|.tup xs)
noncomputable def AFI(t:TA):TE:=fun σ H Q=>t σ H fun xs H1=>xs.length<=sizeLine/\ ∀ p,H1 p=none->Q (.ref p) (upd H1 p<|.lst xs)
def JK(h:PA X es t):PE X (.Tuple es x1 pos) (AFJ t):=by
 refine fun pins s σ H Q I hq=>wpAny_Tuple_spliced<|ki (h pos pins s σ H _ I hq) fun us s1 xs H1 I1 r ⟨z,q⟩=>⟨by rw[<-r.length];exact z,?_⟩
 refine⟨.ref s1.heap.objs.size,upd H1 s1.heap.objs.size<|.tup xs,I1.laid (fun b u e=>CW _ e) (BS _) ?_,rfl,q _<|I1.C1.fresh<|BS _⟩
 exact⟨z,us,r,_,FP _ rfl,rfl,_,rfl⟩
def Ba(h:PA X es t):PE X (.List es pos) (AFI t):=by
 refine fun pins s σ H Q I hq=>wpAny_List_spliced<|ki (h pos pins s σ H _ I hq) fun us s1 xs H1 I1 r ⟨z,q⟩=>⟨by rw[<-r.length];exact z,?_⟩
 refine⟨.ref s1.heap.objs.size,upd H1 s1.heap.objs.size<|.lst xs,I1.laid (fun b u e=>CW _ e) (BS _) ?_,rfl,q _<|I1.C1.fresh<|BS _⟩
 exact⟨z,us,0,r,FP _ rfl⟩
end
noncomputable abbrev Sp:=List V->Hp->VK->XK->Prop
noncomputable abbrev xl:=List Env->Hp->Az->XK->AN->Az->Prop
structure lL(P:BH)(w:Ap)(K:AS)(mg:Str->Option AN)(base:Ay)(A:De)(outer:List Env)(s:Az)(H:Hp):Prop where
 frames:A.frames=some outer
 mod:Mod K mg base
 bs: ∀ b o,base.get? b=some o->s.heap.get? b=some o/\H b=none
 uB:base.objs.size<=s.heap.objs.size
 funs:s.heap.FunFrames base outer
 y2: ∀ b∈CM outer,H b=none
 C1:NH P w H s.heap
 bare:KA s.gens
noncomputable def CE(outer:List Env)(P:BH)(w:Ap)(H:Hp)(s:Az)(Q:VK)(u:AN)(s':Az):Prop:=
 ∃ v H',s'.os=s.os/\KA s'.gens/\Un (CM outer) [] H H' s.heap s'.heap/\NH P w H' s'.heap/\RelV v u/\Q v H'
noncomputable def CR(CX:xl)(outer:List Env)(P:BH)(w:Ap)(H:Hp)(s:Az)(Q:VK)(E:XK)(r:Result)(s':Az):Prop:=
 match r with
 | .ok (.ret u)=>CE outer P w H s Q u s'
 | .ok _=>False
 | .error e=>CX outer H s E e s'
structure ES(P:BH)(w:Ap)(K:AS)(mg:Str->Option AN)(base:Ay)(CX:xl)(k:Nat)(f:AK)(fd:Ff)(ps:List Str)(sp:Sp):Prop where
 len: ∀ vs H Q E,sp vs H Q E->vs.length=ps.length
 run: ∀ A outer s H args us vs Q E,EE k A->lL P w K mg base A outer s H->R8 s fd args (ps.zip us)->Vals vs us->sp vs H Q E->
  GB (Ai P w) A (.call (.ref f) args) (CR CX outer P w H s Q E) s
def ES.imp{K:AS}(F:ES P w K mg base CX k f fd ps sp)
  (h: ∀ vs H Q E,sp' vs H Q E->sp vs H Q E):ES P w K mg base CX k f fd ps sp':=
 ⟨fun vs H Q E q=>F.len vs H Q E<|h _ _ _ _ q,fun A outer s H args us vs Q E hr he hb hv hs=>F.run A outer s H args us vs Q E hr he hb hv<|h _ _ _ _ hs⟩
def lL.make{K:AS}(e:lL P w K mg base A outer s H)(C:AK)(us:List AN)(kw:List (Str×AN)):
  lL P w K mg base (A.under<|.builtin "type.__call__" ⟨.ref C::us,kw⟩) outer s H:=⟨by first | exact e.frames |(simpa[bj,Code.envs,dQ,pushEnvs]using e.frames),e.mod,e.bs,e.uB,e.funs,e.y2,e.C1,e.bare⟩
section
variable{X:Cx}{pins:List (AK×Obj)}{σ:St}{H:Hp}{s s':Az}
def Inv.yk(I:Inv X pins σ H s):lL X.prog X.w X.K X.mg X.base X.A X.stack s H:=
 ⟨I.ok.frames,I.ok.mod,I.bs,CC I.ok.uB I.sz,I.stack,I.WK,I.C1,I.bare⟩
def Inv.after{Q:VK}(I:Inv X pins σ H s)(h:CE X.stack X.prog X.w H s Q u s'):EP X pins σ Q u s':=by
 obtain⟨v,H',os,bare,un,C1,r,q⟩:=h
 obtain⟨hh,g,d,t,os'⟩:=s'
 obtain rfl:os'=s.os:=os
 exact⟨v,H',I.call un C1 bare fun b z=>absurd z<|by simp,r,q⟩
end
noncomputable def AAj(sp:Sp)(dvs:List V)(E:XK)(t:TA):TE:=fun σ H Q=>t σ H fun vs H1=>sp (vs++dvs) H1 Q E
inductive AAY(C:AK)(m:Str)(a:AK)(H:Hp)(N:Prop):Prop
 | mk {dx:AK} {fs:List (Str×V)}:H a=some (.ins C dx fs)->fs.lookup m=none->N->AAY C m a H N
noncomputable def o_(C:AK)(m:Str)(sp:Sp)(dvs:List V)(E:XK)(ta:TE)(t:TA):TE:=fun σ H Q=>ta σ H fun x H1=>QL x fun a=>AAY C m a H1<|
 t σ H1 fun vs H2=>sp (.ref a::(vs++dvs)) H2 Q E
noncomputable def AAZ(C:AK)(sp:Sp)(dvs:List V)(E:XK)(t:TA):TE:=fun σ H Q=>t σ H fun vs H1=> ∀ x dx,H1 x=none->H1 dx=none->dx≠x->
 sp (.ref x::(vs++dvs)) (upd (upd H1 dx<|.own x) x<|.ins C dx []) (fun v H2=>v= .non/\Q (.ref x) H2) E
noncomputable def Binds(K:AS)(fd:Ff)(ps:List Str)(ds:List AN):Prop:=
 ∀ s us,K.In s.heap->(us++ds).length=ps.length->R8 s fd ⟨us,[]⟩ (ps.zip<|us++ds)
def Binds.all{K:AS}(h: ∀ us,us.length=ps.length->eJ fd ⟨us,[]⟩=CA (ps.zip us)):Binds K fd ps []:=fun s us _ hl=>by
 rw[O5]at hl ⊢
 exact .of_eq<|h us hl
noncomputable def Passes(CX:xl)(X:Cx)(E:XK):Prop:= ∀(pins:List (AK×Obj)) (σ:St) H s e s',Inv X pins σ H s->CX X.stack H s E e s'->X.xe e s'
section
variable{X:Cx}{CX:xl}{k:Nat}{f C:AK}{fd:Ff}{ps:List Str}{sp:Sp}{dvs:List V}{ds:List AN}{E:XK}{x m:Str}{p pos apos:Pos}{e o:Expr}{es:List Expr}{ta:TE}{t:TA}
theorem Xd{pins:List (AK×Obj)}{σ:St}(F:ES X.prog X.w X.K X.mg X.base CX k f fd ps sp)(hr:EE k X.A)(hb:Binds X.K fd ps ds)(hd:Vals dvs ds)(hx:Passes CX X E)
  (I:Inv X pins σ H s) (r:Vals vs us) (h:sp (vs++dvs) H Q E):Aw (Ai X.prog X.w) X.A (call (.ref f) us) (EP X pins σ Q) X.xe s:=by
 have r2:=r.append hd
 have hl:(us++ds).length=ps.length:=by rw[<-r2.length];exact F.len _ _ _ _ h
 refine Ov<|MG (F.run X.A X.stack s H ⟨us,[]⟩ (us++ds) (vs++dvs) Q E hr I.yk (hb s us I.Qs hl) r2 h) fun r s' hq=>?_
 cases r with
 | error e=>exact hx pins σ H s e s' I hq
 | ok fl=>
  cases fl with
  | ret u=>exact I.after hq
  | next=>exact DK hq
  | brk=>exact DK hq
  | cont=>exact DK hq
def xp(F:ES X.prog X.w X.K X.mg X.base CX k f fd ps sp)(hr:EE k X.A)(hg:Gl X x)(hm:X.mg x=some (.ref f))(hk:FT X.K (.ref f)=true)(hb:Binds X.K fd ps ds)(hd:Vals dvs ds)(hx:Passes CX X E)
  (ha:PA X (e::es) t) (hdb:(x==("__debug__":Str))=false:=by decide) (he:Au (e::es) X.env=(false,eval e X.env)::Au es X.env:=by rfl) (hpl:(Co pos<|Au es X.env).any (·.1)=false:=by rfl):
  PE X (.Call (.Name x p) (e::es) [] pos) (AAj sp dvs E t):=by
 refine fun pins s σ H Q I h=>Jj<|Lb I hg hm ?_ hdb
 refine LW I.ok.mod.xi hk (ki (ha pos pins s σ H _ I h) fun us s1 vs H1 I1 r q=>⟨I1.Qs,?_⟩) he hpl
 exact Xd F hr hb hd hx I1 r q
def xu{pl:Sem Bool}(he:PE X o ta)(c:af X.K C)(hm:Meth X.K C m f)(F:ES X.prog X.w X.K X.mg X.base CX k f fd ps sp)(hr:EE k X.A)(hb:Binds X.K fd ps ds)(hd:Vals dvs ds)(hx:Passes CX X E)(ha:PA X (e::es) t)
  (hst:Au (e::es) X.env=(false,eval e X.env)::Au es X.env:=by rfl) (hpl:(Co pos<|Au es X.env).any (·.1)=false:=by rfl)
  (ht:eval (.Call (.Attribute o m apos) (e::es) [] pos) X.env=(do
   let ov <-eval o X.env
   J1 apos.atName
   let(f,first) <-Hd [ov] (Ji ov m pl)
   ME pos f first (Co pos<|Au (e::es) X.env) (Ig pos<|Iv [] X.env)):=by rfl):
  PE X (.Call (.Attribute o m apos) (e::es) [] pos) (o_ C m sp dvs E ta t):=by
 refine fun pins s σ H Q I h=>Wy (HV (he pins s σ H _ I h) fun u s1 x H1 I1 rx qq=>?_) ht
 obtain⟨a,rfl,@⟨dx,fs,ea,l,q⟩⟩:=QL.ex qq
 obtain rfl:u=CL a:=rx
 refine QZ I1 ea c hm l<|LW I.ok.mod.xi hm.kp (ki (ha pos pins s1 σ H1 _ I1 q) fun us s2 vs H2 I2 r q2=>⟨I2.Qs,?_⟩) hst hpl
 exact Xd (us:= .ref a::us) (vs:= .ref a::vs) F hr hb hd hx I2 (.cons rfl r) q2
def v7(he:PE X o ta)(c:af X.K C)(hm:Meth X.K C m f)(F:ES X.prog X.w X.K X.mg X.base CX k f fd ps sp)(hr:EE k X.A)(hb:Binds X.K fd ps ds)(hd:Vals dvs ds)(hx:Passes CX X E)
  (ht:eval (.Call (.Attribute o m apos) [] [] pos) X.env=(do
   let ov <-eval o X.env
   J1 apos.atName
   let(f,first) <-Hd [ov] (Ji ov m pl)
   ME pos f first (Co pos<|Au [] X.env) (Ig pos<|Iv [] X.env)):=by rfl):
  PE X (.Call (.Attribute o m apos) [] [] pos) (o_ C m sp dvs E ta Ua):=by
 refine fun pins s σ H Q I h=>Wy (HV (he pins s σ H _ I h) fun u s1 x H1 I1 rx qq=>?_) ht
 obtain⟨a,rfl,@⟨dx,fs,ea,l,q⟩⟩:=QL.ex qq
 obtain rfl:u=CL a:=rx
 refine QZ I1 ea c hm l ?_
 exact mj (first:= [.ref a]) I1.Qs hm.kp<|Xd (us:= [.ref a]) (vs:= [.ref a]) F hr hb hd hx I1 (.cons rfl .nil) q
structure Mk(K:AS)(C f:AK):Prop where
 makes:XI K C=true
 init:C6 K (.ref C) "__init__"=some (some (.ref f))
 fn:WC K (.ref f)=true
 kp:FT K (.ref C)=true
theorem gG{pins:List (AK×Obj)}{σ:St}(M:Mk X.K C f)(F:ES X.prog X.w X.K X.mg X.base CX k f fd ps sp)(hr:EE (k+1) X.A)(hb:Binds X.K fd ps ds)(hd:Vals dvs ds)
  (hx:Passes CX X E) (I:Inv X pins σ H s) (r:Vals vs us)
  (h: ∀ x dx,H x=none->H dx=none->dx≠x->sp (.ref x::(vs++dvs)) (upd (upd H dx<|.own x) x<|.ins C dx []) (fun v H2=>v= .non/\Q (.ref x) H2) E):
  Aw (Ai X.prog X.w) X.A (call (.ref C) us) (EP X pins σ Q) X.xe s:=by
 have hq:=h (s.heap.objs.size+1) s.heap.objs.size (I.C1.fresh<|Vp _) (I.C1.fresh<|BS _)<|DP<|O1 _
 have I2:=Inv.made (C:=C) I
 have r2:Vals (V.ref (s.heap.objs.size+1)::(vs++dvs)) (CL (s.heap.objs.size+1)::(us++ds)):= .cons rfl<|r.append hd
 have hl:(CL (s.heap.objs.size+1)::us++ds).length=ps.length:=by
  have e:=r2.length
  rw[F.len _ _ _ _ hq]at e
  exact e.symm
 refine Ov<|uS I.Qs M.makes M.init (FR.mp M.fn)<|MG (F.run _ X.stack _ _ ⟨CL (s.heap.objs.size+1)::us,[]⟩ (CL (s.heap.objs.size+1)::(us++ds)) _ _ E (hr.make C us [])
  (I2.yk.make C us []) (hb _ (CL (s.heap.objs.size+1)::us) I2.Qs hl) r2 hq) fun r s' hq'=>?_
 cases r with
 | error e=>exact hx pins σ _ _ e s' I2 hq'
 | ok fl=>
  cases fl with
  | ret u=>
   obtain⟨v,H',I3,rv,rfl,q3⟩:=I2.after hq'
   exact⟨rv,V.ref<|s.heap.objs.size+1,H',I3,rfl,q3⟩
  | next=>exact DK hq'
  | brk=>exact DK hq'
  | cont=>exact DK hq'
def Fw(M:Mk X.K C f)(F:ES X.prog X.w X.K X.mg X.base CX k f fd ps sp)(hr:EE (k+1) X.A)(hg:Gl X x)(hm:X.mg x=some (.ref C))(hb:Binds X.K fd ps ds)(hd:Vals dvs ds)(hx:Passes CX X E)
  (ha:PA X (e::es) t) (hdb:(x==("__debug__":Str))=false:=by decide) (he:Au (e::es) X.env=(false,eval e X.env)::Au es X.env:=by rfl) (hpl:(Co pos<|Au es X.env).any (·.1)=false:=by rfl):
  PE X (.Call (.Name x p) (e::es) [] pos) (AAZ C sp dvs E t):=by
 refine fun pins s σ H Q I h=>Jj<|Lb I hg hm ?_ hdb
 refine LW I.ok.mod.xi M.kp (ki (ha pos pins s σ H _ I h) fun us s1 vs H1 I1 r q=>⟨I1.Qs,?_⟩) he hpl
 exact gG M F hr hb hd hx I1 r q
def Xc(M:Mk X.K C f)(F:ES X.prog X.w X.K X.mg X.base CX k f fd ps sp)(hr:EE (k+1) X.A)(hg:Gl X x)(hm:X.mg x=some (.ref C))(hb:Binds X.K fd ps ds)(hd:Vals dvs ds)(hx:Passes CX X E)
  (hdb:(x==("__debug__":Str))=false:=by decide):PE X (.Call (.Name x p) [] [] pos) (AAZ C sp dvs E Ua):=by
 refine fun pins s σ H Q I h=>Jj<|Lb I hg hm ?_ hdb
 exact mj I.Qs M.kp<|gG M F hr hb hd hx I .nil h
end
structure Ry(N P:List Str)(sc:FW):Prop where
 kind:sc.kind= .function
 co:sc.isCoroutine=false
 gen:sc.isGenerator=false
 nd:N.Nodup
 pre:N.take P.length=P
 par: ∀ x∈P,sc.names.lookup x=some .local\/sc.names.lookup x=some .cell
 ABf: ∀ y∈sc.names,y.2≠ .free
theorem Z4{kindOf:Str->Option FV}: ∀{binds:List (Str×AN)} {m:Str->Option AN},(∀ v,(x,v)∉binds)->KS kindOf binds m x=m x
 | [],_,_=>rfl
 |(n,v)::r,m,h=>by
  unfold KS
  rw[Z4 fun w hw=>h w<|C0 _ hw]
  split
  ·have:x≠n:=by rintro rfl;exact h v D0
   simp[this]
  ·rfl
theorem bC{kindOf:Str->Option FV}: ∀{binds:List (Str×AN)} {m:Str->Option AN},(∀ v,(x,v)∉binds)->J8 kindOf binds m x=m x
 | [],_,_=>rfl
 |(n,v)::r,m,h=>by
  unfold J8
  rw[bC fun w hw=>h w<|C0 _ hw]
  split
  ·rfl
  ·have:x≠n:=by rintro rfl;exact h v D0
   simp[this]
theorem Z7{kindOf:Str->Option FV}: ∀{P:List Str} {vs:List AN} {i:Nat} {m:Str->Option AN},P.Nodup->P[i]?=some x->vs[i]?=some v->kindOf x=some .local->
  KS kindOf (P.zip vs) m x=some v
 | [],_,_,_,_,h,_,_=>by simp at h
 | _::_,[],_,_,_,_,h,_=>by simp at h
 | p::P,w::vs,0,m,nd,h1,h2,hk=>by
  simp at h1 h2;subst h1;subst h2
  show KS kindOf ((p,w)::P.zip vs) m p=_
  unfold KS
  rw[Z4 fun v hv=>(PD.mp nd).1 (eo hv).1,AI hk]
  simp
 | p::P,w::vs,i+1,m,nd,h1,h2,hk=>by
  show KS kindOf ((p,w)::P.zip vs) m x=_
  unfold KS
  exact Z7 (i:=i) (PD.mp nd).2 (by simpa using h1) (by simpa using h2) hk
theorem ag{kindOf:Str->Option FV}: ∀{P:List Str} {vs:List AN} {i:Nat} {m:Str->Option AN},P.Nodup->P[i]?=some x->vs[i]?=some v->kindOf x≠some .local->
  J8 kindOf (P.zip vs) m x=some v
 | [],_,_,_,_,h,_,_=>by simp at h
 | _::_,[],_,_,_,_,h,_=>by simp at h
 | p::P,w::vs,0,m,nd,h1,h2,hk=>by
  simp at h1 h2;subst h1;subst h2
  show J8 kindOf ((p,w)::P.zip vs) m p=_
  unfold J8
  rw[bC fun v hv=>(PD.mp nd).1 (eo hv).1,AG hk]
  simp
 | p::P,w::vs,i+1,m,nd,h1,h2,hk=>by
  show J8 kindOf ((p,w)::P.zip vs) m x=_
  unfold J8
  exact ag (i:=i) (PD.mp nd).2 (by simpa using h1) (by simpa using h2) hk
noncomputable def start(N:List Str)(vs:List V):St:=vs.map some++Ed (N.length-vs.length) none
noncomputable def NC(CX:xl)(P:BH)(w:Ap)(K:AS)(mg:Str->Option AN)(base:Ay)(N:List Str)(qual:Str)(scope:FW)(f:AK)(cd:AN)(A:De)(outer:List Env)(s:Az)(H:Hp)(E:XK):Cx where
 prog:=P
 w:=w
 K:=K
 mg:=mg
 base:=base
 A:=A.deeper<|GK qual scope s.heap.objs.size f cd
 N:=N
 Pw:=s
 H_0:=H
 env:=GK qual scope s.heap.objs.size f cd
 outer:=outer
 stack:=GK qual scope s.heap.objs.size f cd::outer
 ex:= []
 calm:=true
 fn:=fun _=>true
 pn:= []
 xe:=fun e s'=>Aw (Ai P w) (A.deeper<|GK qual scope s.heap.objs.size f cd) («leaving» (GK qual scope s.heap.objs.size f cd) e) (fun _ s''=>CX outer H s E e s'') (fun e' s''=>CX outer H s E e' s'') s'
def jU{sc:FW}(h:sc.names.lookup x=some .cell): ∃ c,(Dy n sc.names []).lookup x=some c:=by
 exact dM.mp<|og sc.names n []<|.inl h
def sG{CX:xl}{K:AS}
  (S:Ry N ps scope) (hd:A.handled=none) (e0:lL P w K mg base A outer s H) (hl:vs.length=ps.length) (r:Vals vs us)
  (x:InCallC s s.heap.objs.size (KS (GK qual scope s.heap.objs.size f cd).kindOf (ps.zip us) fun _=>none) (Dy (s.heap.objs.size+1) scope.names []) (J8 (GK qual scope s.heap.objs.size f cd).kindOf (ps.zip us) fun _=>none) s1):
  Inv (NC CX P w K mg base N qual scope f cd A outer s H E) [] (start N vs) H s1:=by
 have hpl:ps.length<=N.length:=by have:=BO XB S.pre;rw[HP]at this;lia
 obtain⟨h1,tk,rfl,hk⟩:=x.done
 have noA: ∀ b:AK,b∉(NC CX P w K mg base N qual scope f cd A outer s H E).ex:=fun b z=>absurd (show b∈([]:List AK)from z)<|by simp
 refine⟨⟨e0.mod,S.kind,rfl,rfl,BS _,fun y z c h1 h2=>?_,fun y hy=>?_,fun y c _ h=>?_,fun _=>hd,Around.frames_deeper e0.frames,.inr ⟨rfl,rfl⟩,fun b z=>absurd z<|noA b,e0.bs,e0.uB,fun b _ _=>noA b,fun b z=>absurd z<|noA b,e0.funs,e0.y2,S.nd⟩,
  rfl,e0.bare,Un.kept hk,⟨_,x.toInCall.ns,fun i y v h1 h2 h3=>?_⟩,fun y c h=>⟨_,x.cell y c h⟩,e0.C1.fresh<|BS _,fun y c h=>?_,fun p hp=>absurd (show p∈([]:List (AK×Obj))from hp)<|by simp,e0.C1.kept hk,?_⟩
 ·exact name_of_addr x.apart (FX h1)<|FX h2
 ·have hy:=hy
  rcases hy with hy | hy
  ·exact jU hy
  ·exact absurd rfl<|S.ABf _<|FX hy
 ·exact HU<|x.above y c<|FX h
 ·have hi:i<vs.length:=by
   unfold start at h2
   by_cases hi:i<vs.length
   ·exact hi
   ·rw[V5<|by simpa using hi,eK]at h2
    split at h2<;>cases h2
  have ha:vs[i]?=some v:=by
   unfold start at h2
   rw[WE<|by simpa using hi,CY]at h2
   cases e:vs[i]? with
   | none=>rw[e]at h2;cases h2
   | some a=>rw[e]at h2;cases h2;rfl
  obtain⟨u,hu,rv⟩:=r.get ha
  have hp:ps[i]?=some y:=by
   rw[<-S.pre,List.getElem?_take_of_lt<|by lia];exact h1
  have ndP:ps.Nodup:=by rw[<-S.pre];exact S.nd.sublist<|List.take_sublist _ _
  refine⟨u,rv,?_⟩
  rcases S.par y (PZ hp)with k | k
  ·exact .inl ⟨k,Z7 ndP hp hu k⟩
  ·obtain⟨c,e⟩:=jU k
   refine .inr ⟨.inl k,c,e,?_⟩
   have q:=x.cell y c e
   rw[ag ndP hp hu<|by show scope.names.lookup y≠_;rw[k];decide]at q
   exact q
 ·exact e0.C1.fresh<|HU<|x.above y c<|FX h
 ·unfold start
  show _=N.length
  rw[E8,A8,Im]
  lia
theorem AAv{K:AS}{dV kV doc pm cdv ct oc:AN}
 (lk:K.lookup f=some ⟨oc,od,.func<|KG name qual params body scope dV kV doc pm an cdv ct,osl⟩) (hcd:fY K cdv qual=true) (S:Ry N ps scope)
  (len: ∀ vs H Q E,sp vs H Q E->vs.length=ps.length)
  (hbody: ∀ A outer s H vs Q E,EE k (A.deeper<|GK qual scope s.heap.objs.size f cdv)->sp vs H Q E->
   ∃ t,dX (NC CX P w K mg base N qual scope f cdv A outer s H E) body t/\t {nx:=fun _ H'=>Q .non H',rt:=Q} (start N vs) H):
  ES P w K mg base CX (k+1) f (KG name qual params body scope dV kV doc pm an cdv ct) ps sp:=by
 refine⟨len,fun A outer s H args us vs Q E hr e0 hb r hsp=>?_⟩
 have KX:=e0.mod.xi.keeps fun b o e=>(e0.bs b o e).1
 have hkind: ∀ y∈ps.zip us,scope.names.lookup y.1=some .local\/(scope.names.lookup y.1=some .cell/\((Dy (s.heap.objs.size+1) scope.names []).lookup y.1).isSome=true):=fun⟨n,v⟩ hy=>by
  rcases S.par n (eo hy).1 with q | q
  ·exact .inl q
  ·exact .inr ⟨q,og _ _ _<|.inl q⟩
 refine codeAny_call_function hr.depth (KX _ _ lk) rfl S.co S.gen rfl (PySem.W.codeRec_of KX hcd)<|hb _ _ _ _<|wpAny_newFunctionEnv_cells S.kind hkind fun env he s1 x=>?_
 subst he
 refine⟨(e0.mod.nolimit.keeps fun b o e=>(e0.bs b o e).1).keeps x.toInCall.keep,codeAny_func ?_⟩
 obtain⟨t,ht,hq⟩:=hbody A outer s H vs Q E (hr.deeper _) hsp
 have I:Inv (NC CX P w K mg base N qual scope f cdv A outer s H E) [] (start N vs) H s1:=sG S hr.hd e0 (len _ _ _ _ hsp) r x
 refine Et (ht [] s1 (start N vs) H _ I hq) (fun fl s' hs=>?_) fun e s' hs=>hs
 have fin: ∀{σ':St} {H':Hp} {v:V} {u:AN},Inv (NC CX P w K mg base N qual scope f cdv A outer s H E) [] σ' H' s'->RelV v u->Q v H'->CE outer P w H s Q u s':=
  fun{σ' H' v u} J rv q=>⟨v,H',J.os,J.bare,J.base,J.C1,rv,q⟩
 cases fl with
 | ret u=>
  obtain⟨v,σ',H',J,rv,q⟩:=hs
  exact fin J rv q
 | next=>
  obtain⟨σ',H',J,q⟩:=hs
  exact fin (v:=V.non) (u:=Sd) J rfl q
 | brk=>
  obtain⟨_,_,_,q⟩:=hs
  exact DK q
 | cont=>
  obtain⟨_,_,_,q⟩:=hs
  exact DK q
end L2
namespace L2
open PySem PySem.Spec PyProof.Rows
section
variable{X:Cx}{x:Str}{p pos:Pos}{e:Expr}{es:List Expr}{t:TA}{id T:String}{r:List V->Hp->VK->Prop}
noncomputable def tCB(r:List V->Hp->VK->Prop)(t:TA):TE:=fun σ H Q=>t σ H fun vs H1=>r vs H1 Q
def EU(hc:Y_ X (.builtin id) r)(hg:Gl X x)(hm:X.mg x=none)(hv:Ih x=some (.builtin id))(ha:PA X (e::es) t)(hn:x≠"__name__":=by decide)(hdb:(x==("__debug__":Str))=false:=by decide)
  (he:Au (e::es) X.env=(false,eval e X.env)::Au es X.env:=by rfl) (hpl:(Co pos<|Au es X.env).any (·.1)=false:=by rfl):PE X (.Call (.Name x p) (e::es) [] pos) (tCB r t):=by
 refine fun pins s σ H Q I h=>Jj<|Q4 I hg hm hv ?_ hn hdb
 exact nL (ki (ha pos pins s σ H _ I h) fun us s1 vs H1 I1 r1 q1=>hc pins s1 σ H1 vs us Q I1 r1 q1) he hpl
def K0(hc:Y_ X (.type T) r)(hg:Gl X x)(hm:X.mg x=none)(hv:Ih x=some (.type T))(ha:PA X (e::es) t)(hn:x≠"__name__":=by decide)(hdb:(x==("__debug__":Str))=false:=by decide)
  (he:Au (e::es) X.env=(false,eval e X.env)::Au es X.env:=by rfl) (hpl:(Co pos<|Au es X.env).any (·.1)=false:=by rfl):PE X (.Call (.Name x p) (e::es) [] pos) (tCB r t):=by
 refine fun pins s σ H Q I h=>Jj<|Q4 I hg hm hv ?_ hn hdb
 exact RJ (ki (ha pos pins s σ H _ I h) fun us s1 vs H1 I1 r1 q1=>hc pins s1 σ H1 vs us Q I1 r1 q1) he hpl
end
end L2
namespace HT
open PySem PyProof.Rows
section
variable{prog:BH}{w:Ap}{A:De}{E:AN->Az->Prop}{s:Az}
noncomputable def gE(n d:Nat):Option Int->Nat
 | none=>d
 | some v=>if v<0 then(v+(n:Int)).toNat else min v.toNat n
def Wx(n d k:Nat):gE n d (some (k:Int))=min k n:=by
 show(if(k:Int)<0 then((k:Int)+(n:Int)).toNat else min (k:Int).toNat n)=min k n
 rw[AG<|by lia,Int.toNat_natCast]
end
end HT
namespace L2
open PySem PySem.Spec PyProof.Rows
noncomputable abbrev TO:=St->Hp->(Option Int->Hp->Prop)->Prop
noncomputable def PO(X:Cx)(e:Option Expr)(t:TO):Prop:=
 ∀(pins:List (AK×Obj)) s (σ:St) H Q,Inv X pins σ H s->t σ H Q->
  Aw (Ai X.prog X.w) X.A (evalPart e X.env) (fun u s'=> ∃ o H',Inv X pins σ H' s'/\IsPart u o/\Q o H') X.xe s
noncomputable def ADr(t:TE):TO:=fun σ H Q=>t σ H fun x H1=> ∃ i,x= .int i/\Q (some i) H1
section
variable{X:Cx}{e:Expr}{te:TE}{lo hi:Option Expr}{tl th:TO}{pos p2:Pos}
def Wf(h:PE X e te):PO X (some e) (ADr te):=by
 intro pins s σ H Q I hw
 rw[evalPart_some]
 refine HV (h pins s σ H _ I hw) fun u s1 x H1 I1 r1 q1=>?_
 obtain⟨i,rfl,q⟩:=q1
 obtain⟨t,rfl⟩:=r1
 exact⟨some i,H1,I1,.int i t,q⟩
noncomputable def SlR(X:Cx)(r:V->Option Int->Option Int->Hp->VK->Prop):Prop:=
 ∀(pins:List (AK×Obj)) s (σ:St) H x v vl vu lo hi sl Q,Inv X pins σ H s->RelV x v->s.heap.IsSliceOf sl vl vu .none->IsPart vl lo->IsPart vu hi->r x lo hi H Q->
  ∃ T id,Ww (.type T) "__getitem__"=CA (some<|.builtin id)/\s.TypeIs v T/\Aw (Ai X.prog X.w) X.A (TU v<|.ref sl) (EP X pins σ Q) X.xe s
noncomputable def tSl(r:V->Option Int->Option Int->Hp->VK->Prop)(te:TE)(tl th:TO):TE:=fun σ H Q=>te σ H fun x H1=>tl σ H1 fun l H2=>th σ H2 fun u H3=>r x l u H3 Q
def jT(hr:SlR X r)(he:PE X e te)(hl:PO X lo tl)(hu:PO X hi th):PE X (.Subscript e (.Slice lo hi none p2) pos) (tSl r te tl th):=by
 refine fun pins s σ H Q I h=>cg<|HV (he pins s σ H _ I h) fun v s1 x H1 I1 r1 q1=>wpAny_Slice<|QE (hl pins s1 σ H1 _ I1 q1) fun vl s2 ⟨l,H2,I2,pl,q2⟩=>QE (hu pins s2 σ H2 _ I2 q2) fun vu s3 ⟨u,H3,I3,pu,q3⟩=>?_
 rw[evalPart_none]
 refine Ck ?_
 have I4:Inv X pins σ H3 {s3 with heap:=s3.heap.push {cls:= .type "slice",data:= .fields #[vl,vu,.none]}}:=I3.kept (t':=s3.toks) fun b ob q=>CW _ q
 obtain⟨T,id,hT,ht,hg⟩:=hr pins {s3 with heap:=s3.heap.push {cls:= .type "slice",data:= .fields #[vl,vu,.none]}} σ H3 x v vl vu l u s3.heap.objs.size Q I4 r1 (AAC ..) pl pu q3
 exact tail_any ht hT hg<|by with_unfolding_all rfl
noncomputable def bW(xs:List V)(lo hi:Option Int):List V:=(xs.drop<|HT.gE xs.length 0 lo).take (HT.gE xs.length xs.length hi-HT.gE xs.length 0 lo)
def gT(xs:List V)(lo hi:Option Int):(bW xs lo hi).length<=xs.length:=by
 unfold bW
 rw[HP,Gs]
 lia
end
end L2
namespace L2
open PySem PySem.Spec PyProof.Rows
noncomputable def uA(n:Nat)(i:Int):Option Nat:=if 0<=i then(if i<n then some i.toNat else none)else if-(n:Int)<=i then some (i+n).toNat else none
noncomputable def Wz(xs:List α)(i:Int):Option α:=(uA xs.length i).bind fun j=>xs[j]?
def d4(h:uA n i=some j):W5 i n=some j/\j<n/\ -(n:Int)<=i/\i<n:=by
 unfold uA at h
 by_cases h0:0<=i
 ·rw[AI h0]at h
  by_cases h1:i<n
  ·rw[AI h1]at h
   have e:=C_ h
   exact⟨by rw[fC h0 h1,e],by lia,by lia,h1⟩
  ·rw[AG h1]at h;cases h
 ·rw[AG h0]at h
  by_cases h1: -(n:Int)<=i
  ·rw[AI h1]at h
   exact⟨by rw[df (by lia) h1,C_ h],by lia,h1,by lia⟩
  ·rw[AG h1]at h;cases h
theorem dJ{α:Type}{xs:List α}{v:α}(h:Wz xs i=some v): ∃ j,W5 i xs.length=some j/\xs[j]?=some v/\j<xs.length/\ -(xs.length:Int)<=i/\i<xs.length:=by
 unfold Wz at h
 cases e:uA xs.length i with
 | none=>rw[e]at h;cases h
 | some j=>
  rw[e]at h
  obtain⟨h1,h2,h3,h4⟩:=d4 e
  exact⟨j,h1,h,h2,h3,h4⟩
def En{α:Type}{xs:List α}{j:Nat}{v:α}(h:xs[j]?=some v):Wz xs (j:Int)=some v:=by
 have hj:=(IZ.mp h).1
 have e:uA xs.length (j:Int)=some j:=by
  unfold uA
  rw[AI<|by lia,AI<|by lia];simp
 unfold Wz;rw[e];exact h
def vC{α:Type}(xs:List α)(v:α):Wz (xs++ [v]) (-1)=some v:=by
 have hl:(xs++ [v]).length=xs.length+1:=by simp
 have e:uA (xs++ [v]).length (-1)=some xs.length:=by
  unfold uA
  rw[hl,AG<|by decide,AI<|by lia]
  congr 1
  lia
 unfold Wz
 rw[e]
 simp
noncomputable def mh(b:Expr):Prop:= ∀ o i,Wv b false o i=dW [o,i] (TU o i)
noncomputable def t9(X:Cx)(r:R2):Prop:=
 ∀(value slice:Expr) pins s (σ:St) H x y v u Q,Inv X pins σ H s->RelV x v->RelV y u->r x y H Q->
  Wv slice false v u=dW [v,u] (TU v u)->Aw (Ai X.prog X.w) X.A (nU value slice v u) (EP X pins σ Q) X.xe s
noncomputable def MtR(X:Cx)(id:String)(r:V->List V->Hp->VK->Prop):Prop:=
 ∀(pins:List (AK×Obj)) s (σ:St) H x xs v us Q,Inv X pins σ H s->RelV x v->Vals xs us->r x xs H Q->
  Aw (Ai X.prog X.w) X.A (call (.builtin id)<|v::us) (EP X pins σ Q) X.xe s
section
variable{X:Cx}{a b:Expr}{ta tb:TE}{pos:Pos}
def t9.or(h:t9 X r)(h':t9 X r'):t9 X (fun x y H Q=>r x y H Q\/r' x y H Q):=by
 intro value slice pins s σ H x y v u Q I rx ry q hs
 rcases q with q | q
 ·exact h value slice pins s σ H x y v u Q I rx ry q hs
 ·exact h' value slice pins s σ H x y v u Q I rx ry q hs
def AE0(hr:t9 X r)(ha:PE X a ta)(hb:PE X b tb)(hs:mh b):PE X (.Subscript a b pos) (iX r ta tb):=
 fun pins s σ H Q I h=>cg<|ABx ha hb I h fun v u s2 x y H2 I2 rx ry q=>hr a b pins s2 σ H2 x y v u Q I2 rx ry q<|hs _ _
inductive ADV(K:AS)(p:AK)(i:Int)(H:Hp)(Q:VK):Prop
 | mk {xs:List V} {v:V}:BF K H p xs->Wz xs i=some v->Q v H->ADV K p i H Q
noncomputable def vi(K:AS):R2:=fun x y H Q=>QL x fun p=>RI y fun i=>ADV K p i H Q
inductive AEZ(K:AS)(p:AK)(i:Int)(H:Hp)(Q:VK):Prop
 | mk {xs:List V} {v:V}:Dh K H p xs->Wz xs i=some v->Q v H->AEZ K p i H Q
noncomputable def ADd(K:AS):R2:=fun x y H Q=>QL x fun p=>RI y fun i=>AEZ K p i H Q
noncomputable def AE8:R2:=fun x y H Q=> ∃ z i c,x= .str z/\y= .int i/\z.length<=sizeLine/\Wz z.cps.toList i=some c/\Q (.str ⟨#[c]⟩) H
def Ab:t9 X (vi X.K):=by
 intro value slice pins s σ H x y v u Q I rx ry h hs
 obtain⟨p,rfl,h'⟩:=QL.ex h
 obtain⟨i,rfl,@⟨xs,z,hq,he,q⟩⟩:=RI.ex h'
 cases rx
 obtain⟨t,rfl⟩:=ry
 obtain⟨its,r,pl,hz⟩:=I.list hq
 obtain⟨j,h1,h2,h3,h4,h5⟩:=dJ he
 obtain⟨w,ew,rw'⟩:=r.get h2
 have hl:=r.length
 have hn:=Xi
 have fin:EP X pins σ Q w s:=⟨z,H,I,rw',q⟩
 by_cases h0:0<=i
 ·have hj:i.toNat=j:=by
   rw[fC h0 h5]at h1
   exact C_ h1
  exact item_listR pl.isList h0 (by lia) (by rw[hj];simpa using ew) fin hs
 ·have hj:(i+(its.toArray.size:Int)).toNat=j:=by
   rw[df (by lia) h4]at h1
   rw[Cp,<-hl]
   exact C_ h1
  exact rA pl.isList.typeIs qW.lookup
   (wpAny_getItem_list_neg pl.isList (by lia) (by rw[Cp]<;>lia) (by lia) (by rw[hj];simpa using ew) ⟨rfl,fin⟩) hs
def By:t9 X (ADd X.K):=by
 intro value slice pins s σ H x y v u Q I rx ry h hs
 obtain⟨p,rfl,h'⟩:=QL.ex h
 obtain⟨i,rfl,@⟨xs,z,hq,he,q⟩⟩:=RI.ex h'
 cases rx
 obtain⟨t,rfl⟩:=ry
 obtain⟨its,r,pl,hz⟩:=I.tuple hq
 obtain⟨j,h1,h2,h3,h4,h5⟩:=dJ he
 obtain⟨w,ew,rw'⟩:=r.get h2
 have hl:=r.length
 have hn:=Xi
 have fin:EP X pins σ Q w s:=⟨z,H,I,rw',q⟩
 exact rA pl.typeIs slot_tuple_getitem.lookup
  (getItem_tuple pl (by lia) (by lia) (by rw[Cp,<-hl];exact h1) (by simpa using ew) ⟨rfl,fin⟩) hs
def ACl:t9 X AE8:=by
 intro value slice pins s σ H x y v u Q I rx ry h hs
 obtain⟨z,i,c,rfl,rfl,hz,he,q⟩:=h
 obtain⟨t,rfl⟩:=rx
 obtain⟨t',rfl⟩:=ry
 obtain⟨j,h1,h2,h3,h4,h5⟩:=dJ he
 have hl:z.cps.toList.length=z.length:=by simp[Str.length]
 rw[hl]at h1 h4 h5
 have hn:=Xi
 exact tail_any (typeIs_str s z t) slot_str_getitem.lookup (getItem_str (by
  have e1:decide (i< -(2^63:Int))=false:=D4<|by lia
  have e2:decide (i>=2^63)=false:=D4<|by lia
  rw[e1,e2,Bool.or_false]) (by rw[h1];simpa using h2) ⟨.str ⟨#[c]⟩,H,I.tok _,⟨_,rfl⟩,q⟩) hs
noncomputable def rIx(K:AS):R2:=fun x y H Q=>vi K x y H Q\/ADd K x y H Q\/AE8 x y H Q
def xK:t9 X (rIx X.K):=Ab.or (By.or ACl)
def kQ(its:List AN)(n j:Nat)(u:AN):Sq (·.setIfInBounds j u) {cls:= .type "list",data:= .seq its.toArray n}={cls:= .type "list",data:= .seq (its.set j u).toArray n}:=by
 simp[Sq]
def Inv.lst{pins:List (AK×Obj)}{σ:St}(I:Inv X pins σ H s)(h:H p=some (.lst xs)):
  ∃(its:List AN) (n:Nat),Vals xs its/\s.heap.get? p=some {cls:= .type "list",data:= .seq its.toArray n}/\xs.length<=sizeLine:=by
 obtain⟨z,its,n,r,e⟩:=I.C1 p _ h
 exact⟨its,n,r,e,z⟩
def Inv.AC5{pins:List (AK×Obj)}{σ:St}{its its':List AN}(I:Inv X pins σ H s)(h:H p=some (.lst xs))
  (ho:s.heap.get? p=some {cls:= .type "list",data:= .seq its.toArray n}) (hf:f {cls:= .type "list",data:= .seq its.toArray n}={cls:= .type "list",data:= .seq its'.toArray n'}) (r:Vals ys its') (hz:ys.length<=sizeLine) (t:Nat):
  Inv X pins σ (upd H p<|.lst ys) {s with heap:=s.heap.update p f,toks:=t}:=by
 have e:(s.heap.update p f).get? p=some {cls:= .type "list",data:= .seq its'.toArray n'}:=by
  rw[WA f ho<|by rw[hf]<;>rfl,hf]
 refine I.write (by rw[h];trivial) (.inl rfl) (fun b u hb q=>(V_ _ _<|Ei hb).trans q) ⟨_,e⟩ ?_
 exact⟨hz,its',n',r,e⟩
noncomputable def ADU:V->V->V->Hp->(Hp->Prop)->Prop:=fun o i v H Q=> ∃ p xs k j,o= .ref p/\i= .int k/\H p=some (.lst xs)/\uA xs.length k=some j/\Q (upd H p<|.lst<|xs.set j v)
def set_list:AEV X ADU:=by
 rintro pins s σ H o i v ov iv u Q I ro ri rv ⟨p,xs,k,j,rfl,rfl,hp,hj,q⟩
 cases ro
 obtain⟨t,rfl⟩:=ri
 obtain⟨its,n,r,ho,hz⟩:=I.lst hp
 obtain⟨h1,h2,h3,h4⟩:=d4 hj
 have hl:=r.length
 have hn:=Xi
 have I':Inv X pins σ (upd H p<|.lst<|xs.set j v) {s with heap:=s.heap.update p<|Sq (·.setIfInBounds j u)}:=
  I.AC5 hp ho (kQ its n j u) (r.set rv j) (by rw[DR];exact hz) s.toks
 by_cases h0:0<=k
 ·have hk:k.toNat=j:=by
   rw[fC h0 h4]at h1
   exact C_ h1
  exact PySem.W.ki_setAt ho h0 (by lia) (by rw[Cp,<-hl];exact h4)<|by rw[hk];exact⟨_,I',q⟩
 ·have hk:(k+(its.toArray.size:Int)).toNat=j:=by
   rw[df (by lia) h3]at h1
   rw[Cp,<-hl]
   exact C_ h1
  exact PySem.W.ki_setBack ho (by lia) (by rw[Cp,<-hl];exact h3) (by lia)<|by rw[hk];exact⟨_,I',q⟩
def b5(lo hi:Option Int)(n:Nat):(LX lo hi none n).1=((HT.gE n 0 lo:Nat):Int)/\(LX lo hi none n).2.1=((HT.gE n n hi:Nat):Int)/\(LX lo hi none n).2.2=1:=by
 refine⟨?_,?_,rfl⟩
 ·cases lo with
  | none=>simp[LX,HT.gE]
  | some i=>
   simp only[LX,HT.gE,qx,show(1:Int)>0 by decide,D8]
   by_cases h:i<0
   ·simp only[h,D8]<;>lia
   ·simp only[h,FH]<;>lia
 ·cases hi with
  | none=>simp[LX,HT.gE]
  | some i=>
   simp only[LX,HT.gE,qx,show(1:Int)>0 by decide,D8]
   by_cases h:i<0
   ·simp only[h,D8]<;>lia
   ·simp only[h,FH]<;>lia
def Zd(its:List AN)(lo hi:Option Int):slicePick its.toArray lo hi none=((its.drop<|HT.gE its.length 0 lo).take<|HT.gE its.length its.length hi-HT.gE its.length 0 lo).toArray:=by
 obtain⟨h1,h2,h3⟩:=b5 lo hi its.toArray.size
 unfold slicePick
 rw[h1,h2,h3]
 simp only[sliceRange_one,pick_run,Cp]<;>rfl
noncomputable def AFt(K:AS):V->Option Int->Option Int->Hp->VK->Prop:=fun x lo hi H Q=> ∃ a xs,x= .ref a/\BF K H a xs/\ ∀ p,H p=none->Q (.ref p) (upd H p<|.lst<|bW xs lo hi)
def qV:SlR X (AFt X.K):=by
 rintro pins s σ H x v vl vu lo hi sl Q I rx hs pl pu ⟨a,xs,rfl,hx,q⟩
 cases rx
 obtain⟨its,r,ht,hz⟩:=I.list hx
 have hlen:=r.length
 refine⟨"list",_,qW.lookup,ht.isList.typeIs,wpAny_getItem_list_slice ht.isList hs pl pu .none (by simp) ?_<|by rw[Cp]<;>lia⟩
 rw[Zd,<-hlen]
 refine⟨.ref s.heap.objs.size,_,I.laid (fun b ob q=>CW _ q) (BS _) ?_,rfl,q _<|I.C1.fresh<|BS _⟩
 exact⟨CC (gT xs lo hi) hz,_,0,(r.drop<|HT.gE xs.length 0 lo).take<|HT.gE xs.length xs.length hi-HT.gE xs.length 0 lo,FP _ rfl⟩
inductive AD4(K:AS)(p:AK)(H:Hp)(Q:VK):Prop
 | mk {ys:List V}:(BF K H p ys\/Dh K H p ys)->Q (.int ys.length) H->AD4 K p H Q
noncomputable def ABJ(K:AS)(xs:List V)(H:Hp)(Q:VK):Prop:=xj xs fun x=>QL x fun p=>AD4 K p H Q
def fB:Y_ X (.builtin "len") (ABJ X.K):=by
 intro pins s σ H xs us Q I r h
 obtain⟨x,rfl,h'⟩:=xj.ex h
 obtain⟨p,rfl,@⟨ys,hq,q⟩⟩:=QL.ex h'
 obtain⟨u,rfl,rx⟩:=vals1 r
 cases rx
 have hn:=Xi
 rcases hq with hq | hq
 ·obtain⟨its,r',pl,hz⟩:=I.list hq
  have hlen:=r'.length
  exact Calls.call_len_list pl.isList (by simp only[Cp]<;>lia) ⟨.int ys.length,H,I.tok _,⟨s.toks+1,by rw[Cp,hlen]⟩,q⟩
 ·obtain⟨its,r',pl,hz⟩:=I.tuple hq
  have hlen:=r'.length
  exact len_tuple pl (by simp only[Cp]<;>lia) ⟨.int ys.length,H,I.tok _,⟨s.toks+1,by rw[Cp,hlen]⟩,q⟩
def GN:Y_ X (.type "list") (fun xs H Q=> ∃ p ys,xs= [.ref p]/\(BF X.K H p ys\/Dh X.K H p ys)/\ ∀ l,H l=none->Q (.ref l) (upd H l<|.lst ys)):=by
 rintro pins s σ H xs us Q I r ⟨p,ys,rfl,hq,q⟩
 obtain⟨u,rfl,rx⟩:=vals1 r
 cases rx
 have fin: ∀(its:List AN),Vals ys its->ys.length<=sizeLine-> ∀(h':Ay) (c':Nat),(∀ b o',s.heap.get? b=some o'->h'.get? b=some o')->
   h'.get? s.heap.objs.size=some {cls:= .type "list",dict:=none,data:= .seq its.toArray c',slots:= #[]}->EP X pins σ Q (.ref s.heap.objs.size) {s with heap:=h'}:=fun its r' hz h' c' kp e=>
  ⟨.ref s.heap.objs.size,_,I.laid (t':=s.toks) kp (BS _)<|show EH X.prog X.w _ h' _ (.lst ys)from⟨hz,its,c',r',e⟩,rfl,q _<|I.C1.fresh<|BS _⟩
 rcases hq with hq | hq
 ·obtain⟨its,r',pl,hz⟩:=I.list hq
  have hlen:=r'.length
  obtain⟨o,ho,hc,n,hd⟩:=pl.isList
  exact pF p (.inl rfl) ho hc hd (fun h' c' kp e=>fin its r' hz h' c' kp e)<|by simp only[Cp]<;>lia
 ·obtain⟨its,r',pl,hz⟩:=I.tuple hq
  have hlen:=r'.length
  obtain⟨o,ho,hc,n,hd⟩:=pl
  exact pF p (.inr rfl) ho hc hd (fun h' c' kp e=>fin its r' hz h' c' kp e)<|by simp only[Cp]<;>lia
noncomputable def tyV(K:AS)(T:String)(x:V)(H:Hp):Prop:=match x with
 | .str _=>T="str"
 | .int _=>T="int"
 | .ref p=>(T="list"/\ ∃ xs,BF K H p xs)\/(T="tuple"/\ ∃ o,K.lookup p=some o/\o.cls= .type "tuple"/\o.dict=none)\/
   (T="dict"/\((∃ BU,H p=some (.dK BU))\/ ∃ BU,H p=some (.dT BU)))\/(T="set"/\ ∃ S n,H p=some (.set S n))
 | _=>False
theorem wW{pins:List (AK×Obj)}{σ:St}(I:Inv X pins σ H s)(r:RelV x v)(ty:tyV X.K T x H):
  s.TypeIs v T/\ ∀ a,v= .ref a-> ∃ ob,s.heap.get? a=some ob/\ob.dict=none:=by
 cases x with
 | str z=>
  obtain⟨t,rfl⟩:=r
  cases (ty)
  exact⟨typeIs_str s z t,fun _ e=>nomatch e⟩
 | int i=>
  obtain⟨t,rfl⟩:=r
  cases (ty)
  exact⟨typeIs_int s i t,fun _ e=>nomatch e⟩
 | ref p=>
  cases r
  rcases ty with⟨rfl,xs,hq⟩ |⟨rfl,o,hk,hc,hd⟩ |⟨rfl,hk⟩ |⟨rfl,S,n,hk⟩
  ·obtain⟨its,_,pl,_⟩:=I.list hq
   refine⟨pl.isList.typeIs,fun a e=>?_⟩
   cases e
   obtain⟨o,n,e,c,hd,_⟩:=pl
   exact⟨o,e,hd⟩
  ·refine⟨⟨o,I.Qs p o hk,hc⟩,fun a e=>?_⟩
   cases e
   exact⟨o,I.Qs _ o hk,hd⟩
  ·have z: ∃ o,s.heap.get? p=some o/\o.ExactDict:=by
    rcases hk with⟨BU,hk⟩ |⟨BU,hk⟩
    ·obtain⟨_,_,_,_,o,_,_,e,ex,_⟩:=I.C1 p _ hk
     exact⟨o,e,ex⟩
    ·obtain⟨_,_,_,_,o,_,_,e,ex,_⟩:=I.C1 p _ hk
     exact⟨o,e,ex⟩
   obtain⟨o,e,ex⟩:=z
   refine⟨⟨o,e,ex.1⟩,fun a e2=>?_⟩
   cases e2
   exact⟨o,e,ex.2.1⟩
  ·obtain⟨o,_,_,_,e,ex,_⟩:=I.C1 p _ hk
   refine⟨⟨o,e,ex.1⟩,fun a e2=>?_⟩
   cases e2
   exact⟨o,e,ex.2.1⟩
 | _=>exact DK ty
noncomputable def AFP(K:AS)(T:String)(r:V->List V->Hp->VK->Prop)(to:TE):TE:=fun σ H Q=>to σ H fun x H1=>tyV K T x H1/\r x [] H1 Q
noncomputable def tBM(K:AS)(T:String)(r:V->List V->Hp->VK->Prop)(to:TE)(t:TA):TE:=fun σ H Q=>to σ H fun x H1=>tyV K T x H1/\t σ H1 fun xs H2=>r x xs H2 Q
variable{o e:Expr}{es:List Expr}{to:TE}{t:TA}{name:Str}{apos cpos:Pos}{T id:String}{r:V->List V->Hp->VK->Prop}
def eU(pa:PlainAttrs T)(slot:Slot T name id)(hty:typeOf (.builtin id)=CA (.type "method_descriptor"))(hm:MtR X id r)(ho:PE X o to)
  (hbase:J0 o name X.env (eval o X.env)=eval o X.env:=by rfl) (hline:(apos.endLine==cpos.line)=true:=by rfl):PE X (.Call (.Attribute o name apos) [] [] cpos) (AFP X.K T r to):=by
 refine fun pins s σ H Q I h=>wpAny_Call_method0_late hbase hline<|HV (ho pins s σ H _ I h) fun v s1 x H1 I1 r1 q_=>?_
 obtain⟨ty,q1⟩:=q_
 obtain⟨h1,h2⟩:=wW I1 r1 ty
 exact⟨T,id,pa,slot,hty,h1,h2,WL rfl<|PySem.evalArgs_none<|hm pins s1 σ H1 x [] v [] Q I1 r1 .nil q1⟩
def VD(pa:PlainAttrs T)(slot:Slot T name id)(hty:typeOf (.builtin id)=CA (.type "method_descriptor"))(hm:MtR X id r)(ho:PE X o to)(ha:PA X (e::es) t)
  (hbase:J0 o name X.env (eval o X.env)=eval o X.env:=by rfl)
  (hfew:((Co cpos<|Au (e::es) X.env).all (fun x=>!x.1)&&(Ig cpos<|Iv [] X.env).all (fun x=>x.1.isSome)
   &&decide ((e::es).length+([]:List W7).length+(if([]:List W7).isEmpty then 0 else 1)<30))=true:=by rfl)
  (hline:(apos.endLine==cpos.line)=true:=by rfl) (hs:Au (e::es) X.env=(false,eval e X.env)::Au es X.env:=by rfl) (hplain:(Co cpos<|Au es X.env).any (·.1)=false:=by rfl):
  PE X (.Call (.Attribute o name apos) (e::es) [] cpos) (tBM X.K T r to t):=by
 refine fun pins s σ H Q I h=>wpAny_Call_method_late hbase hfew hline rfl<|HV (ho pins s σ H _ I h) fun v s1 x H1 I1 r1 q_=>?_
 obtain⟨ty,q1⟩:=q_
 obtain⟨h1,h2⟩:=wW I1 r1 ty
 refine⟨T,id,pa,slot,hty,h1,h2,?_⟩
 have hA:=ha cpos pins s1 σ H1 _ I1 q1
 rw[hs]at hA ⊢
 exact WL (by show(false||(Co cpos<|Au es X.env).any (·.1))=false;rw[hplain]<;>rfl)<|eB<|QE hA fun us s2 ⟨vs,H2,I2,r2,q2⟩=>hm pins s2 σ H2 x vs v us Q I2 r1 r2 q2
end
end L2
namespace L2
open PySem PySem.Spec PyProof.Rows
noncomputable def MtM(X:Cx)(id:String)(r:V->List V->Hp->VK->Prop):Prop:=
 ∀(pins:List (AK×Obj)) s (σ:St) H x xs v us Q,Inv X pins σ H s->RelV x v->Vals xs us->r x xs H Q->
  Aw (Ai X.prog X.w) X.A (call (.builtin id)<|v::us) (EP X pins σ Q) X.xe s
def Vals.one{x:V}{us:List AN}(h:Vals [x] us): ∃ u,us= [u]/\RelV x u:=by
 obtain _ |⟨r,_ | _⟩:=h
 exact⟨_,rfl,r⟩
theorem Vals.zero: ∀{us:List AN},Vals [] us->us= []
 | _,.nil=>rfl
theorem Vals.dropLast(h:Vals xs us):Vals xs.dropLast us.dropLast:=by
 induction h with
 | nil=>exact .nil
 | cons r t ih=>
  cases t with
  | nil=>exact .nil
  | cons q t'=>exact .cons r ih
theorem Vals.eraseIdx{xs:List V}{us:List AN}(i:Nat)(h:Vals xs us):Vals (xs.eraseIdx i) (us.eraseIdx i):=by
 induction h generalizing i with
 | nil=>exact .nil
 | cons r t ih=>
  cases i with
  | zero=>exact t
  | succ i=>exact .cons r<|ih i
theorem lJ(l:List α):l.eraseIdx (l.length-1)=l.dropLast:=by
 induction l with
 | nil=>rfl
 | cons a r ih=>
  cases r with
  | nil=>rfl
  | cons b r=>
   have e:(a::b::r).length-1=((b::r).length-1)+1:=by
    have h1:(a::b::r).length=r.length+2:=rfl
    have h2:(b::r).length=r.length+1:=rfl
    lia
   rw[e,List.eraseIdx_cons_succ,ih]
   all_goals rfl
theorem UC: ∀(l:List α) i,(l.eraseIdx i).length<=l.length
 | [],_=>BS _
 | _::_,0=>Vp _
 | _::r,i+1=>Nat.succ_le_succ<|UC r i
section
variable{X:Cx}{pins:List (AK×Obj)}{σ:St}{H:Hp}{s:Az}{l b:AK}{xs ys zs:List V}
def Inv.vz{its its':List AN}(I:Inv X pins σ H s)(hH:H l=some (.lst xs))
  (e:s.heap.get? l=some {cls:= .type "list",data:= .seq its.toArray n}) (hf:f its.toArray=its'.toArray) (hv:Vals ys its') (hz:ys.length<=sizeLine):
  Inv X pins σ (upd H l<|.lst ys) {s with heap:=s.heap.update l<|Sq f,toks:=t'}:=by
 have q:=zU e f
 rw[hf]at q
 refine I.write (by rw[hH];exact trivial) (.inl rfl) (fun b' u hb hu=>(V_ s.heap (Sq f)<|Ei hb).trans hu) ⟨_,q⟩ ?_
 exact⟨hz,its',_,hv,q⟩
def Inv.AFR{its:List AN}(I:Inv X pins σ H s)(hv:Vals ys its)(hz:ys.length<=sizeLine):
  Inv X pins σ (upd H s.heap.objs.size<|.lst ys) {s with heap:=s.heap.push {cls:= .type "list",data:= .seq its.toArray},toks:=t'}:=
 I.laid (fun _ _ q=>CW _ q) (BS _) ⟨hz,its,0,hv,FP _ rfl⟩
def Inv.fresh(I:Inv X pins σ H s):H s.heap.objs.size=none:=I.C1.fresh (BS _)
def Inv.i7(I:Inv X pins σ H s)(hH:H l=some (.lst xs)):xs.length<=sizeLine/\ ∃(its:List AN) (n:Nat),Vals xs its/\xs.length=its.length/\s.heap.get? l=some {cls:= .type "list",data:= .seq its.toArray n}:=by
 obtain⟨z,its,n,r,e⟩:=I.C1 l _ hH
 exact⟨z,its,n,r,r.length,e⟩
def vR(h:n<=sizeLine):bt n=false:=by
 unfold bt
 exact D4<|by lia
end
section
variable{X:Cx}
inductive AEL(l:AK)(y:V)(H:Hp)(Q:VK):Prop
 | mk {xs:List V}:H l=some (.lst xs)->xs.length<sizeLine->Q .non (upd H l (.lst (xs++ [y])))->AEL l y H Q
noncomputable def yP:V->List V->Hp->VK->Prop:=fun x vs H Q=>QL x fun l=>xj vs fun y=>AEL l y H Q
def LU:MtM X "list.append" yP:=by
 intro pins s σ H x vs v us Q I rx rv h
 obtain⟨l,rfl,h'⟩:=QL.ex h
 obtain⟨y,rfl,@⟨xs,hH,hz,q⟩⟩:=xj.ex h'
 cases rx
 obtain⟨u,rfl,ru⟩:=rv.one
 obtain⟨z,its,n,r,hl,e⟩:=I.i7 hH
 refine RS F.slot_list_append ⟨_,e,rfl⟩ F.entry_list_append (F.args_list_append_2 _ _) (PySem.list_append l its.toArray n u<|by rw[Cp];lia) ⟨e,.non,_,I.vz hH e (by simp) (r.append<|.cons ru .nil) ?_,rfl,q⟩
 rw[E8,List.length_singleton]
 lia
noncomputable def yJ:V->List V->Hp->VK->Prop:=fun x vs H Q=> ∃ l b xs zs,x= .ref l/\vs= [.ref b]/\H l=some (.lst xs)/\H b=some (.lst zs)/\xs.length+zs.length<=sizeLine/\Q .non (upd H l<|.lst<|xs++zs)
def bH:MtM X "list.extend" yJ:=by
 rintro pins s σ H x vs v us Q I rx rv ⟨l,b,xs,zs,rfl,rfl,hH,hB,hz,q⟩
 cases rx
 obtain⟨u,rfl,ru⟩:=rv.one
 cases ru
 obtain⟨z,its,n,r,hl,e⟩:=I.i7 hH
 obtain⟨z2,its2,n2,r2,hl2,e2⟩:=I.i7 hB
 have hsz:its.toArray.size+its2.toArray.size<=sizeLine:=by rw[Cp,Cp];lia
 have hlong: ¬(!its.toArray.isEmpty&&bt (its.toArray.size+its2.toArray.size))=true:=by
  rw[vR hsz,Bool.and_false]
  exact D2
 refine RS F.slot_list_extend ⟨_,e,rfl⟩ F.entry_list_extend (F.args_list_extend_2 _ _)
  (AutoSeq1.list_extend_list_list_0 l its.toArray n b its2.toArray n2 hlong (by rw[Cp];lia)<|by lia) ⟨e,e2,?_⟩
 refine⟨.non,_,I.vz hH e (by simp) (r.append r2) ?_,rfl,q⟩
 rw[E8]
 lia
noncomputable def AFm:V->List V->Hp->VK->Prop:=fun x vs H Q=> ∃ l xs y,x= .ref l/\vs= []/\H l=some (.lst xs)/\xs[xs.length-1]?=some y/\Q y (upd H l<|.lst xs.dropLast)
def kN:MtM X "list.pop" AFm:=by
 rintro pins s σ H x vs v us Q I rx rv ⟨l,xs,y,rfl,rfl,hH,hy,q⟩
 cases rx
 have hus:=rv.zero
 subst hus
 obtain⟨z,its,n,r,hl,e⟩:=I.i7 hH
 obtain⟨u,hu,ru⟩:=r.get hy
 have hy':its.toArray[its.toArray.size-1]?=some u:=by
  show its.toArray[its.length-1]?=some u
  rw[<-rF,<-hl]
  exact hu
 refine RS F.slot_list_pop ⟨_,e,rfl⟩ F.entry_list_pop (F.args_list_pop_1 _) (MeetsSeq.list_pop_last l its.toArray n u hy'<|by rw[Cp];lia) ⟨e,y,_,I.vz hH e ?_ r.dropLast ?_,ru,q⟩
 ·rw[Cp,mU,lJ]
 ·rw[List.length_dropLast]
  lia
noncomputable def ABu:V->List V->Hp->VK->Prop:=fun x vs H Q=> ∃ l xs i k y,x= .ref l/\vs= [.int i]/\H l=some (.lst xs)/\ -(2^63)<=i/\i<2^63/\W5 i xs.length=some k/\xs[k]?=some y/\Q y (upd H l<|.lst<|xs.eraseIdx k)
def uw:MtM X "list.pop" ABu:=by
 rintro pins s σ H x vs v us Q I rx rv ⟨l,xs,i,k,y,rfl,rfl,hH,h1,h2,hk,hy,q⟩
 cases rx
 obtain⟨u,rfl,ru⟩:=rv.one
 obtain⟨t,rfl⟩:=ru
 obtain⟨z,its,n,r,hl,e⟩:=I.i7 hH
 obtain⟨w,hw,rw'⟩:=r.get hy
 refine RS F.slot_list_pop ⟨_,e,rfl⟩ F.entry_list_pop (F.args_list_pop_2 _ _)
  (MeetsSeq.list_pop_at l its.toArray n i t k w (fitsIndex_both h1 h2) (by rw[Cp,<-hl];exact hk) (by rw[<-rF];exact hw)<|by rw[Cp];lia) ⟨e,?_⟩
 refine⟨y,_,I.vz hH e ?_ (r.eraseIdx k) ?_,rw',q⟩
 ·rw[mU]
 ·have:=UC xs k
  lia
noncomputable def ABi:V->List V->Hp->VK->Prop:=fun x vs H Q=> ∃ l xs,x= .ref l/\vs= []/\H l=some (.lst xs)/\Q .non (upd H l<|.lst [])
def uU:MtM X "list.clear" ABi:=by
 rintro pins s σ H x vs v us Q I rx rv ⟨l,xs,rfl,rfl,hH,q⟩
 cases rx
 have hus:=rv.zero
 subst hus
 obtain⟨z,its,n,r,hl,e⟩:=I.i7 hH
 exact RS F.slot_list_clear ⟨_,e,rfl⟩ F.entry_list_clear (F.args_list_clear_1 _) (AutoSeq1.list_clear_list_0 l its.toArray n<|by rw[Cp];lia) ⟨e,.non,_,I.vz hH e rfl .nil<|B7 _,rfl,q⟩
noncomputable def AFN:R2:=fun x y H Q=> ∃ l b xs zs,x= .ref l/\y= .ref b/\H l=some (.lst xs)/\H b=some (.lst zs)/\xs.length+zs.length<=sizeLine/\ ∀ p,H p=none->Q (.ref p) (upd H p<|.lst<|xs++zs)
def Tx:Us X (Gi .Add) AFN:=by
 rintro pins s σ H x y v u Q I rx ry ⟨l,b,xs,zs,rfl,rfl,hH,hB,hz,q⟩
 cases rx
 cases ry
 obtain⟨z,its,n,r,hl,e⟩:=I.i7 hH
 obtain⟨z2,its2,n2,r2,hl2,e2⟩:=I.i7 hB
 refine PySem.P.add_list e e2 ?_<|by rw[Cp,Cp];lia
 have ea:its.toArray++its2.toArray=(its++its2).toArray:=by simp
 rw[ea]
 exact⟨.ref _,_,I.AFR (r.append r2)<|by rw[E8];lia,rfl,q _ I.fresh⟩
end
section
variable{prog:BH}{w:Ap}{A:De}{E:AN->Az->Prop}{s:Az}
set_option maxRecDepth 100000 in
end
end L2
namespace L2
open PySem PySem.Spec PyProof.Rows
noncomputable abbrev xY(h:Ay)(c:AK)(v:Option AN):Prop:=h.IsCell c v
noncomputable def AFZ(scope sc:FW):FW:=
 {scope with names:=scope.names.map fun(n,k)=>if(k== .free&&sc.kind== .function&&sc.names.lookup n==some .cell)then(n,.cell)else(n,k)}
noncomputable def C3(cells:List (Str×AK)):List (Str×FV)->List (Str×AK)->List (Str×AK)
 | [],acc=>acc
 |(n,k)::r,acc=>if k== .free then C3 cells r ((n,(cells.lookup n).getD 0)::acc)else C3 cells r acc
theorem Rh(env:Env)(f:Str×FV->List (Str×AK)->Sem (ForInStep<|List<|Str×AK))
  (hf: ∀ n k c,f (n,k) c=if k== .free then(do let a <-cellOf env n;CA (.yield<|(n,a)::c))else CA (.yield c)):
  ∀ names acc,(∀ y∈names,y.2= .free-> ∃ c,env.cells.lookup y.1=some c)->forIn names acc f=CA (C3 env.cells names acc)
 | [],acc,_=>by rw[pI];rfl
 |(n,k)::r,acc,h=>by
  rw[List.forIn_cons,hf]
  have ih:=fun acc=>Rh env f hf r acc fun y hy=>h y<|C0 _ hy
  unfold C3
  by_cases hk:(k==Se)=true
  ·rw[AI hk,AI hk]
   obtain⟨c,hc⟩:=h (n,k) D0<|by simpa using hk
   have e:cellOf env n=CA c:=by unfold cellOf;rw[hc]
   rw[e]
   have e2:(env.cells.lookup n).getD 0=c:=by rw[hc];rfl
   rw[e2]
   exact ih _
  ·rw[AG hk,AG hk]
   exact ih _
def kZ(h: ∀ y∈scope.names,y.2= .free-> ∃ c,env.cells.lookup y.1=some c):closureFor scope env=CA (C3 env.cells scope.names []):=by
 simp only[closureFor]
 rw[Rh env _ (fun n k c=>rfl) scope.names [] h]
 rfl
theorem mem_lookup: ∀{l:List (Str×α)} {n:Str} {c:α},(n,c)∈l-> ∃ c',l.lookup n=some c'
 |(k,v)::r,n,c,h=>by
  rw[Hb]
  cases hb:n==k with
  | true=>exact⟨_,rfl⟩
  | false=>
   rcases Cd.mp h with e | h
   ·cases e;simp at hb
   ·exact mem_lookup h
theorem Ju: ∀{names:List (Str×FV)} {acc:List (Str×AK)} {n:Str} {c:AK},(n,c)∈C3 cells names acc->(n,c)∈acc\/((n,.free)∈names/\c=(cells.lookup n).getD 0)
 | [],_,_,_,h=> .inl h
 |(m,k)::r,acc,n,c,h=>by
  unfold C3 at h
  split at h
  ·rename_i hk
   have hk:k= .free:=by simpa using hk
   rcases Ju h with h |⟨h1,h2⟩
   ·rcases Cd.mp h with e | h
    ·cases e;exact .inr ⟨hk▸D0,rfl⟩
    ·exact .inl h
   ·exact .inr ⟨C0 _ h1,h2⟩
  ·rcases Ju h with h |⟨h1,h2⟩
   ·exact .inl h
   ·exact .inr ⟨C0 _ h1,h2⟩
theorem Nh: ∀{names:List (Str×FV)} {acc:List (Str×AK)} {p:Str×AK},p∈acc->p∈C3 cells names acc
 | [],_,_,h=>h
 |(m,k)::r,acc,p,h=>by
  unfold C3
  split
  ·exact Nh<|C0 _ h
  ·exact Nh h
theorem N2: ∀{names:List (Str×FV)} {acc:List (Str×AK)} {n:Str},(n,.free)∈names->(n,(cells.lookup n).getD 0)∈C3 cells names acc
 |(m,k)::r,acc,n,h=>by
  unfold C3
  rcases Cd.mp h with e | h
  ·cases e
   exact Nh D0
  ·split
   ·exact N2 h
   ·exact N2 h
theorem LQ: ∀{names:List (Str×FV)} {h:Ay} {acc:List (Str×AK)} {x:Str} {c:AK},(x,c)∈Dy h.objs.size names acc->
  (x,c)∈acc\/((x,.cell)∈names/\h.objs.size<=c/\xY (Jm h names) c none)
 | [],_,_,_,_,h=> .inl h
 |(n,k)::r,h,acc,x,c,hm=>by
  unfold Dy at hm
  unfold Jm
  split at hm
  ·rename_i hk
   rw[AI hk]
   have hk:k= .cell:=by simpa using hk
   rw[<-HE h {cls:= .type "cell",data:= .cell none}]at hm
   rcases LQ hm with hm |⟨h1,h2,h3⟩
   ·rcases Cd.mp hm with e | hm
    ·cases e
     exact .inr ⟨hk▸D0,BS _,_,WU r _ _ _<|FP _ rfl,rfl⟩
    ·exact .inl hm
   ·rw[HE]at h2
    exact .inr ⟨C0 _ h1,MW h2,h3⟩
  ·rename_i hk
   rw[AG hk]
   rcases LQ hm with hm |⟨h1,h2,h3⟩
   ·exact .inl hm
   ·exact .inr ⟨C0 _ h1,h2,h3⟩
theorem PH: ∀{names:List (Str×FV)} {n:Nat} {acc:List (Str×AK)} {p:Str×AK},p∈acc->p∈Dy n names acc
 | [],_,_,_,h=>h
 |(m,k)::r,n,acc,p,h=>by
  unfold Dy
  split
  ·exact PH<|C0 _ h
  ·exact PH h
theorem UU: ∀{names:List (Str×FV)} {n:Nat} {acc:List (Str×AK)} {x:Str},(x,.cell)∈names-> ∃ c,(x,c)∈Dy n names acc
 |(m,k)::r,n,acc,x,h=>by
  unfold Dy
  rcases Cd.mp h with e | h
  ·cases e
   exact⟨n,PH D0⟩
  ·split
   ·exact UU h
   ·exact UU h
theorem UL: ∀{names:List (Str×FV)} {h:Ay} {acc:List (Str×AK)} {x y:Str} {c:AK},(∀ p∈acc,p.2<h.objs.size)->(∀ x y c,(x,c)∈acc->(y,c)∈acc->x=y)->
  (x,c)∈Dy h.objs.size names acc->(y,c)∈Dy h.objs.size names acc->x=y
 | [],_,_,_,_,_,_,hi,h1,h2=>hi _ _ _ h1 h2
 |(n,k)::r,h,acc,x,y,c,hl,hi,h1,h2=>by
  unfold Dy at h1 h2
  split at h1
  ·rename_i hk
   rw[AI hk]at h2
   rw[<-HE h {cls:= .type "cell",data:= .cell none}]at h1 h2
   refine UL (h:=h.push _) (fun p hp=>?_) (fun x y c a b=>?_) h1 h2
   ·rw[HE]
    rcases Cd.mp hp with rfl | hp
    ·exact O1 _
    ·exact We<|hl p hp
   ·rcases Cd.mp a with e | a<;>rcases Cd.mp b with e' | b
    ·cases e;cases e';rfl
    ·cases e;exact absurd (hl _ b)<|GC _
    ·cases e';exact absurd (hl _ a)<|GC _
    ·exact hi _ _ _ a b
  ·rename_i hk
   rw[AG hk]at h2
   exact UL hl hi h1 h2
def iS{code:AN}
  (h:Q (newEnv scope s.heap.objs.size globals (Dy (s.heap.objs.size+1) scope.names closure) qual func code (some around) builtins)
   {s with heap:=Jm (s.heap.push {cls:= .type "dict",data:= .dict #[]}) scope.names}):
  Aw M A (qC scope globals closure [] qual func code (some around) builtins) Q E s:=by
 simp only[qC,mC,D8]
 refine BP<|wpAny_alloc<|BP<|wpAny_layCells _ (fun n k c=>rfl) scope.names closure _ _ ?_
 rw[show({s with heap:=s.heap.push {cls:= .type "dict",data:= .dict #[]}}:Az).heap.objs.size=s.heap.objs.size+1 from HE ..,pI]
 exact BP<|Ck<|Ck h
theorem NL{sc:FW}: ∀{names:List (Str×FV)} {x:Str} {k:FV},
  (names.map fun(n,k)=>if(k==Se&&sc.kind== .function&&sc.names.lookup n==some .cell)then(n,oM)else(n,k)).lookup x=some k->
  ∃ k',names.lookup x=some k'/\(k=k'\/(k'= .free/\k= .cell))
 | [],_,_,h=>by simp at h
 |(n,k₀)::r,x,k,h=>by
  have ih:= @NL sc r x k
  have h':IY x ((if(k₀==Se&&sc.kind== .function&&sc.names.lookup n==some .cell)=true then(n,oM)else(n,k₀))::(r.map _))=some k:=h
  cases hx:x==n with
  | true=>
   simp only[Hb,hx]
   by_cases hc:(k₀==Se&&sc.kind== .function&&sc.names.lookup n==some .cell)=true
   ·rw[AI hc]at h'
    simp only[Hb,hx]at h'
    cases h'
    simp only[Ol,FR]at hc
    exact⟨k₀,rfl,.inr ⟨hc.1.1,rfl⟩⟩
   ·rw[AG hc]at h'
    simp only[Hb,hx]at h'
    cases h'
    exact⟨_,rfl,.inl rfl⟩
  | false=>
   simp only[Hb,hx]
   by_cases hc:(k₀==Se&&sc.kind== .function&&sc.names.lookup n==some .cell)=true
   ·rw[AI hc]at h'
    simp only[Hb,hx]at h'
    exact ih h'
   ·rw[AG hc]at h'
    simp only[Hb,hx]at h'
    exact ih h'
structure NY(N:List Str)(sc scope:FW)(own:List (Str×Nat)):Prop where
 kind:scope.kind= .function
 uniq: ∀ y∈scope.names,scope.names.lookup y.1=some y.2
 ix: ∀ p∈own,N[p.2]?=some p.1
 free: ∀ y∈scope.names,y.2= .free->sc.names.lookup y.1=some .cell\/sc.names.lookup y.1=some .free
 own: ∀ y∈scope.names,y.2= .local\/y.2= .cell->y.1∈own.map (·.1)\/y.1∉N
noncomputable def wipe(σ:St):List Nat->St
 | []=>σ
 | v::vs=>(wipe σ vs).set v none
theorem N6(σ:St): ∀ vs,(wipe σ vs).length=σ.length
 | []=>rfl
 | v::vs=>by unfold wipe;rw[DR,N6 σ vs]
theorem Tp: ∀{vs:List Nat},(wipe σ vs)[i]?=some (some x)->σ[i]?=some (some x)/\i∉vs
 | [],h=>⟨h,by simp⟩
 | v::vs,h=>by
  unfold wipe at h
  by_cases hi:v=i
  ·subst hi
   by_cases hv:v<(wipe σ vs).length
   ·rw[F9 hv]at h;cases h
   ·rw[EG<|by simpa using hv]at h;cases h
  ·rw[DM hi]at h
   obtain⟨h1,h2⟩:=Tp h
   exact⟨h1,by simp only[Cd,not_or];exact⟨fun e=>hi e.symm,h2⟩⟩
noncomputable abbrev Cx.b9(X:Cx)(s:Az)(H:Hp)(scope:FW)(cenv:Env)(fp:List AK):Cx:={X with Pw:=s,H_0:=H,env:=cenv,outer:=X.stack,ex:=fp,fn:=fun x=>scope.names.lookup x==some .cell,pn:= [],xe:=fun _ _=>False}
section
variable{X:Cx}{pins:List (AK×Obj)}{σ:St}{H:Hp}{s:Az}
def gp{scope:FW}(I:Inv X pins σ H s)(ok:NY X.N X.env.scope scope own)(hN:X.N.Nodup)(hfp: ∀ b∈fp,YD X pins H b/\b<s.heap.objs.size):
  Inv (X.b9 s H scope (Gw scope (Dy (s.heap.objs.size+1) scope.names<|C3 X.env.cells scope.names []) s.heap.objs.size X.env) fp) [] (wipe σ<|own.map (·.2)) H {s with heap:=Jm (s.heap.push {cls:= .type "dict",data:= .dict #[]}) scope.names}:=by
 have hfree: ∀ y∈scope.names,y.2= .free-> ∃ c,X.env.cells.lookup y.1=some c:=fun y hy e=>by
  rcases ok.free y hy e with k | k
  ·exact I.ok.has _<|.inl k
  ·exact I.ok.has _<|.inr k
 generalize hcenv:Gw scope (Dy (s.heap.objs.size+1) scope.names<|C3 X.env.cells scope.names []) s.heap.objs.size X.env=cenv
 have kp: ∀ b o,s.heap.get? b=some o->(Jm (s.heap.push {cls:= .type "dict",data:= .dict #[]}) scope.names).get? b=some o:=fun b o e=>WU _ _ _ _<|CW _ e
 have hL:cenv.locals=s.heap.objs.size:=by rw[<-hcenv];rfl
 have hcl:cenv.cells=Dy (s.heap.objs.size+1) scope.names (C3 X.env.cells scope.names []):=by rw[<-hcenv];rfl
 have hsc:cenv.scope=AFZ scope X.env.scope:=by rw[<-hcenv];rfl
 rw[<-HE s.heap {cls:= .type "dict",data:= .dict #[]}]at hcl
 have cm: ∀{y c},(y,c)∈C3 X.env.cells scope.names []->X.env.cells.lookup y=some c/\c<s.heap.objs.size:=fun{y c} hm=>by
  rcases Ju hm with hm |⟨h1,rfl⟩
  ·cases hm
  ·obtain⟨c,hc⟩:=hfree _ h1 rfl
   rw[hc]
   obtain⟨w,z⟩:=I.cell _ _ hc
   exact⟨rfl,z.lt⟩
 have mem: ∀{y c},cenv.cells.lookup y=some c->(X.env.cells.lookup y=some c/\c<s.heap.objs.size)\/(s.heap.objs.size+1<=c/\xY (Jm (s.heap.push {cls:= .type "dict",data:= .dict #[]}) scope.names) c none):=fun{y c} e=>by
  rw[hcl]at e
  rcases LQ (FX e)with hm |⟨_,h2,h3⟩
  ·exact .inl<|cm hm
  ·rw[HE]at h2;exact .inr ⟨h2,h3⟩
 have look: ∀{y},scope.names.lookup y=some .free-> ∃ c,cenv.cells.lookup y=some c/\X.env.cells.lookup y=some c:=fun{y} hl=>by
  have hy:=FX hl
  obtain⟨c',e'⟩:=mem_lookup<|PH<|N2 hy
  rw[<-hcl]at e'
  refine⟨c',e',?_⟩
  rw[hcl]at e'
  rcases LQ (FX e')with hm |⟨h1,_,_⟩
  ·exact(cm hm).1
  ·have:=ok.uniq _ h1
   rw[hl]at this;cases this
 have okB:(X.b9 s H scope cenv fp).Ok:=by
  refine⟨I.ok.mod,by show cenv.scope.kind=_;rw[hsc];exact ok.kind,by show cenv.globals=_;rw[<-hcenv];exact I.ok.glob,by show cenv.builtins=_;rw[<-hcenv];exact I.ok.blt,by show s.heap.objs.size<=cenv.locals;rw[hL];exact BS _,
   fun y z c e1 e2=>?_,fun y hy=>?_,fun y c z e=>?_,I.ok.hd,I.ok.frames,.inl rfl,fun b hb=>⟨?_,fun y c e z=>?_⟩,I.bs,CC I.ok.uB I.sz,fun b o e hb=>?_,fun b hb z=>?_,I.stack,I.WK,I.ok.nd⟩
  ·have e1:=e1
   have e2:=e2
   rw[hcl]at e1 e2
   refine UL (fun p hp=>?_) (fun y z c a b=>I.ok.inj y z c (cm a).1 (cm b).1) (FX e1)<|FX e2
   rw[HE]
   exact We (cm hp).2
  ·have key: ∀ k,cenv.kindOf y=some k->(k= .cell\/k= .free)-> ∃ c,cenv.cells.lookup y=some c:=fun k hk hk'=>by
    unfold Env.kindOf at hk
    rw[hsc]at hk
    obtain⟨k',e,r⟩:=NL hk
    have:k'= .cell\/k'= .free:=by
     rcases r with rfl |⟨rfl,_⟩
     ·exact hk'
     ·exact .inr rfl
    rcases this with rfl | rfl
    ·obtain⟨c,hm⟩:=UU (FX e)
     obtain⟨c',e'⟩:=mem_lookup hm
     exact⟨c',by rw[hcl];exact e'⟩
    ·obtain⟨c,h1,_⟩:=look e
     exact⟨c,h1⟩
   rcases hy with hy | hy
   ·exact key _ hy<|.inl rfl
   ·exact key _ hy<|.inr rfl
  ·have z:=z
   have z:scope.names.lookup y=some .cell:=by simpa using z
   have e:=e
   rw[hcl]at e
   rcases LQ (FX e)with hm |⟨_,h2,_⟩
   ·rcases Ju hm with hm |⟨h1,_⟩
    ·cases hm
    ·have q:=ok.uniq _ h1
     rw[z]at q;cases q
   ·rw[HE]at h2
    exact MW h2
  ·rw[hL];exact DP (hfp b hb).2
  ·have e:=e
   rcases mem e with⟨h1,_⟩ |⟨h1,_⟩
   ·exact(hfp b hb).1.2.2.2.2.1 y c h1 z
   ·have h2:s.heap.objs.size+1<=b:=by rw[<-z];exact h1
    exact absurd (DO (hfp b hb).2<|MW h2)<|GC _
  ·rcases(hfp b hb).1.2.2.2.1 with z | z
   ·exact I.ok.kF b o e z
   ·exact absurd (DO (Bz e)<|CC I.ok.uB z)<|GC _
  ·rcases Cd.mp (I.lI b z)with z | z
   ·exact(hfp b hb).1.2.1 z
   ·exact(hfp b hb).1.2.2.1 z
 refine⟨okB,rfl,I.bare,Un.kept kp,⟨fun _=>none,?_,fun i y av e1 e2 e3=>?_⟩,fun y c e=>?_,?_,fun y c e=>?_,fun p hp=>(absurd (show p∈([]:List (AK×Obj))++ []from hp)<|by simp),I.C1.kept kp,by rw[N6];exact I.len⟩
 ·rw[hL]
  exact Heap.Ns.keeps (Heap.Ns.new ..) fun b o e=>WU _ _ _ _ e
 ·obtain⟨e2,hne⟩:=Tp e2
  have hfr:scope.names.lookup y=some .free/\(cenv.kindOf y=some .cell\/cenv.kindOf y=some .free):=by
   have key: ∀ k,cenv.scope.names.lookup y=some k->k= .local\/k= .cell\/k= .free->scope.names.lookup y=some .free/\(cenv.kindOf y=some .cell\/cenv.kindOf y=some .free):=fun k hk hk'=>by
    have hk0:=hk
    rw[hsc]at hk
    obtain⟨k',e,r⟩:=NL hk
    have no: ¬(k'= .local\/k'= .cell):=fun hh=>by
     rcases ok.own _ (FX e) hh with e' | e'
     ·obtain⟨p,hp,hpy⟩:=Fd.mp e'
      have e3:=ok.ix p hp
      have:=hpy
      rw[this]at e3
      exact hne<|Fd.mpr ⟨p,hp,Yb hN e3 e1⟩
     ·exact e'<|PZ e1
    rcases r with rfl |⟨rfl,rfl⟩
    ·rcases hk' with rfl | rfl | rfl
     ·exact absurd (.inl rfl) no
     ·exact absurd (.inr rfl) no
     ·exact⟨e,.inr hk0⟩
    ·exact⟨e,.inl hk0⟩
   have e3:=e3
   rcases e3 with e3 | e3 | e3
   ·exact key _ e3<|.inl rfl
   ·exact key _ e3<|.inr<|.inl rfl
   ·exact key _ e3<|.inr<|.inr rfl
  obtain⟨m,hn,hl⟩:=I.loc
  have hvis:wB X.env.scope y:=(ok.free _ (FX hfr.1) rfl).elim (fun k=> .inr<|.inl k) fun k=> .inr<|.inr k
  obtain⟨w,r,q⟩:=hl i y av e1 e2 hvis
  refine⟨w,r,.inr ⟨hfr.2,?_⟩⟩
  obtain⟨c,h1,h2⟩:=look hfr.1
  rcases q with⟨k,_⟩ |⟨_,c',e',z⟩
  ·have k:X.env.scope.names.lookup y=some .local:=k
   rcases ok.free _ (FX hfr.1) rfl with k' | k'<;>rw[show X.env.scope.names.lookup y=_ from k']at k<;>cases k
  ·rw[h2]at e';cases e'
   exact⟨c,h1,z.keeps kp⟩
 ·have e:=e
  rcases mem e with⟨h1,_⟩ |⟨_,z⟩
  ·obtain⟨w,z⟩:=I.cell y c h1
   exact⟨w,z.keeps kp⟩
  ·exact⟨_,z⟩
 ·rw[hL];exact I.C1.fresh<|BS _
 ·rcases mem e with⟨h1,_⟩ |⟨h1,_⟩
  ·exact I.KH y c h1
  ·exact I.C1.fresh<|MW h1
def ACF{E:AN->Az->Prop}(I:Inv X pins σ H s)(hD:H D=some (.lst xs))(hz:xs.length<sizeLine)(r:RelV y v)
  (h: ∀ s',Inv X pins σ (upd H D<|.lst<|xs++ [y]) s'->Q .none s'):Aw (Ai X.prog X.w) X.A (call (.builtin "list.append") [.ref D,v]) Q E s:=by
 obtain⟨hz',its,n,ri,e⟩:=I.C1 D _ hD
 have hl:=ri.length
 refine append_at e fun h' sb ho'=>h {s with heap:=h'}<|I.write (by rw[hD];trivial) (.inl rfl) (fun b u hb q=>(sb.2 b hb).trans q) ⟨_,ho'⟩ ⟨by rw[E8];exact hz,its++ [v],n+1,ri.append<|.cons r .nil,?_⟩
 rw[ho']
 simp
noncomputable def PTs(X:Cx)(ifs:List Expr)(t:TT):Prop:=
 ∀(pins:List (AK×Obj)) s (σ:St) H Q,Inv X pins σ H s->t σ H Q->
  Aw (Ai X.prog X.w) X.A (forIn ifs true fun c r=>if r=true then do let ok <-isTrue c X.env (eval c X.env);CA (Wg ok)else CA (Wg r)) (TP X pins σ Q) X.xe s
noncomputable def AEM:TT:=fun _ H Q=>Q true H
def RM:PTs X [] AEM:=fun _ _ _ H _ I h=>wpAny_tests_nil ⟨H,I,h⟩
def y3(h:PT X c t):PTs X [c] t:=fun pins s σ H Q I hw=>wpAny_tests_one (h pins s σ H Q I hw)
end
def tZ(h:Aw M A t Q (fun _ _=>False) s)(hQ: ∀ a s,Q a s->Q' a s):Aw M A t Q' E s:=Et h hQ fun _ _ z=>DK z
theorem fQ(I:Nat->Az->Prop)
  (turn: ∀ n s,I n s->Aw (Ai prog w) A (pyNext it) (fun r s₁=>match r with
   | none=>R (.ok .next) s₁
   | some v=>Aw (Ai prog w) A (WR target it v) (fun _ s₁'=>Aw (Ai prog w) A (Sw target env v) (fun _ s₂=>
     Aw (Ai prog w) A (forIn ifs true fun c r=>if r=true then do let ok <-isTrue c env (eval c env);CA (Wg ok)else CA (Wg r)) (fun ok s₃=>
      if ok=true then Aw (Ai prog w) A (eval elt env) (fun x s₄=>
       Aw (Ai prog w) A (call (.builtin "list.append") [acc,x]) (fun _ s₅=> ∃ m,m<n/\I m s₅) (Oa (Ai prog w) A env fun e s'=>R (.error e) s') s₄) (Oa (Ai prog w) A env fun e s'=>R (.error e) s') s₃
      else ∃ m,m<n/\I m s₃) (Oa (Ai prog w) A env fun e s'=>R (.error e) s') s₂) (Oa (Ai prog w) A env fun e s'=>R (.error e) s') s₁') (Oa (Ai prog w) A env fun e s'=>R (.error e) s') s₁) (Oa (Ai prog w) A env fun e s'=>R (.error e) s') s)
  (n:Nat) (h:I n s):
  GB (Ai prog w) A (.compLoop (.ListComp elt [⟨target,iter,ifs,0⟩] scope pos) 0 it acc env) R s:=by
 refine codeAny_loop rfl I (fun n s hI=>?_) n h
 refine wpAny_noted ?_
 rw[compTurn_list]
 refine BP<|SR<|BP<|Et (turn n s hI) (fun r s₁ h₁=>?_) fun _ _ h'=>h'
 cases r with
 | none=>exact Ck h₁
 | some v=>
  refine BP<|Et h₁ (fun _ s₁' h₁'=>?_) fun _ _ h'=>h'
  refine BP<|Et h₁' (fun _ s₂ h₂=>BP<|Et h₂ (fun ok s₃ h₃=>?_) fun _ _ h'=>h') fun _ _ h'=>h'
  cases ok with
  | false=>exact Ck ⟨rfl,h₃⟩
  | true=>
   exact BP<|BP<|Et h₃ (fun x s₄ h₄=>BP<|Et h₄ (fun _ s₅ h₅=>Ck<|Ck ⟨rfl,h₅⟩) fun _ _ h'=>h') fun _ _ h'=>h'
section
variable{X:Cx}
noncomputable def tLc(wi:TI)(g:TG)(tt:TT)(te:TE)(vs:List Nat):TE:=fun σ H Q=>wi σ H fun J H1=> ∀ D,H1 D=none-> ∃ W:Nat->Nat->Hp->Prop,(∃ m,W 0 m<|upd H1 D<|.lst [])/\ ∀ i m H,W i m H->
 (J.stop i H/\Q (.ref D) H)\/(J.go i H/\ ∃ Nx:Hp->Prop,(∀ H',Nx H'-> ∃ m',m'<m/\W (i+1) m' H')/\ ∀ x H',J.uC i H x H'->g x (wipe σ vs) H' fun σ2 H2=>wipe σ2 vs=wipe σ vs/\tt σ2 H2 fun b H3=>
  if b=true then te σ2 H3 fun y H4=> ∃ acc,H4 D=some (.lst acc)/\acc.length<sizeLine/\Nx (upd H4 D<|.lst<|acc++ [y])else Nx H3)
def qw{pins:List (AK×Obj)}{σ:St}
  (hc:X.calm=true) (hN:X.N.Nodup) (I:Inv X pins σ H s) (hi:PI X tg iter wi) (ok:NY X.N X.env.scope scope own)
  (hg: ∀ s H C cl fp,PG (X.b9 s H scope (Gw scope cl C X.env) fp) tg g) (ht: ∀ s H C cl fp,PTs (X.b9 s H scope (Gw scope cl C X.env) fp) ifs tt)
  (he: ∀ s H C cl fp,PE (X.b9 s H scope (Gw scope cl C X.env) fp) elt te) (hs: ∀ x,Wu iter X.env x=CA x)
  (h:tLc wi g tt te (own.map (·.2)) σ H Q)
  (hRR: ∀ D C s' m H',Inv X pins σ H' s'->Q (.ref D) H'->s'.heap.Ns C m->YD X pins H' C->d8 (Ai X.prog X.w) X.A X.xe use Qf (.ref D) C (.ok .next) s'):
  Aw (Ai X.prog X.w) X.A (comprehension (.ListComp elt [⟨tg,iter,ifs,0⟩] scope pos) scope X.env pos' (newList []) false (eval iter X.env) use) Qf X.xe s:=by
 have hfree: ∀ y∈scope.names,y.2= .free-> ∃ c,X.env.cells.lookup y.1=some c:=fun y hy e=>by
  rcases ok.free y hy e with k | k
  ·exact I.ok.has _<|.inl k
  ·exact I.ok.has _<|.inr k
 refine wpAny_comprehension_free rfl hs (kZ hfree) ok.kind (fun y hy e=>by rw[ok.uniq y hy,e])
  (QE (hi pins s σ H _ I h) fun xv s1 hx=>QE hx fun itv s2 h2=>?_)
 obtain⟨it,fp,tn,J,H2,rfl,I2,T,st2,f2,q⟩:=h2
 refine qM (iS ?_)<|by show 0<=sizeLine;decide
 generalize hD:s2.heap.objs.size=D
 obtain⟨W,⟨m0,w0⟩,turn⟩:=q D<|I2.C1.fresh<|WX hD
 generalize hs3:({s2 with heap:=s2.heap.push {cls:= .type "list",data:= .seq ([]:List AN).toArray}}:Az)=s3
 have I3:Inv X pins σ (upd H2 D<|.lst []) s3:=by
  rw[<-hs3]
  refine I2.laid (fun b o e=>CW _ e) (WX hD) ⟨B7 _,[],0,.nil,?_⟩
  rw[<-hD]
  exact FP _ rfl
 have h3:s3.heap=s2.heap.push {cls:= .type "list",data:= .seq ([]:List AN).toArray}:=by rw[<-hs3]
 have sz: ∀ b∈fp,b<s2.heap.objs.size:=fun b hb=>by
  obtain⟨o,e,_⟩:=T.obj _ _ st2 b hb
  exact Bz e
 have f3: ∀ b∈fp,YD X pins (upd H2 D<|.lst []) b/\b<s3.heap.objs.size:=fun b hb=>by
  have hlt:=sz b hb
  refine⟨⟨?_,(f2 b hb).2⟩,by rw[h3,HE];exact We hlt⟩
  rw[AQ<|by rw[<-hD];exact DP hlt]
  exact(f2 b hb).1
 have st3:tn 0 s3.heap:=T.keep _ _ _ st2 fun b _ o e=>by rw[h3];exact CW _ e
 have I4:=gp I3 ok hN f3
 have pg:=hg s3 (upd H2 D<|.lst []) s3.heap.objs.size (Dy (s3.heap.objs.size+1) scope.names<|C3 X.env.cells scope.names []) fp
 have pt:=ht s3 (upd H2 D<|.lst []) s3.heap.objs.size (Dy (s3.heap.objs.size+1) scope.names<|C3 X.env.cells scope.names []) fp
 have pe:=he s3 (upd H2 D<|.lst []) s3.heap.objs.size (Dy (s3.heap.objs.size+1) scope.names<|C3 X.env.cells scope.names []) fp
 show GB _ _ (.compStart (.ListComp elt [⟨tg,iter,ifs,0⟩] scope pos) 0 (.ref it) (.ref D)<|Gw scope (Dy (s3.heap.objs.size+1) scope.names<|C3 X.env.cells scope.names []) s3.heap.objs.size X.env) (d8 (Ai X.prog X.w) X.A X.xe use Qf (.ref D) s3.heap.objs.size) {s3 with heap:=Jm (s3.heap.push {cls:= .type "dict",data:= .dict #[]}) scope.names}
 have nfp: ∀ b∈fp,(upd H2 D<|.lst []) b=none:=fun b hb=>(f3 b hb).1.1
 generalize hce:Gw scope (Dy (s3.heap.objs.size+1) scope.names<|C3 X.env.cells scope.names []) s3.heap.objs.size X.env=ce at I4 pg pt pe ⊢
 have cL:ce.locals=s3.heap.objs.size:=by subst hce;rfl
 generalize hH3:upd H2 D (.lst [])=H3 at I3 I4 pg pt pe w0 nfp f3
 generalize hs4:({s3 with heap:=Jm (s3.heap.push {cls:= .type "dict",data:= .dict #[]}) scope.names}:Az)=s4 at I4 ⊢
 have st4:tn 0 s4.heap:=T.keep _ _ _ st3 fun b _ o e=>by rw[<-hs4];exact WU _ _ _ _<|CW _ e
 have stat: ∀{σ':St} {H':Hp} {s':Az},Inv (X.b9 s3 H3 scope ce fp) [] σ' H' s'->(∀ b∈fp,H' b=none)-> ∀ b∈fp,YD (X.b9 s3 H3 scope ce fp) [] H' b:=fun{σ' H' s'} I' hn b hb=>
  ⟨hn b hb,(I'.ok.exf b hb).1,I'.ok.jz b hb,.inl hb,fun x c e=>(I'.ok.exf b hb).2 x c e,fun p hp=>absurd (show p∈([]:List (AK×Obj))++ []from hp)<|by simp⟩
 have loop:GB (Ai X.prog X.w) X.A (.compLoop (.ListComp elt [⟨tg,iter,ifs,0⟩] scope pos) 0 (.ref it) (.ref D) ce) (d8 (Ai X.prog X.w) X.A X.xe use Qf (.ref D) s3.heap.objs.size) s4:=by
  refine fQ (fun n s'=> ∃ i H',Inv (X.b9 s3 H3 scope ce fp) [] (wipe σ<|own.map (·.2)) H' s'/\tn i s'.heap/\(∀ b∈fp,H' b=none)/\W i n H') ?_ m0 ⟨0,H3,I4,st4,nfp,w0⟩
  rintro n s5 ⟨i,H5,I5,st5,n5,w5⟩
  rcases turn i n H5 w5 with⟨stop,qq⟩ |⟨go,Nx,hNx,step⟩
  ·refine tZ (T.done (X.b9 s3 H3 scope ce fp) rfl rfl rfl hc i [] s5 _ H5 (fun _ _=>False) I5 (stat I5 n5) st5 stop) fun r s6 ⟨hr,I6⟩=>?_
   subst hr
   have I7:Inv X pins σ H5 s6:=I3.vx (ch:=fp) I6.os I6.base I6.C1 I6.bare fun b hb=>⟨(f3 b hb).1.2.2.2.1,(f3 b hb).1.2.1,(f3 b hb).1.2.2.2.2.1,(f3 b hb).1.2.2.2.2.2⟩
   have nC:H5 s3.heap.objs.size=none:=by
    have z:H5 ce.locals=none:=I6.free
    rw[cL]at z
    exact z
   obtain⟨m,hn,_⟩:=I6.loc
   have hn:s6.heap.Ns ce.locals m:=hn
   rw[cL]at hn
   exact hRR D s3.heap.objs.size s6 m H5 I7 qq hn<|I3.wu (BS _) nC
  ·refine tZ (T.item (X.b9 s3 H3 scope ce fp) rfl rfl rfl hc i [] s5 _ H5 (fun _ _=>False) I5 (stat I5 n5) st5 go) fun r s6 ⟨u,hr,h6⟩=>?_
   subst hr
   refine tZ h6 fun _ s7 ⟨x,H7,I7,r7,y7,st7,n7⟩=>?_
   refine tZ (pg _ s7 _ H7 x u _ (I7.pinned (stat I7 n7)<|T.obj _ _ st7) r7<|step x H7 y7) fun _ s8 ⟨σ8,H8,I8,hw8,q8⟩=>?_
   refine tZ (pt _ s8 σ8 H8 _ I8 q8) fun b s9 ⟨H9,I9,q9⟩=>?_
   have fin: ∀{s':Az} {H':Hp},Inv (X.b9 s3 H3 scope ce fp) ([]++XZ fp s7.heap) σ8 H' s'->Nx H'-> ∃ m,m<n/\ ∃ i H',Inv (X.b9 s3 H3 scope ce fp) [] (wipe σ<|own.map (·.2)) H' s'/\tn i s'.heap/\(∀ b∈fp,H' b=none)/\W i m H':=fun{s' H'} I' nx=>by
    obtain⟨m',hm,w'⟩:=hNx H' nx
    have pin': ∀ b∈fp,∀ o,s7.heap.get? b=some o->s'.heap.get? b=some o/\H' b=none:=fun b hb o e=>
     let z:=I'.pin (b,o)<|J3 _<|J3 _<|Qm hb e
     ⟨z.1,z.2.1⟩
    have hl:(wipe σ<|own.map (·.2)).length=σ8.length:=by rw[<-hw8,N6]
    refine⟨m',hm,i+1,H',(I'.Rm (pins:= [])).weak hl fun j v e=>?_,T.keep _ _ _ st7 fun b hb o e=>(pin' b hb o e).1,fun b hb=>?_,w'⟩
    ·rw[<-hw8]at e
     exact(Tp e).1
    ·obtain⟨o,e,_⟩:=T.obj _ _ st7 b hb
     exact(pin' b hb o e).2
   cases b with
   | false=>
    simp only[Wk,FH]at q9 ⊢
    exact fin I9 q9
   | true=>
    simp only[D8]at q9 ⊢
    refine tZ (pe _ s9 σ8 H9 _ I9 q9) fun z s10 ⟨yv,H10,I10,r10,acc,hD10,hz10,nx⟩=>?_
    exact ACF (X:=X.b9 s3 H3 scope ce fp) I10 hD10 hz10 r10 fun s11 I11=>fin I11 nx
 exact codeAny_compStart_list loop<|T.self X.A 0 _ _ _ st4 loop
def vJ(hc:X.calm=true)(hN:X.N.Nodup)(hi:PI X tg iter wi)(ok:NY X.N X.env.scope scope own)
  (hg: ∀ s H C cl fp,PG (X.b9 s H scope (Gw scope cl C X.env) fp) tg g) (ht: ∀ s H C cl fp,PTs (X.b9 s H scope (Gw scope cl C X.env) fp) ifs tt)
  (he: ∀ s H C cl fp,PE (X.b9 s H scope (Gw scope cl C X.env) fp) elt te) (hs: ∀ x,Wu iter X.env x=CA x:=by intro _;rfl):
  PE X (.ListComp elt [⟨tg,iter,ifs,0⟩] scope pos) (tLc wi g tt te<|own.map (·.2)):=by
 intro pins s σ H Q I h
 rw[eval_ListComp]
 refine qw hc hN I hi ok hg ht he hs h fun D C s' m H' I' q hn f=>⟨m,hn,fun h'' sb=>?_⟩
 obtain⟨f0,f1,f2,f3,f4,f5⟩:=f
 exact⟨.ref D,H',I'.turned (fun b o hb e=>(sb.2 b hb).trans e) f0 f1 f3 f4 f5,rfl,q⟩
def XU(hc:X.calm=true)(hN:X.N.Nodup)(hy:X.N[i]?=some y)(hyl:X.env.scope.names.lookup y=some .local)
  (hsw:Gb (.ListComp elt [⟨tg,iter,ifs,0⟩] scope pos) (some<|.Name y py) spos.line X.env=CA true) (hi:PI X tg iter wi) (ok:NY X.N X.env.scope scope own)
  (hg: ∀ s H C cl fp,PG (X.b9 s H scope (Gw scope cl C X.env) fp) tg g) (ht: ∀ s H C cl fp,PTs (X.b9 s H scope (Gw scope cl C X.env) fp) ifs tt)
  (he: ∀ s H C cl fp,PE (X.b9 s H scope (Gw scope cl C X.env) fp) elt te) (hs: ∀ x,Wu iter X.env x=CA x:=by intro _;rfl):
  PS X (.Assign [.Name y py] (.ListComp elt [⟨tg,iter,ifs,0⟩] scope pos) spos) (zE (tLc wi g tt te<|own.map (·.2))<|RZ i):=by
 intro pins s σ H D I h
 rw[exec_Assign_Name_used _ _ _ _ hsw]
 refine BP<|SR<|BP ?_
 refine BP<|QE (qw hc hN I hi ok hg ht he hs h fun L C s' m H' I' q hn f=>?_) fun _ s' hq=>Ck<|Ck hq
 refine ng<|aX (v:=V.ref L) I' hN hy (.inl hyl) rfl (fun s2 I2 ⟨a,sb,ha⟩=>?_)<|.inr hyl
 obtain⟨f0,f1,f2,f3,f4,f5⟩:=f
 have haC:C≠a:=by
  rcases ha with z | z
  ·rw[z];exact f1
  ·exact fun e=>f4 y a z e.symm
 exact⟨m,hn.sameBut sb haC,fun h3 sb3=>⟨_,H',I2.turned (fun b o hb e=>(sb3.2 b hb).trans e) f0 f1 f3 f4 f5,q⟩⟩
def fz(hk:env.scope.kind= .function)(hy:env.scope.names.lookup y=some .local)(hl:(py.line==pos.line)=true)
  (ha:(scope.names.any fun(n,k)=>n==y&&(k== .local||k== .cell))=false):Gb (.ListComp elt gs scope pos) (some<|.Name y py) l env=CA true:=by
 have ky:env.kindOf y=some .local:=hy
 have hb:env.blockKind= .function:=by unfold Env.blockKind;rw[hk];rfl
 unfold Gb
 simp only[hb,ky,ha,Expr.pos,hl]
 rfl
end
def XS{lo:Int}{g:TG}{tt:TT}{te:TE}{Qd:Hp->Prop}(Pv:Nat->Hp->Prop)(h0:Pv 0 (upd H1 D<|.lst []))
  (hs: ∀ i H,i<n->Pv i H->g (.int<|lo+i) (wipe σ vs) H fun σ2 H2=>wipe σ2 vs=wipe σ vs/\tt σ2 H2 fun b H3=>
   if b=true then te σ2 H3 fun y H4=> ∃ acc,H4 D=some (.lst acc)/\acc.length<sizeLine/\Pv (i+1) (upd H4 D<|.lst<|acc++ [y])else Pv (i+1) H3) (hd: ∀ H,Pv n H->Qd H):
  ∃ W:Nat->Nat->Hp->Prop,(∃ m,W 0 m<|upd H1 D<|.lst [])/\ ∀ i m H,W i m H->
   ((xh lo n).stop i H/\Qd H)\/((xh lo n).go i H/\ ∃ Nx:Hp->Prop,(∀ H',Nx H'-> ∃ m',m'<m/\W (i+1) m' H')/\ ∀ x H',(xh lo n).uC i H x H'->g x (wipe σ vs) H' fun σ2 H2=>wipe σ2 vs=wipe σ vs/\tt σ2 H2 fun b H3=>
    if b=true then te σ2 H3 fun y H4=> ∃ acc,H4 D=some (.lst acc)/\acc.length<sizeLine/\Nx (upd H4 D<|.lst<|acc++ [y])else Nx H3):=by
 refine⟨fun i m H=>m=n-i/\i<=n/\Pv i H,⟨n,by simp,B7 _,h0⟩,?_⟩
 rintro i m H ⟨rfl,hi,p⟩
 by_cases hlt:i<n
 ·refine .inr ⟨hlt,Pv<|i+1,fun H' p'=>⟨n- (i+1),by lia,rfl,hlt,p'⟩,fun x H' y=>?_⟩
  obtain⟨e,y⟩:=y
  subst e y
  exact hs i _ hlt p
 ·have e:i=n:=by lia
  subst e
  exact .inl ⟨BS _,hd H p⟩
def nE{K:AS}{g:TG}{tt:TT}{te:TE}{Qd:Hp->Prop}(Pv:Nat->Hp->Prop)(h0:Pv 0 (upd H1 D<|.lst []))(hl: ∀ i H,i<=xs.length->Pv i H->BF K H a xs)
  (hs: ∀ i x H,xs[i]?=some x->Pv i H->g x (wipe σ vs) H fun σ2 H2=>wipe σ2 vs=wipe σ vs/\tt σ2 H2 fun b H3=>
   if b=true then te σ2 H3 fun y H4=> ∃ acc,H4 D=some (.lst acc)/\acc.length<sizeLine/\Pv (i+1) (upd H4 D<|.lst<|acc++ [y])else Pv (i+1) H3) (hd: ∀ H,Pv xs.length H->Qd H):
  ∃ W:Nat->Nat->Hp->Prop,(∃ m,W 0 m<|upd H1 D<|.lst [])/\ ∀ i m H,W i m H->
   ((mZ K a).stop i H/\Qd H)\/((mZ K a).go i H/\ ∃ Nx:Hp->Prop,(∀ H',Nx H'-> ∃ m',m'<m/\W (i+1) m' H')/\ ∀ x H',(mZ K a).uC i H x H'->g x (wipe σ vs) H' fun σ2 H2=>wipe σ2 vs=wipe σ vs/\tt σ2 H2 fun b H3=>
    if b=true then te σ2 H3 fun y H4=> ∃ acc,H4 D=some (.lst acc)/\acc.length<sizeLine/\Nx (upd H4 D<|.lst<|acc++ [y])else Nx H3):=by
 refine⟨fun i m H=>m=xs.length-i/\i<=xs.length/\Pv i H,⟨xs.length,by simp,B7 _,h0⟩,?_⟩
 rintro i m H ⟨rfl,hi,p⟩
 have q:=hl i H hi p
 by_cases hlt:i<xs.length
 ·refine .inr ⟨⟨xs,xs[i],q,by simp[hlt]⟩,Pv<|i+1,fun H' p'=>⟨xs.length- (i+1),by lia,rfl,hlt,p'⟩,fun x H' y=>?_⟩
  obtain⟨rfl,y⟩:=y
  exact hs i x _ (y xs q) p
 ·have e:i=xs.length:=by lia
  subst e
  exact .inl ⟨⟨xs,q,BS _⟩,hd H p⟩
noncomputable def AD1(N:List Str)(sc scope:FW)(own:List (Str×Nat)):Bool:=
 (match scope.kind with | .function=>true | _=>false)&&(scope.names.all fun y=>decide (scope.names.lookup y.1=some y.2))&&(own.all fun p=>decide (N[p.2]?=some p.1))&&
  (scope.names.all fun y=>match y.2 with
   | .free=>(match sc.names.lookup y.1 with | some .cell=>true | some .free=>true | _=>false)
   | .local=>decide (y.1∈own.map (·.1))||decide (y.1∉N)
   | .cell=>decide (y.1∈own.map (·.1))||decide (y.1∉N)
   | _=>true)
def K4(h:AD1 N sc scope own=true):NY N sc scope own:=by
 unfold AD1 at h
 simp only[Ol,F7,Lz]at h
 obtain⟨⟨⟨h1,h2⟩,h3⟩,h4⟩:=h
 refine⟨?_,h2,h3,fun y hy e=>?_,fun y hy e=>?_⟩
 ·split at h1
  ·assumption
  ·cases h1
 ·have q:=h4 y hy
  simp only[e]at q
  split at q<;>first | exact .inl (by assumption) | exact .inr (by assumption) | cases q
 ·have q:=h4 y hy
  rcases e with e | e<;>(simp only[e,Bool.or_eq_true,Lz]at q;exact q)
end L2
namespace L2
open PySem PySem.Spec PyProof.Rows
section
variable{κ:Type} [DecidableEq κ]
noncomputable def E2(BU:List (κ×V))(k:κ):Option V:=(BU.find? fun kv=>decide (kv.1=k)).map (·.2)
noncomputable def putK(BU:List (κ×V))(k:κ)(v:V):List (κ×V):=
 if(BU.any fun kv=>decide (kv.1=k))=true then BU.map (fun kv=>if kv.1=k then(kv.1,v)else kv)else BU++ [(k,v)]
def El{p:κ×V}{r:List (κ×V)}(e:p.1=k):E2 (p::r) k=some p.2:=by simp[E2,KJ,e]
def Eh{p:κ×V}{r:List (κ×V)}(e: ¬ p.1=k):E2 (p::r) k=E2 r k:=by simp[E2,KJ,e]
theorem JX(k:κ): ∀ BU:List (κ×V),(BU.any fun kv=>decide (kv.1=k))=(E2 BU k).isSome
 | []=>rfl
 | p::r=>by
  rw[eF]
  by_cases e:p.1=k
  ·simp only[El e,Av e,Bool.true_or,mC]
  ·rw[Eh e,D4 e,Bool.false_or];exact JX k r
theorem i_(k j:κ)(y:V): ∀ BU:List (κ×V),E2 (BU.map fun kv=>if kv.1=k then(kv.1,y)else kv) j=(E2 BU j).map fun x=>if j=k then y else x
 | []=>rfl
 | p::r=>by
  have ih:=i_ k j y r
  rw[Fs]
  by_cases h:p.1=k
  ·rw[AI h]
   by_cases e:p.1=j
   ·rw[El (p:=(p.1,y)) e,El e,TX,AI<|e.symm.trans h]
   ·rw[Eh (p:=(p.1,y)) e,Eh e,ih]
  ·rw[AG h]
   by_cases e:p.1=j
   ·rw[El (p:=p) e,El e,TX,AG fun z=>h<|e.trans z]
   ·rw[Eh (p:=p) e,Eh e,ih]
theorem aK(k j:κ)(y:V): ∀ BU:List (κ×V),E2 BU k=none->E2 (BU++ [(k,y)]) j=if j=k then some y else E2 BU j
 | [],_=>by
  by_cases e:k=j
  ·rw[AI e.symm];exact El (p:=(k,y)) e
  ·rw[AG fun z=>e z.symm];exact Eh (p:=(k,y)) e
 | p::r,hn=>by
  rw[List.cons_append]
  have hk: ¬ p.1=k:=fun z=>by rw[El z]at hn;cases hn
  rw[Eh hk]at hn
  have ih:=aK k j y r hn
  by_cases e:p.1=j
  ·rw[El e,El e,AG fun z=>hk<|e.trans z]
  ·rw[Eh e,Eh e,ih]
def vG(BU:List (κ×V))(k j:κ)(y:V):E2 (putK BU k y) j=if j=k then some y else E2 BU j:=by
 unfold putK
 by_cases a:(BU.any fun kv=>decide (kv.1=k))=true
 ·rw[AI a,i_]
  rw[JX]at a
  by_cases e:j=k
  ·obtain⟨x,hx⟩:=dM.mp a
   rw[AI e,e,hx,TX,AI rfl]
  ·rw[AG e]
   cases E2 BU j with
   | none=>rfl
   | some x=>rw[TX,AG e]
 ·rw[AG a]
  refine aK k j y BU ?_
  rw[JX]at a
  cases q:E2 BU k with
  | none=>rfl
  | some x=>rw[q]at a;exact(a rfl).elim
def Uz(BU:List (κ×V))(k:κ)(v:V):(putK BU k v).length<=BU.length+1:=by
 unfold putK
 split
 ·rw[A8];lia
 ·rw[E8,HG,Vz];lia
def uW{BU:List (κ×V)}{k:κ}(v:V)(h:E2 BU k=none):putK BU k v=BU++ [(k,v)]:=by
 unfold putK
 rw[JX,h]
 exact AG<|by decide
theorem Ph.su(r:Ph o u):o.isSome=u.isSome:=by
 cases o with
 | none=>cases u with
  | none=>rfl
  | some _=>exact(r).elim
 | some _=>cases u with
  | none=>exact(r).elim
  | some _=>rfl
theorem Ph.getD(r:Ph o u)(rd:RelV d d'):RelV (o.getD d) (u.getD d'):=by
 cases o with
 | none=>cases u with
  | none=>exact rd
  | some _=>exact(r).elim
 | some _=>cases u with
  | none=>exact(r).elim
  | some _=>exact r
theorem KV.val(r:KV BU vs)(k:κ):Ph (E2 BU k) (Od vs k):=by
 unfold KV at r
 induction r with
 | nil=>exact Io
 | @cons p q ps qs h t ih=>
  obtain⟨h1,h2⟩:=h
  by_cases e:p.1=k
  ·have e':=h1.symm.trans e
   have b:Od (q::qs) k=some q.2:=by simp[Od,KJ,e']
   rw[El e,b];exact h2
  ·have e': ¬ q.1=k:=fun z=>e (h1.trans z)
   have b:Od (q::qs) k=Od qs k:=by simp[Od,KJ,e']
   rw[Eh e,b];exact ih
theorem KV.any(r:KV BU vs)(k:κ):(BU.any fun kv=>decide (kv.1=k))=vs.any fun kv=>decide (kv.1=k):=by
 unfold KV at r
 induction r with
 | nil=>rfl
 | cons h t ih=>rw[eF,eF,ih,h.1]
theorem KV.ABW(r:KV BU vs)(k:κ)(ry:RelV y u):
  KV (BU.map fun kv=>if kv.1=k then(kv.1,y)else kv) (vs.map fun kv=>if kv.1=k then(kv.1,u)else kv):=by
 unfold KV at r ⊢
 induction r with
 | nil=>exact .nil
 | @cons p q ps qs h t ih=>
  rw[Fs,Fs]
  refine .cons ?_ ih
  obtain⟨h1,h2⟩:=h
  by_cases e:p.1=k
  ·rw[AI e,AI<|h1.symm.trans e];exact⟨h1,ry⟩
  ·rw[AG e,AG fun z=>e<|h1.trans z];exact⟨h1,h2⟩
def KV.put(r:KV BU vs)(k:κ)(ry:RelV y u):KV (putK BU k y) (stored vs k u):=by
 unfold putK stored
 rw[r.any k]
 by_cases e:(vs.any fun kv=>decide (kv.1=k))=true
 ·rw[AI e,AI e];exact r.ABW k ry
 ·rw[AG e,AG e];exact ph r ⟨rfl,ry⟩
def KV.length{BU:List (κ×V)}{vs:List (κ×AN)}(r:KV BU vs):BU.length=vs.length:=bh r
end
theorem iJ(r:RelV (kV k) u):(DW P w).is k u=true:=by
 cases k with
 | inl i=>obtain⟨t,e⟩:=(r);subst e;exact jJ P w i t
 | inr x=>obtain⟨t,e⟩:=(r);subst e;exact iR P w x t
theorem ao: ∀{ks:List Key} {us:List AN},Vals (ks.map kV) us->ItemsAre (DW P w) ks us
 | [],_,r=>by rw[List.map_nil]at r;cases r;exact .nil
 | k::ks,_,r=>by
  rw[Fs]at r
  cases r with
  | cons h t=>exact .cons (iJ h)<|ao t
noncomputable abbrev KT(H:Hp):List (List Key×V)->List (List Key×AK×AN)->Prop:=O2 fun p q=>p.1=q.1/\H q.2.1=some (.tup<|p.1.map kV)/\RelV p.2 q.2.2
theorem KT.val(r:KT H BU xs)(k:List Key):Ph (E2 BU k) ((J6 xs k).map (·.2)):=by
 induction r with
 | nil=>exact Io
 | @cons p q ps qs h t ih=>
  obtain⟨h1,_,h2⟩:=h
  by_cases e:p.1=k
  ·have e':=h1.symm.trans e
   have b:J6 (q::qs) k=some q.2:=by simp[J6,KJ,e']
   rw[El e,b];exact h2
  ·have e': ¬ q.1=k:=fun z=>e (h1.trans z)
   have b:J6 (q::qs) k=J6 qs k:=by simp[J6,KJ,e']
   rw[Eh e,b];exact ih
theorem KT.ABW(r:KT H BU xs)(k:List Key)(ry:RelV y u):
  KT H (BU.map fun kv=>if kv.1=k then(kv.1,y)else kv) (xs.map<|putAt k u):=by
 induction r with
 | nil=>exact .nil
 | @cons p q ps qs h t ih=>
  rw[Fs,Fs]
  refine .cons ?_ ih
  obtain⟨h1,h2,h3⟩:=h
  unfold putAt
  by_cases e:p.1=k
  ·rw[AI e,AI<|h1.symm.trans e];exact⟨h1,h2,ry⟩
  ·rw[AG e,AG fun z=>e<|h1.trans z];exact⟨h1,h2,h3⟩
def KT.put(r:KT H BU xs)(k:List Key)(hb:H b=some (.tup<|k.map kV))(ry:RelV y u):
  KT H (putK BU k y) (storedH xs k b u):=by
 have e:(BU.any fun kv=>decide (kv.1=k))=(J6 xs k).isSome:=by
  rw[JX,(r.val k).su,Option.isSome_map]
 unfold putK storedH
 rw[e]
 by_cases q:(J6 xs k).isSome=true
 ·rw[AI q,AI q];exact r.ABW k ry
 ·rw[AG q,AG q];exact ph r ⟨rfl,hb,ry⟩
def KT.keeps(r:KT H BU xs)(ht: ∀ b ys,H b=some (.tup ys)->H' b=some (.tup ys)):KT H' BU xs:=
 Paired.AEg r fun _ _ z=>⟨z.1,ht _ _ z.2.1,z.2.2⟩
section
variable{P:BH}{w:Ap}{H:Hp}{h:Ay}{a:AK}
def AAi(ok:NH P w H h)(e:Rd H a u):EH P w H h a u:=e.ok ok
def xA(ok:NH P w H h)(e:Rd H a (.dK BU)):BU.length<=sizeLine/\(a==Gy)=false/\ ∃ vs,KV BU vs/\h.DictOf (DW P w) a vs:=
 show EH P w H h a (.dK BU)from AAi ok e
def ADY(ok:NH P w H h)(e:H a=some (.dK BU)):BU.length<=sizeLine/\(a==Gy)=false/\ ∃ vs,KV BU vs/\h.DictOf (DW P w) a vs:=xA ok (.inl e)
def kr(ok:NH P w H h)(e:H a=some (.tup<|ks.map kV)):(OU<|DW P w).is h ks a:=by
 obtain⟨_,its,r,o,h1,h2,n,h3⟩:=(ok a _ e)
 exact⟨o,its.toArray,n,h1,h2,h3,by simpa using ao r⟩
def xH(ok:NH P w H h)(e:Rd H a (.dT BU)):BU.length<=sizeLine/\(a==Gy)=false/\
  ∃ xs,KT H BU xs/\h.DictOfH (OU<|DW P w) a xs:=by
 obtain⟨z,y,xs,r,o,es,ep,h1,h2,h3,h4,h5⟩:=(AAi ok e)
 refine⟨z,y,xs,r,o,es,ep,h1,h2,h3,h4,fun x hx=>?_,h5⟩
 have all: ∀{l:List (List Key×V)} {m:List (List Key×AK×AN)},KT H l m-> ∀ x∈m,(OU<|DW P w).is h x.1 x.2.1:=by
  intro l m q
  induction q with
  | nil=>intro x hx;exact nomatch hx
  | @cons p q ps qs hq t ih=>
   intro x hx
   rcases Cd.mp hx with e | hx
   ·subst e
    exact kr ok<|by rw[<-hq.1];exact hq.2.1
   ·exact ih x hx
 exact all r x hx
def AEf(ok:NH P w H h)(e:H a=some (.dT BU)):BU.length<=sizeLine/\(a==Gy)=false/\
  ∃ xs,KT H BU xs/\h.DictOfH (OU<|DW P w) a xs:=xH ok<|.inl e
end
noncomputable def vQ(H:Hp)(a:AK)(y:V)(r:Option V):Prop:=
 (∃ BU k,Rd H a (.dK BU)/\y=kV k/\r=E2 BU k)\/ ∃ BU k b,Rd H a (.dT BU)/\y= .ref b/\H b=some (.tup<|k.map kV)/\r=E2 BU k
noncomputable def wA(H:Hp)(a:AK)(y v:V)(H':Hp):Prop:=
 (∃ BU k,H a=some (.dK BU)/\y=kV k/\BU.length<sizeLine/\H'=upd H a (.dK<|putK BU k v))\/
 ∃ BU k b,H a=some (.dT BU)/\y= .ref b/\H b=some (.tup<|k.map kV)/\BU.length<sizeLine/\H'=upd H a (.dT<|putK BU k v)
def vQ.k{k:Key}(e:H a=some (.dK BU)):vQ H a (kV k) (E2 BU k):= .inl ⟨BU,k,.inl e,rfl,rfl⟩
def wA.k{k:Key}(e:H a=some (.dK BU))(hl:BU.length<sizeLine):wA H a (kV k) v (upd H a<|.dK<|putK BU k v):= .inl ⟨BU,k,e,rfl,hl,rfl⟩
section
variable{X:Cx}{pins:List (AK×Obj)}{σ:St}{H:Hp}{s:Az}{a:AK}{y v:V}{u r:AN}{o:Option V}{A:De}{E:AN->Az->Prop}
def Inv.big(I:Inv X pins σ H s):Gy<s.heap.objs.size:=by
 exact HH (by decide)<|(I.mod.glob.keeps I.bk).lt
def oA{h':Ay}(I:Inv X pins σ H s)(mu:Mut (H a))(hs:R3 a s.heap h')(he: ∃ q,h'.get? a=some q)(new:EH X.prog X.w (upd H a ob) h' a ob):
  Inv X pins σ (upd H a ob) {s with heap:=h',toks:=t'}:=
 I.write mu (.inl rfl) (fun b q hb z=>(hs.2 b hb).trans z) he new
def ABE(z:BU.length<=sizeLine)(hd:(a==Gy)=false)(rel:KV BU vs)(dd:h'.DictOf (DW P w) a vs):
  EH P w H' h' a (.dK BU):=⟨z,hd,vs,rel,dd⟩
def r_{H':Hp}(hu:A.units+1<MZ)(I:Inv X pins σ H s)(g:wA H a y v H')(ry:RelV y u)(rv:RelV v r)(h: ∀ s',Inv X pins σ H' s'->Q () s'):
  Aw (Ai X.prog X.w) A (fZ (.ref a) u r) Q E s:=by
 rcases g with⟨BU,k,e,ey,l,eH⟩ |⟨BU,k,b,e,ey,eb,l,eH⟩
 ·subst ey eH
  obtain⟨z,hd,vs,rel,dd⟩:=ADY I.C1 e
  have hz:vs.length<=sizeLine:=by rw[<-rel.length];exact z
  have hl:(putK BU k v).length<=sizeLine:=by have:=Uz BU k v;lia
  refine wpAny_setItem_pairs (iJ ry) dd fun h' dd' hs=>h _ ?_
  have he: ∃ q,h'.get? a=some q:=let⟨q,_,_,hq,_⟩:=dd';⟨q,hq⟩
  exact oA I (by rw[e];exact Io) hs he<|ABE hl hd (rel.put k rv) dd'
 ·subst ey eH
  cases (ry)
  obtain⟨z,hd,xs,rel,dd⟩:=AEf I.C1 e
  have hz:xs.length<=sizeLine:=by rw[<-bh rel];exact z
  have hl:(putK BU k v).length<=sizeLine:=by have:=Uz BU k v;lia
  refine wpAny_setItem_heap (nP hu) (kr I.C1 eb) dd fun h' dd' hs=>h _ ?_
  obtain⟨q,es,ep,hq,h2,h3,h4,_,h5⟩:=dd'
  refine oA I (by rw[e];exact Io) hs ⟨q,hq⟩ ⟨hl,hd,_,(rel.put k eb rv).keeps fun c ys ec=>?_,q,es,ep,hq,h2,h3,h4,h5⟩
  rw[AQ<|aW ec e fun z=>nomatch z]
  exact ec
end
noncomputable def AEH(i:Expr):Prop:= ∀ ov iv,Wv i false ov iv=dW [ov,iv] (TU ov iv)
def yZ{T id:String}
  (hl:Ww (.type T) "__getitem__"=CA (some<|.builtin id)) (hs:AEH slice)
  (h:Aw (Ai prog w) A (eval value env) (fun o s₁=>Aw (Ai prog w) A (eval slice env) (fun i s₂=>s₂.TypeIs o T/\Aw (Ai prog w) A (TU o i) Q E s₂) E s₁) E s):
  Aw (Ai prog w) A (eval (.Subscript value slice pos) env) Q E s:=by
 refine cg<|Et h (fun o s₁ h₁=>Et h₁ (fun i s₂ h₂=>?_) fun _ _ x=>x) fun _ _ x=>x
 obtain⟨hT,h₂⟩:=h₂
 unfold nU
 refine BP ?_
 rw[getitemInPython_of_ne hT.not_modules]
 refine BP<|wpAny_specialOf hT hl ?_
 have fin:Aw (Ai prog w) A (Wv slice false o i) (fun r s₃=>Aw (Ai prog w) A (letTemporaryGo value o r>>=fun _=>CA r) Q E s₃) E s₂:=by
  rw[hs o i]
  exact wpAny_operating<|Et h₂ (fun r s₃ h₃=>BP<|wpAny_letTemporaryGo<|Ck h₃) fun _ _ x=>x
 first
  | exact Ck<|BP fin
  | exact BP<|Ck<|BP fin
  | exact BP fin
noncomputable def ADf(td ty tv:TE):TS:=fun D σ H=>tv σ H fun v H1=>td σ H1 fun x H2=>ty σ H2 fun y H3=> ∃ a H4,x= .ref a/\wA H3 a y v H4/\D.nx σ H4
section
variable{X:Cx}{o i e value:Expr}{pos pos' tpos:Pos}{td ty tv:TE}
def zP(hu:X.A.units+1<MZ)(ho:PE X o td)(hi:PE X i ty)(hv:PE X value tv)(hs:Gb value (some<|.Subscript o i pos') pos.line X.env=CA false):
  PS X (.Assign [.Subscript o i pos'] value pos) (ADf td ty tv):=by
 refine fun pins s σ H D I h=>wpAny_Assign_Subscript (HV (hv pins s σ H _ I h) fun r s1 v H1 I1 rv q1=>HV (ho pins s1 σ H1 _ I1 q1) fun u s2 x H2 I2 rx q2=>HV (hi pins s2 σ H2 _ I2 q2) fun iv s3 y H3 I3 ry q_=>?_) hs
 obtain⟨a,H4,ex,g,q3⟩:=q_
 subst ex
 obtain rfl:u=CL a:=rx
 exact r_ hu I3 g ry rv fun s4 I4=>⟨σ,H4,I4,q3⟩
end
def wI(h:Ay)(hb:Gy<h.objs.size):EH P w H (h.push {cls:= .type "dict",data:= .dict #[]}) h.objs.size (.dK []):=
 ⟨B7 _,Il.mpr<|Ei<|DP hb,[],.nil,AAT h⟩
noncomputable def AB4:TE:=fun _ H Q=> ∀ p,H p=none->Q (.ref p) (upd H p<|.dK [])
section
variable{X:Cx}{pos:Pos}
def Xb:PE X (.Dict [] [] pos) AB4:=fun pins s σ H Q I h=>
 wpAny_Dict_empty ⟨.ref s.heap.objs.size,_,I.laid (fun _ _ q=>CW _ q) (BS _)<|wI s.heap I.big,rfl,h _<|I.C1.fresh<|BS _⟩
end
structure M1(X:Cx)(o:Expr)(m:Str)(apos:Pos)(e:Expr)(cpos:Pos):Prop where
 base:J0 o m X.env (eval o X.env)=eval o X.env
 ZA:((Co cpos (Au [e] X.env)).all (fun x=>!x.1)&&(Ig cpos (Iv [] X.env)).all (fun x=>x.1.isSome)
  &&decide (([e]:List Expr).length+([]:List W7).length+(if([]:List W7).isEmpty then 0 else 1)<30))=true
 line:(apos.endLine==cpos.line)=true
 trees:Co cpos (Au [e] X.env)= [(false,eval e X.env)]
noncomputable def IsD(H:Hp)(a:AK):Prop:=(∃ BU,Rd H a<|.dK BU)\/ ∃ BU,Rd H a (.dT BU)
def ACP{X:Cx}{σ:St}(I:Inv X pins σ H s)(d:IsD H a):
  s.TypeIs (.ref a) "dict"/\(∀ b,CL a= .ref b-> ∃ ob,s.heap.get? b=some ob/\ob.dict=none)/\(a==Gy)=false:=by
 rcases d with⟨BU,e⟩ |⟨BU,e⟩
 ·obtain⟨_,hd,vs,_,dd⟩:=xA I.C1 e
  refine⟨dd.typeIs,fun b q=>?_,hd⟩
  cases q
  obtain⟨ob,_,_,h1,h2,_⟩:=dd
  exact⟨ob,h1,h2.2.1⟩
 ·obtain⟨_,hd,xs,_,dd⟩:=xH I.C1 e
  refine⟨dd.typeIs,fun b q=>?_,hd⟩
  cases q
  obtain⟨ob,_,_,h1,h2,_⟩:=dd
  exact⟨ob,h1,h2.2.1⟩
section
variable{X:Cx}{pins:List (AK×Obj)}{σ:St}{H:Hp}{s:Az}{a:AK}{y d:V}{u r:AN}{o:Option V}{A:De}{E:AN->Az->Prop}
def ABt{Q:AN->Az->Prop}(hu:A.units+1<MZ)(I:Inv X pins σ H s)(g:vQ H a y o)(ry:RelV y u)(h: ∀ w' s',Inv X pins σ H s'->RelV (o.getD .non) w'->Q w' s'):
  Aw (Ai X.prog X.w) A (call (.builtin "dict.get") [.ref a,u]) Q E s:=by
 rcases g with⟨BU,k,e,ey,l⟩ |⟨BU,k,b,e,ey,eb,l⟩
 ·subst ey
  obtain⟨z,hd,vs,rel,dd⟩:=xA I.C1 e
  refine bb Sy dd.typeIs bR (dI _ _) (lY (DW X.prog X.w) a (iJ ry) hd) ⟨_,dd.mapOf,h _ _ (I.tok _) ?_⟩
  rw[l]
  exact(rel.val k).getD rfl
 ·subst ey
  cases (ry)
  obtain⟨z,hd,xs,rel,dd⟩:=xH I.C1 e
  refine bb Sy dd.typeIs bR (dI _ _) (meetsH_dict_get (OU<|DW X.prog X.w) a b hd) ⟨nP hu,k,xs,kr I.C1 eb,dd,h _ _ (I.tok _) ?_⟩
  rw[l]
  exact(rel.val k).getD rfl
end
noncomputable def ABV(td ty:TE):TE:=fun σ H Q=>td σ H fun x H1=> ∃ a,x= .ref a/\IsD H1 a/\ty σ H1 fun y H2=> ∃ o,vQ H2 a y o/\Q (o.getD .non) H2
section
variable{X:Cx}{o e f:Expr}{apos cpos:Pos}{td ty tx:TE}
def vB(hu:X.A.units+1<MZ)(ho:PE X o td)(he:PE X e ty)(m:M1 X o "get" apos e cpos):PE X (.Call (.Attribute o "get" apos) [e] [] cpos) (ABV td ty):=by
 refine fun pins s σ H Q I h=>rL m.base m.ZA m.line mV Sy oH<|HV (ho pins s σ H _ I h) fun u s1 x H1 I1 rx q_=>?_
 obtain⟨a,ex,d,q1⟩:=q_
 subst ex
 obtain rfl:u=CL a:=rx
 obtain⟨t1,t2,_⟩:=ACP I1 d
 refine⟨t1,t2,?_⟩
 rw[m.trees]
 exact WL rfl<|eB<|cW<|HV (he pins s1 σ H1 _ I1 q1) fun iv s2 y H2 I2 ry ⟨ov,g,q2⟩=>fP<|ABt hu I2 g ry fun w' s3 I3 rw'=>⟨_,H2,I3,rw',q2⟩
end
end L2
namespace L2
open PySem PySem.Spec PyProof.Rows
section
variable{X:Cx}{pins:List (AK×Obj)}{σ:St}{H:Hp}{s:Az}{h':Ay}
def Inv.sM{t':Nat}{ch:List AK}{T:AK}(I:Inv X pins σ H s)(k: ∀ b o,b∉ch->s.heap.get? b=some o->h'.get? b=some o)(hf: ∀ b∈ch,YD X pins H b)(hT:s.heap.objs.size<=T)
  (new:EH X.prog X.w (upd H T ob) h' T ob):Inv X pins σ (upd H T ob) {s with heap:=h',toks:=t'}:=by
 have hn:=I.C1.fresh hT
 have nit: ∀ b u,H b=some u->b∉ch:=fun b u e z=>by
  have q:=(hf b z).1
  rw[q]at e;cases e
 refine I.step (fun b hb=>⟨(hf b hb).2.2.2.1,(hf b hb).2.1,(hf b hb).2.2.2.2.1,(hf b hb).2.2.2.2.2⟩) (fun b o _ _ hc e _=>k b o hc e) (fun b o _ _ hc e _=>⟨o.slots,k b o hc e⟩)
  (fun b o _ e n=>?_) (fun b o hc e=>⟨o,k b o hc e⟩) (fun b xs e=>?_) (fun b o u e=>?_) (fun b ps e=>⟨#[],?_⟩) (fun m hm=>?_) (fun b u e=>?_) I.bare
 ·rw[AQ<|DP<|DO (Bz e) hT];exact n
 ·rw[AQ<|Ac e hn];exact e
 ·rw[AQ<|Ac e hn];exact e
 ·rw[AQ<|Ac e hn,e];simp
 ·obtain⟨o,es,ep,ho,r⟩:=hm
  exact⟨o,es,ep,k _ o (fun z=>(hf _ z).2.1 rfl) ho,r⟩
 ·by_cases hb:b=T
  ·subst hb
   rw[AJ]at e
   cases e
   exact new
  ·rw[AQ hb]at e
   refine(I.C1 b u e).Px (fun c v hc q=>k c v ?_ q) (fun c q=>by rw[AQ<|Ac q hn];exact q) fun c xs q=>by rw[AQ<|Ac q hn];exact q
   rcases hc with z | z
   ·rw[z];exact nit b u e
   ·exact nit c _ z
end
section
variable{X:Cx}
def ACc{tg:Expr}{σ:St}(I:Inv X pins σ H s)(o:Obj)
  (T:Turn X.prog X.w X.K tg J [s.heap.objs.size] s.heap.objs.size tn) (st:tn 0 (s.heap.push o)) (q:R J H):PIE X pins σ tg R (.ref s.heap.objs.size) {s with heap:=s.heap.push o,toks:=tk}:=by
 refine⟨s.heap.objs.size,[s.heap.objs.size],tn,J,H,rfl,I.kept fun b ob e=>CW _ e,T,st,fun b hb=>?_,q⟩
 have e:b=s.heap.objs.size:=by simpa using hb
 subst e
 exact I.wu (BS _)<|I.C1.fresh<|BS _
end
noncomputable def Itc(lo c:Int)(n:Nat):It:=⟨fun i _=>i<n,fun i H x H'=>H'=H/\x= .int (lo+(i:Nat)*c),fun i _=>n<=i⟩
theorem ie{P:BH}{K:AS}(it:AK)(lo c:Int)(n:Nat):Turn P w K tg (Itc lo c n) [it] it (fun i h=>IsRangeIter h it (lo+(i:Nat)*c) ((n:Int)- (i:Nat)) c) where
 mem:=by simp
 obj:=fun i h st b hb=>by
  have e:b=it:=by simpa using hb
  subst e
  exact⟨_,st,fun v z=>nomatch z⟩
 keep:=fun i h h' st k=>k it (by simp) _ st
 item:=by
  intro X hP hw hK hc i pins s σ H E I hf st hg
  subst hP hw hK
  obtain⟨f0,f1,f2,f3,f4,f5⟩:=hf it<|by simp
  have W:=mQ (prog:=X.prog) (w:=X.w) (I.ok.hd hc) it lo c n
  refine W.item i s _ _ hg st fun v h' tk hv st' kk=>?_
  obtain⟨t,rfl⟩:=hv
  have I1:Inv X pins σ H {s with heap:=h',toks:=tk}:=I.turned (fun b o hb e=>kk b o (by simpa using hb) e) f0 f1 f3 f4 f5
  exact⟨_,rfl,vt (s:={s with heap:=h',toks:=tk}) (n:="range_iterator") st' rfl rfl (by decide) ⟨.int<|lo+(i:Nat)*c,H,I1,⟨t,rfl⟩,⟨rfl,rfl⟩,st',fun b hb=>(hf b hb).1⟩⟩
 done:=by
  intro X hP hw hK hc i pins s σ H E I hf st hg
  subst hP hw hK
  obtain⟨f0,f1,f2,f3,f4,f5⟩:=hf it<|by simp
  exact pK (I.ok.hd hc) st (by have:n<=i:=hg;lia) fun h' eb=>⟨rfl,I.turned (t':=s.toks) (fun b o hb e=>eb b o hb e) f0 f1 f3 f4 f5⟩
 self:=fun A i s Q E st h=>pR st h
noncomputable def RgC(i j c:Int)(n:Nat):Prop:=c≠0/\c.natAbs<1073741824/\eh i j c=true/\PV i j c=n
noncomputable def AEJ(ta:TA):TI:=fun σ H R=>ta σ H fun vs H1=> ∃ i j c n,vs= [.int i,.int j,.int c]/\RgC i j c n/\R (Itc i c n) H1
section
variable{X:Cx}{tg:Expr}
theorem aT{p pos:Pos}(hg:Gl X "range")(hm:X.mg "range"=none)(ha:PA X [a,b,c] ta)
  (hs:Au [a,b,c] X.env=(false,eval a X.env)::Au [b,c] X.env:=by rfl) (hpl:(Co pos<|Au [b,c] X.env).any (·.1)=false:=by rfl):
  PI X tg (.Call (.Name "range" p) [a,b,c] [] pos) (AEJ ta):=by
 refine fun pins s σ H R I h=>R4<|Q4 I hg hm cz<|RJ (ki (ha pos pins s σ H _ I h) fun us s1 vs H1 I1 r1 q1=>?_) hs hpl
 obtain⟨i,j,k,n,rfl,⟨c0,c1,c2,c3⟩,q⟩:=q1
 cases r1 with
 | cons r rr=>
  cases rr with
  | cons r' rr=>
   cases rr with
   | cons r'' rr=>
    cases rr
    obtain⟨t,rfl⟩:=r
    obtain⟨t',rfl⟩:=r'
    obtain⟨t'',rfl⟩:=r''
    refine call_range_3 c0 ?_<|.inl<|PyProof.noPylong_small c1
    refine pT (mW ..) c2 ?_
    have I2:Inv X pins σ H1 {s1 with heap:=s1.heap.push {cls:= .type "range",data:= .fields #[.int i t,.int j t',.int k t'']}}:=I1.kept (t':=s1.toks) fun b o e=>CW _ e
    refine ACc I2 _ (ie _ i k n) ?_ q
    have e1:i+((0:Nat):Int)*k=i:=by simp
    have e2:(n:Int)- ((0:Nat):Int)=PV i j k:=by rw[c3];simp
    rw[e1,e2]
    exact FP _ rfl
end
def Qo{lo c:Int}{g:TG}{tb:TS}{D:Ends}(Pv:Nat->St->Hp->Prop)(h0:Pv 0 σ H)
  (hs: ∀ i σ H,i<n->Pv i σ H->g (.int<|lo+(i:Nat)*c) σ H fun σ2 H2=>tb {D with nx:=Pv<|i+1,ct:=Pv<|i+1,bk:=D.nx} σ2 H2) (hd: ∀ σ H,Pv n σ H->D.nx σ H):
  ∃ W:Nat->Nat->St->Hp->Prop,(∃ m,W 0 m σ H)/\ ∀ i m σ H,W i m σ H->
   ((Itc lo c n).stop i H/\D.nx σ H)\/((Itc lo c n).go i H/\ ∃ N,(∀ σ' H',N σ' H'-> ∃ m',m'<m/\W (i+1) m' σ' H')/\ ∀ x H',(Itc lo c n).uC i H x H'->g x σ H' fun σ2 H2=>tb {D with nx:=N,ct:=N,bk:=D.nx} σ2 H2):=by
 refine⟨fun i m σ H=>m=n-i/\i<=n/\Pv i σ H,⟨n,by simp,B7 _,h0⟩,?_⟩
 rintro i m σ H ⟨rfl,hi,p⟩
 by_cases hlt:i<n
 ·refine .inr ⟨hlt,Pv<|i+1,fun σ' H' p'=>⟨n- (i+1),by lia,rfl,hlt,p'⟩,fun x H' y=>?_⟩
  obtain⟨e,y⟩:=y
  subst e y
  exact hs i σ _ hlt p
 ·have e:i=n:=by lia
  subst e
  exact .inl ⟨BS _,hd σ H p⟩
noncomputable def Ite(K:AS)(a:AK):It:=
 ⟨fun i H=> ∃ xs x,BF K H a xs/\xs[i]?=some x,fun i H v H'=> ∃ T x,v= .ref T/\H T=none/\H'=upd H T (.tup [.int (i:Nat),x])/\ ∀ xs,BF K H a xs->xs[i]?=some x,fun i H=> ∃ xs,BF K H a xs/\xs.length<=i⟩
theorem sv{P:BH}{K:AS}(a e it:AK):
  Turn P w K (.Tuple elts kk tpos) (Ite K a) [e,it] e (fun i h=>(∃ old,IsEnum h e it ((i:Nat):Int) old)/\h.IsListIter it a i/\e≠it) where
 mem:=by simp
 obj:=fun i h st b hb=>by
  obtain⟨⟨old,he⟩,⟨o,ho,hc,hd⟩,_⟩:=st
  have e':b=e\/b=it:=by simpa using hb
  rcases e' with z | z
  ·rw[z];exact⟨_,he,fun v q=>nomatch q⟩
  ·rw[z];exact⟨o,ho,fun v q=>by rw[hd]at q;cases q⟩
 keep:=fun i h h' st k=>let⟨⟨old,he⟩,hi,hne⟩:=st;⟨⟨old,k e (by simp) _ he⟩,hi.at fun o q=>k it (by simp) o q,hne⟩
 item:=by
  intro X hP hw hK hc i pins s σ H E I hf st hg
  subst hP hw hK
  obtain⟨⟨old,he⟩,hit,hne⟩:=st
  obtain⟨xs,x,hq,hx⟩:=hg
  obtain⟨its,rv,p,hz⟩:=I.list hq
  obtain⟨u,hu,ru⟩:=rv.get hx
  have hel:e<s.heap.objs.size:=Bz he
  have hil:it<s.heap.objs.size:=by obtain⟨_,q,_⟩:=hit;exact Bz q
  refine wpAny_pyNext_enum_item he hit p.isList (x:=u) (by simpa using hu) hne fun h' ho hit' hT hsz hk=>?_
  refine⟨_,rfl,wpAny_letOwnedTupleGo_enum (s:={s with heap:=h',toks:=s.toks+1}) ho fun h'' he' sb=>?_⟩
  have hT2:h''.get? s.heap.objs.size=some {cls:= .type "tuple",data:= .seq #[.int i s.toks,u]}:=(sb.2 _<|Wo hel).trans hT
  have new:EH X.prog X.w (upd H s.heap.objs.size<|.tup [.int (i:Nat),x]) h'' s.heap.objs.size (.tup [.int (i:Nat),x]):=
   ⟨by show 2<=sizeLine;decide,[.int i s.toks,u],.cons ⟨_,rfl⟩<|.cons ru .nil,⟨_,hT2,rfl,_,rfl⟩⟩
  have I1:Inv X pins σ (upd H s.heap.objs.size<|.tup [.int (i:Nat),x]) {s with heap:=h'',toks:=s.toks+1}:=
   I.sM (ch:= [e,it]) (fun b ob hb q=>(sb.2 b fun z=>hb<|by simp[z]).trans<|hk b ob (fun z=>hb<|by simp[z]) (fun z=>hb<|by simp[z]) q) hf (BS _) new
  refine⟨.ref s.heap.objs.size,_,I1,rfl,⟨_,x,rfl,I.C1.fresh<|BS _,rfl,fun ys hy=>by rw[I.g9 hy hq];exact hx⟩,⟨⟨u,?_⟩,hit'.at fun o q=>(sb.2 it<|Ei hne).trans q,hne⟩,fun b hb=>?_⟩
  ·have e1:((i+1:Nat):Int)=(i:Int)+1:=by lia
   rw[e1];exact he'
  ·have hb':b<s.heap.objs.size:=by
    have e':b=e\/b=it:=by simpa using hb
    rcases e' with z | z
    ·rw[z];exact hel
    ·rw[z];exact hil
   rw[AQ<|DP hb']
   exact(hf b hb).1
 done:=by
  intro X hP hw hK hc i pins s σ H E I hf st hg
  subst hP hw hK
  obtain⟨⟨old,he⟩,hit,hne⟩:=st
  obtain⟨xs,hq,hx⟩:=hg
  obtain⟨its,rv,p,hz⟩:=I.list hq
  obtain⟨f0,f1,f2,f3,f4,f5⟩:=hf it<|by simp
  have hl:=rv.length
  exact wpAny_pyNext_enum_end (I.ok.hd hc) he hit p.isList (by simp;lia) fun h' eb=>⟨rfl,I.turned (t':=s.toks) (fun b o hb q=>eb b o hb q) f0 f1 f3 f4 f5⟩
 self:=fun A i s Q E st h=>let⟨⟨_,he⟩,_⟩:=st;mM he h
noncomputable def AEs(K:AS)(ta:TA):TI:=fun σ H R=>ta σ H fun vs H1=> ∃ a xs,vs= [.ref a]/\BF K H1 a xs/\R (Ite K a) H1
theorem SD(hg:Gl X "enumerate")(hm:X.mg "enumerate"=none)(ha:PA X [e] ta)(hs:Au [e] X.env= [(false,eval e X.env)]:=by rfl):
  PI X (.Tuple elts kk tpos) (.Call (.Name "enumerate" p) [e] [] pos) (AEs X.K ta):=by
 refine fun pins s σ H R I h=>R4<|Q4 I hg hm boot_enumerate<|RJ (ki (ha pos pins s σ H _ I h) fun us s1 vs H1 I1 r1 q1=>?_) hs rfl
 obtain⟨a,xs,rfl,hq,q⟩:=q1
 cases r1 with
 | cons r rr=>
  cases rr
  cases r
  obtain⟨its,rv,p',hz⟩:=I1.list hq
  refine call_enumerate_list p'.isList fun h' he hit hsz hk=>mM he ?_
  have I2:Inv X pins σ H1 {s1 with heap:=h'}:=I1.kept (t':=s1.toks) hk
  refine⟨s1.heap.objs.size+1,[s1.heap.objs.size+1,s1.heap.objs.size],_,_,H1,rfl,I2,sv a (s1.heap.objs.size+1) s1.heap.objs.size,⟨⟨.none,he⟩,hit,Nat.succ_ne_self _⟩,fun b hb=>?_,q⟩
  have e':b=s1.heap.objs.size+1\/b=s1.heap.objs.size:=by simpa using hb
  have hle:s1.heap.objs.size<=b:=by
   rcases e' with z | z
   ·rw[z];exact Nat.le_add_right _ _
   ·rw[z];exact BS _
  exact I1.wu hle<|I1.C1.fresh hle
end L2
namespace L2
open PySem PySem.Spec PyProof.Rows
noncomputable def inClass(s:Bi)(j:Nat):Bi:=match s with
 | .ClassDef _ _ _ body _ _ _ _ _ _ _=>body.getD j<|.Pass ⟨0,0,0,0⟩
 | _=> .Pass ⟨0,0,0,0⟩
noncomputable def HN(s:Bi):Arguments:=match s with
 | .FunctionDef _ a _ _ _ _ _ _ _ _=>a
 | _=>{posonlyargs:= [],args:= [],vararg:=none,kwonlyargs:= [],kw_defaults:= [],kwarg:=none,defaults:= []}
noncomputable def EO(s:Bi):List Bi:=match s with
 | .FunctionDef _ _ b _ _ _ _ _ _ _=>b
 | _=> []
noncomputable def BZ(s:Bi):FW:=match s with
 | .FunctionDef _ _ _ _ _ _ sc _ _ _=>sc
 | _=>{kind:= .function,names:= [],isGenerator:=false,isCoroutine:=false}
noncomputable abbrev cV:xl:=fun _ _ _ _ _ _=>False
noncomputable abbrev E0:XK:=fun _ _ _=>False
def Gp:Passes cV X E0:=fun _ _ _ _ _ _ _ h=>h.elim
structure Fun(K:AS)(x qual:Str)(st:Bi)(f:AK)(fd:Ff):Prop where
 ex: ∃ oc od kV doc pm an cdv ct osl,
  fd=KG x qual (HN st) (EO st) (BZ st) .none kV doc pm an cdv ct/\K.lookup f=some ⟨oc,od,.func fd,osl⟩/\fY K cdv qual=true
 kp:FT K (.ref f)=true
section
variable{P:BH}{w:Ap}{K:AS}{mg:Str->Option AN}{base:Ay}
def Fun.ok{st:Bi}(F:Fun K x qual st f fd)(S:Ry N ps (BZ st))(len: ∀ vs H Q E,sp vs H Q E->vs.length=ps.length)
  (hbody: ∀ cdv A outer s H vs Q E,EE k (A.deeper<|GK qual (BZ st) s.heap.objs.size f cdv)->sp vs H Q E->
   ∃ t,dX (NC cV P w K mg base N qual (BZ st) f cdv A outer s H E).nox (EO st) t/\t {nx:=fun _ H'=>Q .non H',rt:=Q} (start N vs) H):ES P w K mg base cV (k+1) f fd ps sp:=by
 obtain⟨oc,od,kV,doc,pm,an,cdv,ct,osl,rfl,lk,hcd⟩:=F.ex
 refine AAv lk hcd S len fun A outer s H vs Q E hr hsp=>?_
 obtain⟨t,h,q⟩:=hbody cdv A outer s H vs Q E hr hsp
 exact⟨t,h.nox,q⟩
def Fun.binds{st:Bi}(F:Fun K x qual st f fd)
  (h: ∀ kV doc pm an cdv ct us,us.length=ps.length->eJ (KG x qual (HN st) (EO st) (BZ st) .none kV doc pm an cdv ct) ⟨us,[]⟩=CA (ps.zip us)):Binds K fd ps []:=by
 obtain⟨oc,od,kV,doc,pm,an,cdv,ct,osl,rfl,lk,hcd⟩:=F.ex
 exact .all<|h kV doc pm an cdv ct
def ACt{st:Bi}{kV doc pm cdv ct:AN}(l:K.lookup f=some ⟨oc,od,.func<|KG x qual (HN st) (EO st) (BZ st) .none kV doc pm an cdv ct,osl⟩)
  (c:fY K cdv qual=true) (k:FT K (.ref f)=true):Fun K x qual st f (KG x qual (HN st) (EO st) (BZ st) .none kV doc pm an cdv ct):=⟨⟨oc,od,kV,doc,pm,an,cdv,ct,osl,rfl,l,c⟩,k⟩
end
def AAm(hr:EE k A):A.units+1<MZ:=Er (Nat.add_le_add_left (by decide:1<=64) _) hr.units
section
variable{X:Cx}
def pv(i:Nat){pos:Pos}(hN:X.N[i]?=some x:=by rfl)(hv:wB X.env.scope x:=by first | exact FU rfl | exact DD (FU rfl) | exact DD<|DD rfl)(hd:(x==("__debug__":Str))=false:=by decide)
  (hcd:(x==("__classdict__":Str))=false:=by decide):PE X (.Name x pos) (Jh i):=Qz hN hv hd hcd
end
def AGC{A B:Prop}(h:B):if false=true then A else B:=by
 rw[AG D2]
 exact h
def A7{c A B:Prop} [Decidable c](h1:c->A)(h2: ¬ c->B):if c then A else B:=by
 by_cases h:c
 ·rw[AI h]
  exact h1 h
 ·rw[AG h]
  exact h2 h
def v9{c A B:Prop} [Decidable c](hc:c)(h:B):if(!decide c)=true then A else B:=by
 rw[Av hc]
 exact AGC h
noncomputable def Bc(H H':Hp):Prop:= ∀ b o,H b=some o->H' b=some o
def Bc.refl(H:Hp):Bc H H:=fun _ _ h=>h
def Bc.trans(a:Bc H H1)(b:Bc H1 H2):Bc H H2:=fun c o h=>b c o (a c o h)
theorem Bc.free(e:Bc H H')(h:H' l=mY):H l=mY:=by
 cases q:H l with
 | none=>rfl
 | some o=>
  rw[e l o q]at h
  cases h
section
variable{κ:Type} [DecidableEq κ]
def wD{BU:List (κ×V)}{k:κ}(h:E2 BU k=none): ¬ k∈BU.map (·.1):=by
 intro m
 obtain⟨p,hp,e⟩:=Fd.mp m
 have q:(BU.any fun kv=>decide (kv.1=k))=true:=Wi.mpr ⟨p,hp,Av e⟩
 rw[JX,h]at q
 exact absurd q<|by simp
theorem qh: ∀{l:List κ} {k:κ},l.Nodup-> ¬ k∈l->(l++ [k]).Nodup
 | [],k,_,_=>by simp
 | a::r,k,h,hk=>by
  obtain⟨h1,h2⟩:=PD.mp h
  show(a::(r++ [k])).Nodup
  refine PD.mpr ⟨fun m=>?_,qh h2 fun m=>hk<|Cd.mpr<|DD m⟩
  rcases L7.mp m with q | q
  ·exact h1 q
  ·exact hk<|Cd.mpr<|FU (gA.mp q).symm
def zr{BU:List (κ×V)}{k:κ}(v:V)(hn:(BU.map (·.1)).Nodup)(h:E2 BU k=none):((putK BU k v).map (·.1)).Nodup:=by
 rw[uW v h,FF]
 exact qh hn<|wD h
end
end L2
end
section
namespace GF
open PySem PySem.Spec PyProof.Rows L2
noncomputable def top(i:Nat):Bi:=dY.main.body.getD i (.Pass ⟨0,0,0,0⟩)
end GF
end
section
namespace Dv
open GF
open PySem PySem.W PyProof.Rows
noncomputable abbrev r(a:Nat):AN:= .ref a
noncomputable abbrev i(n:Int)(t:Nat):AN:= .int n t
noncomputable abbrev s(x:String)(t:Nat):AN:= .str (MQ x) t
noncomputable abbrev e(P:CP)(x:String)(t:Nat)(v:AN):Ib:=⟨nO P<|MQ x,.str (MQ x) t,v⟩
noncomputable abbrev f(k:Int)(t:Nat)(v:AN):Ib:=⟨k,.int k t,v⟩
noncomputable def oT(l:List AN):Obj:={cls:= .type "tuple",data:= .seq l.toArray}
noncomputable def oV(c:AN)(l:List AN):Obj:={cls:=c,data:= .fields l.toArray}
noncomputable def oD(l:List Ib)(n:Nat):Obj:={cls:= .type "dict",data:= .dict l.toArray n}
noncomputable def tL(l:List (Int×Nat×AN)):List Ib:=l.map fun x=>f x.1 x.2.1 x.2.2
noncomputable def oP(c:AN)(l:List (Option AN)):Obj:={cls:=c,slots:=l.toArray}
noncomputable def oK(x:String)(bs mro:List AN)(ns:Nat)(l:List (Option AN)):Obj:={cls:= .type "type",data:= .cls {name:=MQ x,bases:=bs,mro:=mro,ns:=ns,qualname:=MQ x},slots:=l.toArray}
noncomputable def stN:Bi->Str
 | .FunctionDef x _ _ _ _ _ _ _ _ _=>x
 | _=>Oz
noncomputable def stL(st:Bi):Nat:=st.pos.line
noncomputable def loc(st:Bi):List Str:=(L2.BZ st).names.filterMap fun x=>match x.2 with
 | .local=>some x.1
 | _=>none
noncomputable def sS(x:Str)(t:Nat):AN:= .str x t
noncomputable def oS(st:Bi)(q:Str):Obj:={cls:= .none,data:= .func {name:=stN st,qualname:=q,params:=L2.HN st,body:= .stmts<|L2.EO st,scope:=L2.BZ st,globals:=0,closure:= [],defaults:= .none,kwdefaults:= .none}}
noncomputable def oF(st:Bi)(q:Str)(m:AN)(c:Nat):Obj:={cls:= .type "function",data:= .func {name:=stN st,qualname:=q,params:=L2.HN st,body:= .stmts<|L2.EO st,scope:=L2.BZ st,globals:=3,closure:= [],defaults:= .none,kwdefaults:= .none,pyModule:=m,code:= .ref c}}
noncomputable def oN:Nat->List Str->List AN
 | _,[]=> []
 | t,x::l=>sS x t::oN (t+1) l
noncomputable def oC(st:Bi)(q:Str)(t:Nat)(l:List AN)(k:Nat):Obj:=oV (.type "code") ([sS (stN st) t,sS q<|t+1,s "/claim/cut.py"<|t+2,i (stL st) 0,i (L2.HN st).args.length 0,i 0 0,i 0 0,i 3 0]++(l++ [i (t+3+k:Nat) 0,i (stL st) 0,s "/claim/cut.py"<|t+4+k]))
noncomputable def d7(st:Bi)(q:Str)(a t:Nat)(m:AN):List Obj:=
 [oT [],oV .none [],oT<|oN (t+3)<|loc st,oT [],oS st q,oC st q t [r a,.bool true,i 181 0,r<|a+1,.none,r<|a+2,r<|a+3,r<|a+4] (loc st).length,oF st q m<|a+5]
noncomputable def d5(st:Bi)(a t:Nat)(m:AN):List Obj:= [oT [],oV .none [],oS st<|stN st,oC st (stN st) t [r a,.bool true,i 181 0,r<|a+1,.none,.none,.none,r<|a+2] 0,oF st (stN st) m<|a+3]
noncomputable abbrev m0:AN:=s "gridfit.faults" 187
noncomputable abbrev m1:AN:=s "gridfit.reckon" 218
noncomputable abbrev m2:AN:=s "gridfit.rounding" 315
noncomputable abbrev m3:AN:=s "gridfit.run" 385
noncomputable abbrev m4:AN:=s "gridfit.flow" 537
noncomputable abbrev m5:AN:=s "gridfit.zones" 744
noncomputable abbrev m6:AN:=s "gridfit.moving" 845
noncomputable abbrev m7:AN:=s "gridfit.points" 917
noncomputable abbrev m8:AN:=s "gridfit.shifting" 1204
noncomputable abbrev m9:AN:=s "gridfit.stack" 1484
noncomputable abbrev US:AN:=s "gridfit.state" 1885
noncomputable abbrev m11:AN:=s "gridfit.carry" 2175
noncomputable abbrev yr:AN:=s "gridfit.ground" 2211
noncomputable abbrev Tg:AN:=s "gridfit.machine" 2313
structure Rw where
 x:Str
 q:Str
 st:Bi
 m:AN
 a:Nat
 t:Nat
noncomputable def w1(k:Nat)(m:AN)(a t:Nat):Rw:=⟨stN<|top k,stN<|top k,top k,m,a,t⟩
noncomputable def w2(k j:Nat)(q:String)(m:AN)(a t:Nat):Rw:=⟨stN<|L2.inClass (top k) j,q,L2.inClass (top k) j,m,a,t⟩
noncomputable def rws:List Rw:= [w2 1 0 "Fault.__init__" m0 28 201,w1 4 m1 41 222,w1 5 m1 48 229,w1 6 m1 55 236,w1 7 m1 62 243,w1 8 m1 69 251,w1 9 m1 76 260,w1 10 m1 83 269,w1 11 m1 90 279,w1 12 m1 97 288,w1 13 m1 104 297,w1 14 m1 111 307,w1 24 m2 118 333,w1 25 m2 125 343,w1 26 m2 132 352,w1 27 m2 139 366,w1 28 m2 146 375,w2 36 0 "Run.__init__" m3 162 413,w2 36 1 "Run.take" m3 169 425,w2 36 2 "Run.take_many" m3 176 432,w2 36 3 "Run.take_loop" m3 183 441,w2 36 4 "Run.give" m3 190 449,w2 36 5 "Run.round_number" m3 197 457,w2 36 6 "Run.zone" m3 204 465,w2 36 7 "Run.point_of_zone" m3 211 473,w2 36 8 "Run.point" m3 218 483,w2 36 9 "Run.reference" m3 225 492,w1 37 m3 239 529,w2 46 0 "Frame.__init__" m4 253 565,w1 47 m4 267 590,w1 48 m4 274 599,w1 49 m4 281 608,w1 50 m4 288 619,w1 51 m4 295 628,w1 52 m4 302 635,w1 53 m4 309 642,w1 54 m4 316 649,w1 55 m4 323 658,w1 56 m4 330 665,w1 57 m4 337 674,w1 58 m4 344 682,w1 59 m4 351 690,w1 60 m4 358 700,w1 61 m4 365 707,w1 63 m4 373 737,w2 68 0 "Point.__init__" m5 387 764,w2 68 1 "Point.twin" m5 394 774,w2 68 2 "Point.put" m5 401 782,w2 68 3 "Point.shift" m5 408 790,w2 68 4 "Point.mark" m5 415 798,w2 68 5 "Point.unmark" m5 422 806,w1 69 m5 434 825,w1 70 m5 439 831,w1 71 m5 446 837,w1 73 m6 453 847,w1 74 m6 460 855,w1 75 m6 467 863,w1 76 m6 474 873,w1 77 m6 481 883,w1 78 m6 488 891,w1 79 m6 495 899,w1 80 m6 502 908,w1 82 m7 509 919,w1 83 m7 516 927,w1 84 m7 523 936,w1 85 m7 530 946,w1 86 m7 537 955,w1 87 m7 544 966,w1 88 m7 551 973,w1 89 m7 558 981,w1 90 m7 565 992,w1 91 m7 572 1001,w1 92 m7 579 1013,w1 93 m7 586 1022,w1 94 m7 593 1031,w1 95 m7 600 1040,w1 96 m7 607 1051,w1 97 m7 614 1061,w1 98 m7 621 1071,w1 99 m7 628 1080,w1 100 m7 635 1093,w1 101 m7 642 1104,w1 102 m7 649 1113,w1 103 m7 656 1125,w1 104 m7 663 1133,w1 105 m7 670 1146,w1 107 m7 679 1197,w1 110 m8 687 1225,w1 111 m8 694 1234,w2 112 0 "Lead.__init__" m8 708 1261,w1 113 m8 722 1282,w1 114 m8 729 1294,w1 115 m8 736 1304,w1 116 m8 743 1312,w1 117 m8 750 1323,w1 118 m8 757 1334,w1 119 m8 764 1343,w1 120 m8 771 1358,w1 121 m8 778 1371,w1 122 m8 783 1382,w1 123 m8 790 1388,w1 124 m8 795 1399,w1 125 m8 802 1405,w1 126 m8 809 1413,w1 127 m8 816 1423,w1 128 m8 823 1433,w1 130 m8 831 1477,w1 132 m9 838 1486,w1 133 m9 845 1495,w1 134 m9 852 1504,w1 135 m9 859 1512,w1 136 m9 866 1519,w1 137 m9 873 1526,w1 138 m9 880 1535,w1 139 m9 887 1542,w1 140 m9 894 1550,w1 141 m9 901 1558,w1 142 m9 908 1566,w1 143 m9 915 1576,w1 144 m9 922 1585,w1 145 m9 929 1593,w1 146 m9 936 1602,w1 147 m9 943 1610,w1 148 m9 950 1618,w1 149 m9 957 1627,w1 150 m9 964 1636,w1 151 m9 971 1644,w1 152 m9 978 1653,w1 153 m9 985 1662,w1 154 m9 992 1669,w1 155 m9 999 1677,w1 156 m9 1006 1685,w1 157 m9 1013 1695,w1 158 m9 1020 1703,w1 159 m9 1027 1710,w1 160 m9 1034 1717,w1 161 m9 1041 1724,w1 162 m9 1048 1731,w1 163 m9 1055 1739,w1 164 m9 1062 1747,w1 165 m9 1069 1754,w1 166 m9 1076 1761,w1 167 m9 1083 1768,w1 169 m9 1093 1878,w1 174 US 1101 1910,w1 175 US 1108 1918,w1 176 US 1115 1926,w1 177 US 1122 1934,w1 178 US 1129 1945,w1 179 US 1136 1956,w1 180 US 1143 1965,w1 181 US 1150 1973,w1 182 US 1157 1980,w1 183 US 1164 1987,w1 184 US 1171 1994,w1 185 US 1178 2002,w1 186 US 1185 2010,w1 187 US 1192 2017,w1 188 US 1199 2024,w1 189 US 1206 2031,w1 190 US 1213 2038,w1 191 US 1220 2045,w1 192 US 1227 2052,w1 193 US 1234 2059,w1 194 US 1241 2066,w1 195 US 1248 2074,w1 197 US 1258 2168,w1 200 m11 1265 2179,w1 201 m11 1272 2187,w1 202 m11 1279 2195,w1 203 m11 1286 2203,w2 205 0 "Kept.__init__" yr 1300 2225,w2 205 1 "Kept.twin" yr 1307 2232,w2 206 0 "Ground.__init__" yr 1328 2267,w1 207 yr 1340 2297,w1 208 yr 1347 2303,w2 219 0 "Calls.__init__" Tg 1361 2348,w2 219 1 "Calls.more" Tg 1368 2356,w2 219 2 "Calls.read_number" Tg 1375 2363,w2 219 3 "Calls.read_row" Tg 1382 2370,w2 220 0 "Machine.__init__" Tg 1403 2400,w1 221 Tg 1417 2423,w1 222 Tg 1424 2430,w1 223 Tg 1431 2441,w1 224 Tg 1436 2450,w1 225 Tg 1443 2456,w1 226 Tg 1450 2467,w1 227 Tg 1457 2479,w1 228 Tg 1464 2489,w1 229 Tg 1471 2501,w1 230 Tg 1478 2515,w1 231 Tg 1485 2527,w1 232 Tg 1492 2535,w1 233 Tg 1499 2544,w1 234 Tg 1506 2554,w1 235 Tg 1513 2565,w1 236 Tg 1520 2575,w1 237 Tg 1527 2586,w1 239 Tg 1535 2621]
noncomputable def r0:Rw:=⟨Oz,Oz,.Pass ⟨0,0,0,0⟩,.none,0,0⟩
noncomputable def tq(t k:Nat):List (Int×Nat)->List (Int×Nat×AN)
 | []=> []
 | x::l=>(x.1,t,r (rws.getD x.2 r0).a)::tq (t+k) k l
noncomputable def dd(n k:Nat):List Obj:=((rws.drop n).take k).flatMap fun x=>d7 x.st x.q (x.a-6) x.t x.m
noncomputable def de(n:Nat):List Obj:=let x:=rws.getD n r0;d5 x.st (x.a-4) x.t x.m
noncomputable def VB:List (Int×Nat):= [(88,33),(27,34),(89,35),(28,37),(120,38),(121,38),(44,39),(45,40),(43,42),(42,43)]
noncomputable def Nt:List (Int×Nat×AN):=tq 716 1 VB
noncomputable def QC:List (Int×Nat):= [(70,62),(71,62),(72,63),(73,64),(74,64),(128,65),(129,66),(130,66),(41,67),(46,69),(47,69),(62,71),(63,71),(58,80),(59,80),(60,81),(39,82),(15,85)]
noncomputable def Kf:List (Int×Nat×AN):=tq 1160 2 QC
noncomputable def JG:List (Int×Nat×AN):= [(93,1206,i 0 1207),(113,1208,i 16 1209),(114,1210,i 32 1211),(115,1212,i 0 1213),(116,1214,i 16 1215),(117,1216,i 32 1217)]
noncomputable def My:List (Int×Nat):= [(57,88),(50,91),(51,91),(52,93),(53,93),(54,94),(55,94),(56,95),(48,100),(49,100),(93,104),(113,104),(114,104),(115,105),(116,105),(117,105)]
noncomputable def IM:List (Int×Nat×AN):=tq 1444 2 My
noncomputable def IW:List (Int×Nat):= [(32,109),(33,110),(34,111),(35,112),(36,113),(37,115),(38,116),(138,117),(64,107),(65,108),(66,118),(67,119),(68,120),(112,120),(69,121),(80,124),(81,124),(82,124),(83,124),(84,124),(85,124),(86,125),(87,125),(90,126),(91,127),(92,128),(96,129),(97,130),(98,131),(99,132),(100,133),(101,134),(102,135),(103,136),(139,137),(140,138),(104,139),(105,139),(106,139),(107,139),(108,140),(109,140),(110,140),(111,140),(75,141),(76,141),(136,142),(126,110),(127,110),(133,110),(141,110)]
noncomputable def Lj:List (Int×Nat×AN):=tq 1775 2 IW
noncomputable def je:List (Int×Nat×AN):= [(24,1891,i 1 1892),(25,1893,i 0 1894),(61,1895,i 2 1896),(125,1897,i 3 1898),(124,1899,i 4 1900),(122,1901,i 5 1902)]
noncomputable def Gj:List (Int×Nat):= [(0,145),(1,145),(2,145),(3,145),(4,145),(5,145),(6,147),(7,147),(8,147),(9,147),(134,148),(135,148),(10,149),(11,149),(12,150),(13,150),(14,151),(16,152),(17,152),(18,152),(19,153),(20,153),(21,153),(22,154),(23,155),(24,156),(25,156),(61,156),(125,156),(124,156),(122,156),(118,157),(119,157),(26,158),(29,159),(30,160),(31,161),(77,162),(78,162),(94,163),(95,164),(142,165)]
noncomputable def Md:List (Int×Nat×AN):=tq 2083 2 ((Gj.drop 0).take 35)++tq 2152 1 ((Gj.drop 35).take 7)
noncomputable def rH:List (Int×Nat):= [(0,182),(1,183),(2,185),(3,186),(4,189),(5,190),(6,193),(7,194),(8,195),(9,196),(10,197)]
noncomputable def fD:List (Int×Nat×AN):=tq 2598 1 rH
structure Kl where
 C:String
 m:AN
 j:Nat
 t:Nat
 b:Nat
 z:Nat
 ms:List Nat
 fs:List String
noncomputable def eS(P:CP)(x:Str)(t:Nat)(v:AN):Ib:=⟨nO P x,.str x t,v⟩
noncomputable def Kl.L(k:Kl):Nat:=stL (top k.j)
noncomputable def mE(P:CP)(k:Nat):Nat->Nat->List Nat->List Ib
 | _,_,[]=> []
 | j,a,x::l=>eS P (stN<|L2.inClass (top k) j) x (r a)::mE P k (j+1) (a+7) l
noncomputable def mL(k:Nat):Nat->Nat->List Nat->List AN
 | _,_,[]=> []
 | j,a,_::l=>i (stL<|L2.inClass (top k) j) 0::i 4 0::r (a-1)::mL k (j+1) (a+7) l
noncomputable abbrev oB(l:List AN):Obj:=oV (.type "builtin_function_or_method") l
noncomputable def cM(P:CP)(k:Kl):List Ib:=e P "__firstlineno__" (k.t+9) (i k.L<|k.t+8)::(mE P k.j 0 (k.b+13) k.ms++ [e P "__static_attributes__" k.z<|r<|k.b+7+7*k.ms.length])
noncomputable def oX(x:String)(L t:Nat)(b:Bool)(a:Nat):Obj:=oV (.type "code") [s x t,s x<|t+1,s "/claim/cut.py"<|t+2,i L 0,i 0 0,i 0 0,i 0 0,i 0 0,r a,.bool b,i 181 0,r<|a+1,.none,.none,.none,.none,i (t+3:Nat) 0,i L 0,s "/claim/cut.py"<|t+4]
noncomputable def oR(a b:Nat)(m:AN):Obj:=oP (.type "frame") [some<|r a,some<|r 3,some<|r b,none,some m,none,some<|r 0]
noncomputable def cA(P:CP)(k:Kl):List Obj:= [oT [],oB [.builtin "type.__prepare__",.type "type"],oD (e P "__module__" (k.t+5) k.m::e P "__qualname__" (k.t+7) (s k.C<|k.t+6)::cM P k)<|k.ms.length+4,oT [],oV .none<|mL k.j 0 (k.b+13) k.ms,oX k.C k.L k.t false<|k.b+3,oR (k.b+5) (k.b+2) k.m]
noncomputable def oG(x:String)(t a:Nat)(l:List AN):Obj:=oV (.type "getset_descriptor") (s x t::r a::l)
noncomputable def cB(P:CP)(k:Kl):List Obj:=
 let p:=k.b+9+7*k.ms.length
 [oT<|oN (k.z-k.fs.length)<|k.fs.map MQ,oD (e P "__module__" (k.t+5) k.m::(cM P k++ [e P "__dict__" (k.z+2)<|r<|p+1,e P "__weakref__" (k.z+4)<|r<|p+2,e P "__doc__" (k.z+5) .none])) 4,oK k.C [.type "object"] [r p,.type "object"] (p-1) [none,none,some<|s k.C<|k.t-2,some<|s k.C<|k.t+6,some<|.builtin "object.__new__",some<|.bool true],oG "__dict__" (k.z+1) p [.builtin "function.__dict__",.builtin "function.__dict__#set"],oG "__weakref__" (k.z+3) p [.builtin "ExceptionGroup.__weakref__",.none],oV (.type "super") [r p,r p,r p],oB [.builtin "object.__init_subclass__",r p]]
noncomputable def g6:Kl:=⟨"Run",m3,36,403,149,521,[424,431,440,448,456,464,472,482,491,500],["after","byte","code","done","font","frames","freedom","functions","ground","kind","loop","old_projection","place","pointers","projection","references","rounding","rounding_byte","stack","whose"]⟩
noncomputable def TJ:Kl:=⟨"Frame",m4,46,555,240,582,[576],["back","code","left","start","whose"]⟩
noncomputable def SJ:Kl:=⟨"Point",m5,68,754,374,817,[773,781,789,797,805,813],["marks","now","old"]⟩
noncomputable def YG:Kl:=⟨"Lead",m8,112,1251,695,1274,[1270],["number","step","zone_number"]⟩
noncomputable def Xj:Kl:=⟨"Kept",yr,205,2215,1287,2247,[2231,2239],["cut_in","delta_base","delta_shift","flip","least","width","width_cut_in"]⟩
noncomputable def N4:Kl:=⟨"Ground",yr,206,2257,1315,2289,[2278],["cells","controls","dots","ends","kept","outline","plain","still","twilight","units"]⟩
noncomputable def Rt:Kl:=⟨"Calls",Tg,219,2338,1348,2380,[2355,2362,2369,2377],["numbers","place"]⟩
noncomputable def Ko:Kl:=⟨"Machine",Tg,220,2390,1390,2415,[2406],["cell_count","font","functions","point_count","shape","size","told_controls","units"]⟩
noncomputable def obs(P:CP):List Obj:=([[oT [.type "Exception"],oB [.builtin "type.__prepare__",.type "type"],oD [e P "__module__" 196<|s "gridfit.faults" 187,e P "__qualname__" 198<|s "Fault" 197,e P "__firstlineno__" 200<|i 2 199,e P "__init__" 208<|r 28,e P "__static_attributes__" 210<|r 29] 5,oT [],oV (.none) [i 4 0,i 4 0,r 27],oX "Fault" 2 191 false 18,oR 20 17<|s "gridfit.faults" 187],
 dd 0 1,
 [oT [s "number" 209],oD [e P "__module__" 196<|s "gridfit.faults" 187,e P "__firstlineno__" 200<|i 2 199,e P "__init__" 208<|r 28,e P "__static_attributes__" 210<|r 29,e P "__weakref__" 212<|r 32,e P "__doc__" 213 .none] 3,oK "Fault" [.type "Exception"] [r 31,.type "Exception",.type "BaseException",.type "object"] 30 [some<|r 15,none,some<|s "Fault" 189,some<|s "Fault" 197,some<|.builtin "Exception.__new__",some<|.bool true],oV (.type "getset_descriptor") [s "__weakref__" 211,r 31,.builtin "ExceptionGroup.__weakref__",.none],oV (.type "super") [r 31,r 31,r 31],oB [.builtin "object.__init_subclass__",r 31]],
 dd 1 16,
 [oT [i 16384 395,i 0 396],oT [i 0 398,i 16384 399]],cA P g6,
 dd 17 10,
 cB P g6,
 dd 27 1,
 cA P TJ,
 dd 28 1,
 cB P TJ,
 dd 29 15,
 [oD (tL Nt) 10],
 dd 44 1,
 cA P SJ,
 dd 45 6,
 cB P SJ,
 de 51,
 de 52,
 dd 53 33,
 [oD (tL Kf) 18,oD [f 15 1194<|r 670] 1],
 dd 86 1,
 [oD (tL JG) 6],
 dd 87 2,
 cA P YG,
 dd 89 1,
 cB P YG,
 dd 90 9,
 de 99,
 dd 100 1,
 de 101,
 dd 102 4,
 [oD (tL IM) 16],
 dd 106 37,
 [oD (tL Lj) 51,oD (tL<|tq 1809 2<|(IW.drop 17).take 17) 17,oD (tL<|tq 1843 2<|(IW.drop 34).take 17) 17],
 dd 143 1,
 [oD (tL je) 6],
 dd 144 22,
 [oD (tL Md) 42,oD (tL<|tq 2117 2<|(Gj.drop 17).take 17) 17,oD (tL<|tq 2151 1<|(Gj.drop 34).take 8) 8],
 dd 166 5,
 cA P Xj,
 dd 171 2,
 cB P Xj,cA P N4,
 dd 173 1,
 cB P N4,
 de 174,
 dd 175 1,
 cA P Rt,
 dd 176 4,
 cB P Rt,cA P Ko,
 dd 180 1,
 cB P Ko,
 dd 181 3,
 de 184,
 dd 185 13,
 [oD (tL fD) 11],
 dd 198 1]:List (List Obj)).flatten
noncomputable def gd(n k:Nat):List (Str×Nat×AN):=((rws.drop n).take k).map fun x=>(x.x,x.t+5+(loc x.st).length,r x.a)
noncomputable def ge(x:String)(t:Nat)(v:AN):Str×Nat×AN:=(MQ x,t,v)
noncomputable def gl0:List (Str×Nat×AN):=([[ge "__doc__" 166 .none,ge "__package__" 167 .none,ge "__loader__" 168<|.builtin "__main__.__loader__#opaque",ge "__spec__" 169 .none,ge "__annotations__" 170<|r 6,ge "__builtins__" 171<|r 4,ge "__file__" 173<|s "/claim/cut.py" 172,ge "__cached__" 174 .none,ge "Fault" 217<|r 31,ge "ONE" 221<|i 16384 220],gd 1 11,[ge "HALF" 318<|i 0 317,ge "GRID" 320<|i 1 319,ge "DOUBLE" 322<|i 2 321,ge "DOWN" 324<|i 3 323,ge "UP" 326<|i 4 325,ge "OFF" 328<|i 5 327,ge "BY_BYTE" 330<|i 6 329,ge "BY_BYTE_ACROSS" 332<|i 7 331],gd 12 5,[ge "FONT" 388<|i 0 387,ge "SIZE" 390<|i 1 389,ge "SHAPE" 392<|i 2 391,ge "STACK_LIMIT" 394<|i 128 393,ge "X_AXIS" 397<|r 147,ge "Y_AXIS" 400<|r 148,ge "Run" 528<|r 228],gd 27 1,[ge "ELSE" 540<|i 27 539,ge "FDEF" 542<|i 44 541,ge "ENDF" 544<|i 45 543,ge "IF" 546<|i 88 545,ge "EIF" 548<|i 89 547,ge "NESTING_LIMIT" 550<|i 8 549,ge "FUNCTION_COUNT" 552<|i 256 551,ge "Frame" 589<|r 256],gd 29 15,[ge "ACTS_flow" 736<|r 366],gd 44 1,[ge "ON_CURVE" 747<|i 1 746,ge "TOUCHED_X" 749<|i 2 748,ge "TOUCHED_Y" 751<|i 4 750,ge "Point" 824<|r 425,ge "points_at_zero" 830<|r 434,ge "twins" 836<|r 439],gd 53 33,[ge "ACTS_points" 1196<|r 671],gd 86 1,[ge "DELTA_STARTS" 1224<|r 680],gd 87 2,[ge "Lead" 1281<|r 711],gd 90 9,[ge "lead_contour" 1387<|r 783],gd 100 1,[ge "take_pairs" 1404<|r 795],gd 102 4,[ge "ACTS_shifting" 1476<|r 824],gd 106 37,[ge "ACTS_stack" 1877<|r 1084],gd 143 1,[ge "LOOP_LIMIT" 1888<|i 65535 1887,ge "SHIFT_LIMIT" 1890<|i 6 1889,ge "WAYS" 1909<|r 1094],gd 144 22,[ge "ACTS_state" 2167<|r 1249],gd 166 1,[ge "INSTRUCTION_LIMIT" 2178<|i 5000 2177],gd 167 4,[ge "Kept" 2254<|r 1310,ge "Ground" 2296<|r 1331,ge "new_ground" 2302<|r 1340],gd 175 1,[ge "CODE_LIMIT" 2316<|i 2048 2315,ge "DONE" 2318<|i 0 2317,ge "OUT_OF_BOUNDS" 2321<|i (-1) 2320,ge "NOT_THE_TIME" 2324<|i (-2) 2323,ge "PROGRAM_FAULT" 2327<|i (-5) 2326,ge "CELLS" 2329<|i 0 2328,ge "CONTROLS" 2331<|i 1 2330,ge "OLD_X" 2333<|i 2 2332,ge "OLD_Y" 2335<|i 3 2334,ge "Calls" 2387<|r 1385,ge "Machine" 2422<|r 1406],gd 181 3,[ge "ground_of" 2455<|r 1436],gd 185 13,[ge "CALLS" 2620<|r 1528],gd 198 1]:List (List _)).flatten
noncomputable def gl(P:CP):List Ib:=gl0.map fun x=>eS P x.1 x.2.1 x.2.2
noncomputable def glO(P:CP)(m:AN)(n:Nat):Obj:=oD (e P "__name__" 165 m::(gl P).take (n-1)) n
noncomputable def cs:List AN:=([(2,20),(9,40),(11,47),(13,54),(15,61),(17,68),(19,75),(27,82),(31,89),(36,96),(38,103),(43,110),(54,117),(62,124),(67,131),(74,138),(88,145),(98,154),(162,238),(174,245),(182,266),(193,273),(198,280),(210,287),(219,294),(222,301),(224,308),(226,315),(231,322),(233,329),(238,336),(246,343),(258,350),(270,357),(272,364),(277,372),(283,379),(307,433),(309,438),(311,445),(314,452),(316,459),(318,466),(321,473),(324,480),(326,487),(333,494),(336,501),(339,508),(342,515),(348,522),(353,529),(357,536),(366,543),(368,550),(371,557),(378,564),(381,571),(395,578),(400,585),(406,592),(411,599),(417,606),(424,613),(429,620),(431,627),(445,634),(454,641),(458,648),(466,655),(468,662),(475,669),(486,678),(494,686),(500,693),(510,700),(516,721),(523,728),(528,735),(530,742),(537,749),(543,756),(547,763),(558,770),(564,777),(569,782),(577,789),(582,794),(586,801),(588,808),(592,815),(597,822),(604,830),(607,837),(611,844),(615,851),(619,858),(621,865),(623,872),(628,879),(630,886),(635,893),(638,900),(641,907),(648,914),(652,921),(655,928),(661,935),(664,942),(666,949),(678,956),(682,963),(685,970),(689,977),(693,984),(695,991),(698,998),(701,1005),(708,1012),(711,1019),(713,1026),(715,1033),(717,1040),(719,1047),(722,1054),(725,1061),(727,1068),(729,1075),(731,1082),(734,1092),(744,1100),(747,1107),(753,1114),(757,1121),(766,1128),(773,1135),(780,1142),(784,1149),(786,1156),(788,1163),(790,1170),(793,1177),(798,1184),(800,1191),(803,1198),(805,1205),(807,1212),(809,1219),(811,1226),(813,1233),(815,1240),(820,1247),(830,1257),(834,1264),(845,1271),(854,1278),(866,1285),(873,1292),(894,1320),(907,1339),(910,1346),(927,1353),(944,1395),(955,1416),(958,1423),(972,1430),(979,1435),(982,1442),(994,1449),(1006,1456),(1013,1463),(1020,1470),(1036,1477),(1047,1484),(1053,1491),(1059,1498),(1067,1505),(1074,1512),(1078,1519),(1083,1526),(1090,1534)]:List (Nat×Nat)).flatMap fun p=> [i p.1 0,i 0 0,r p.2]
noncomputable def csO(n:Nat):Obj:=oV .none (cs.take n)
noncomputable def h13(P:CP):List Obj:= [oX "<module>" 1 182 false 11,oR 13 3<|s "__main__" 164]
noncomputable def h2(P:CP):Obj:={cls:= .none,data:= .dict [e P "type.__subclasses__.Exception.0" 214<|i 31 0,e P "type.__subclasses__.Exception.n" 215<|i 1 0].toArray 2}
noncomputable def hs(P:CP)(n k:Nat)(m:AN)(c:Nat):List Obj:=
 [boot_o_0 P,boot_o_1 P,h2 P,glO P m k,boot_o_4 P,boot_o_5 P,boot_o_6 P,boot_o_7 P,boot_o_8 P,boot_o_9 P,boot_o_10 P,oT [],csO c]++(h13 P++(obs P).take (n-15))
noncomputable def hs0(P:CP):List Obj:= [boot_o_0 P,boot_o_1 P,boot_o_2 P,boot_o_3 P,boot_o_4 P,boot_o_5 P,boot_o_6 P,boot_o_7 P,boot_o_8 P,boot_o_9 P,boot_o_10 P,oT [],csO 0]++h13 P
noncomputable def alt:List Obj->List Obj
 | []=> []
 | [x]=> [x]
 | x::_::l=>x::alt l
noncomputable def tree:Nat->List Obj->BT
 | 0,_=> .nil
 | _,[]=> .nil
 | k+1,x::l=> .node x (tree k<|alt l)<|tree k<|alt l.tail
end Dv
end
section
namespace Dv
open PySem PySem.W PySem.Calls PyProof.Rows
noncomputable abbrev pw:BH:=dY
noncomputable def bE:List Bi:=behindTheImports pw
noncomputable def ev:Env:={scope:=pw.main.scope,locals:=mainNs,globals:=mainNs,cells:= [],code:= .ref 13,frame:=some 14}
noncomputable abbrev p0:Pos:=⟨0,0,0,0⟩
noncomputable abbrev ann:Option AN:=some (.ref 6)
noncomputable def sT(w:Ap)(n k:Nat)(m:AN)(c t:Nat)(os:C7):EF:=⟨tree 12<|hs w.params n k m c,n,{},#[],{},t,os⟩
noncomputable def s0T(w:Ap)(os:C7):EF:=⟨tree 12<|hs0 w.params,15,{},#[],{},187,os⟩
noncomputable def Pc(a l N:Nat)(p1 p2:Pos)(S T:Ap->C7->EF)(w:Ap):Prop:=
 (fun(p:BH) (b:List Bi) os=>segRunT HQ p w 11 ann 1 N (S w os)<|piecesOf ((bE.drop a).take l) ev (Sl b ev) p1 [Jw p0])=fun p b os=>some (dc,T w os,Sl b ev,p2)
noncomputable def Iz(a l N:Nat)(p1 p2:Pos)(S T:Ap->C7->EF)(w:Ap):Prop:=
 (fun(p:BH) (b:List Bi) os=>yb yQ p w 11 ann 1 N (S w os)<|piecesOf ((bE.drop a).take l) ev (Sl b ev) p1 [Jw p0])=fun p b os=>some (dc,T w os,Sl b ev,p2)
def Iz.pc{a l N:Nat}{p1 p2:Pos}{S T:Ap->C7->EF}{w:Ap}(h:Iz a l N p1 p2 S T w):Pc a l N p1 p2 S T w:=by
 unfold Pc
 rw[zo,AAG]
 exact h
noncomputable def S4(w:Ap)(os:C7):EF:=sT w 233 42 (s "gridfit.run" 385) 54 529 os
noncomputable def S6(w:Ap)(os:C7):EF:=sT w 366 66 (s "gridfit.flow" 537) 105 716 os
noncomputable def S7(w:Ap)(os:C7):EF:=sT w 374 71 (s "gridfit.zones" 744) 108 752 os
noncomputable def S11(w:Ap)(os:C7):EF:=sT w 671 107 (s "gridfit.points" 917) 216 1160 os
noncomputable def S13(w:Ap)(os:C7):EF:=sT w 716 113 (s "gridfit.shifting" 1204) 228 1282 os
noncomputable def S14(w:Ap)(os:C7):EF:=sT w 796 125 (s "gridfit.shifting" 1204) 264 1405 os
noncomputable def S15(w:Ap)(os:C7):EF:=sT w 832 131 (s "gridfit.stack" 1484) 279 1486 os
noncomputable def S18(w:Ap)(os:C7):EF:=sT w 1084 167 (s "gridfit.stack" 1484) 387 1775 os
noncomputable def S20(w:Ap)(os:C7):EF:=sT w 1151 180 (s "gridfit.state" 1885) 414 1980 os
noncomputable def S22(w:Ap)(os:C7):EF:=sT w 1249 194 (s "gridfit.state" 1885) 456 2083 os
noncomputable def S23(w:Ap)(os:C7):EF:=sT w 1252 195 (s "gridfit.state" 1885) 456 2168 os
noncomputable def S28(w:Ap)(os:C7):EF:=sT w 1444 221 (s "gridfit.machine" 2313) 504 2467 os
noncomputable def S29(w:Ap)(os:C7):EF:=sT w 1528 233 (s "gridfit.machine" 2313) 540 2598 os
noncomputable def yB(w:Ap)(os:C7):EF:=sT w 1536 235 (s "gridfit.machine" 2313) 543 2632 os
def q0(w:Ap):Iz 0 37 1440 ⟨0,0,0,0⟩ ⟨98,0,161,58⟩ s0T S4 w:=by unfold Iz;kernel_rfl
def pc0(w:Ap):Pc 0 37 1440 ⟨0,0,0,0⟩ ⟨98,0,161,58⟩ s0T S4 w:=(q0 w).pc
def q1(w:Ap):Iz 37 25 789 ⟨98,0,161,58⟩ ⟨272,0,275,29⟩ S4 S6 w:=by unfold Iz;kernel_rfl
def pc1(w:Ap):Pc 37 25 789 ⟨98,0,161,58⟩ ⟨272,0,275,29⟩ S4 S6 w:=(q1 w).pc
def q2f(w:Ap):Iz 62 6 216 ⟨272,0,275,29⟩ ⟨282,0,282,9⟩ S6 S7 (w.withFollow "special-get-raises" false):=by unfold Iz;kernel_rfl
def q2t(w:Ap):Iz 62 6 216 ⟨272,0,275,29⟩ ⟨282,0,282,9⟩ S6 S7 (w.withFollow "special-get-raises" true):=by unfold Iz;kernel_rfl
def pc2(w:Ap):Pc 62 6 216 ⟨272,0,275,29⟩ ⟨282,0,282,9⟩ S6 S7 w:=(Oe "special-get-raises" (P:=Iz 62 6 216 ⟨272,0,275,29⟩ ⟨282,0,282,9⟩ S6 S7) q2f q2t w).pc
def q3(w:Ap):Iz 68 38 1502 ⟨282,0,282,9⟩ ⟨475,0,484,37⟩ S7 S11 w:=by unfold Iz;kernel_rfl
def pc3(w:Ap):Pc 68 38 1502 ⟨282,0,282,9⟩ ⟨475,0,484,37⟩ S7 S11 w:=(q3 w).pc
def q4f(w:Ap):Iz 106 7 696 ⟨475,0,484,37⟩ ⟨510,0,515,24⟩ S11 S13 (w.withFollow "special-get-raises" false):=by unfold Iz;kernel_rfl
def q4t(w:Ap):Iz 106 7 696 ⟨475,0,484,37⟩ ⟨510,0,515,24⟩ S11 S13 (w.withFollow "special-get-raises" true):=by unfold Iz;kernel_rfl
def pc4(w:Ap):Pc 106 7 696 ⟨475,0,484,37⟩ ⟨510,0,515,24⟩ S11 S13 w:=(Oe "special-get-raises" (P:=Iz 106 7 696 ⟨475,0,484,37⟩ ⟨510,0,515,24⟩ S11 S13) q4f q4t w).pc
def q5(w:Ap):Iz 113 12 384 ⟨510,0,515,24⟩ ⟨582,0,585,83⟩ S13 S14 w:=by unfold Iz;kernel_rfl
def pc5(w:Ap):Pc 113 12 384 ⟨510,0,515,24⟩ ⟨582,0,585,83⟩ S13 S14 w:=(q5 w).pc
def q6f(w:Ap):Iz 125 7 401 ⟨582,0,585,83⟩ ⟨606,0,606,8⟩ S14 S15 (w.withFollow "special-get-raises" false):=by unfold Iz;kernel_rfl
def q6t(w:Ap):Iz 125 7 401 ⟨582,0,585,83⟩ ⟨606,0,606,8⟩ S14 S15 (w.withFollow "special-get-raises" true):=by unfold Iz;kernel_rfl
def pc6(w:Ap):Pc 125 7 401 ⟨582,0,585,83⟩ ⟨606,0,606,8⟩ S14 S15 w:=(Oe "special-get-raises" (P:=Iz 125 7 401 ⟨582,0,585,83⟩ ⟨606,0,606,8⟩ S14 S15) q6f q6t w).pc
def q7(w:Ap):Iz 132 36 1082 ⟨606,0,606,8⟩ ⟨731,0,732,46⟩ S15 S18 w:=by unfold Iz;kernel_rfl
def pc7(w:Ap):Pc 132 36 1082 ⟨606,0,606,8⟩ ⟨731,0,732,46⟩ S15 S18 w:=(q7 w).pc
def q8f(w:Ap):Iz 168 14 1334 ⟨731,0,732,46⟩ ⟨784,0,785,32⟩ S18 S20 (w.withFollow "special-get-raises" false):=by unfold Iz;kernel_rfl
def q8t(w:Ap):Iz 168 14 1334 ⟨731,0,732,46⟩ ⟨784,0,785,32⟩ S18 S20 (w.withFollow "special-get-raises" true):=by unfold Iz;kernel_rfl
def pc8(w:Ap):Pc 168 14 1334 ⟨731,0,732,46⟩ ⟨784,0,785,32⟩ S18 S20 w:=(Oe "special-get-raises" (P:=Iz 168 14 1334 ⟨731,0,732,46⟩ ⟨784,0,785,32⟩ S18 S20) q8f q8t w).pc
def q9(w:Ap):Iz 182 14 412 ⟨784,0,785,32⟩ ⟨820,0,828,31⟩ S20 S22 w:=by unfold Iz;kernel_rfl
def pc9(w:Ap):Pc 182 14 412 ⟨784,0,785,32⟩ ⟨820,0,828,31⟩ S20 S22 w:=(q9 w).pc
def AFX(w:Ap):Iz 196 1 763 ⟨820,0,828,31⟩ ⟨829,0,829,10⟩ S22 S23 (w.withFollow "special-get-raises" false):=by unfold Iz;kernel_rfl
def AF_(w:Ap):Iz 196 1 763 ⟨820,0,828,31⟩ ⟨829,0,829,10⟩ S22 S23 (w.withFollow "special-get-raises" true):=by unfold Iz;kernel_rfl
def AGD(w:Ap):Pc 196 1 763 ⟨820,0,828,31⟩ ⟨829,0,829,10⟩ S22 S23 w:=(Oe "special-get-raises" (P:=Iz 196 1 763 ⟨820,0,828,31⟩ ⟨829,0,829,10⟩ S22 S23) AFX AF_ w).pc
def q11(w:Ap):Iz 197 29 1531 ⟨829,0,829,10⟩ ⟨982,0,993,17⟩ S23 S28 w:=by unfold Iz;kernel_rfl
def AFv(w:Ap):Pc 197 29 1531 ⟨829,0,829,10⟩ ⟨982,0,993,17⟩ S23 S28 w:=(q11 w).pc
def q12(w:Ap):Iz 226 12 396 ⟨982,0,993,17⟩ ⟨1083,0,1088,52⟩ S28 S29 w:=by unfold Iz;kernel_rfl
def AFi(w:Ap):Pc 226 12 396 ⟨982,0,993,17⟩ ⟨1083,0,1088,52⟩ S28 S29 w:=(q12 w).pc
def AFL(w:Ap):Iz 238 2 198 ⟨1083,0,1088,52⟩ ⟨1090,0,1098,15⟩ S29 yB (w.withFollow "special-get-raises" false):=by unfold Iz;kernel_rfl
def AFs(w:Ap):Iz 238 2 198 ⟨1083,0,1088,52⟩ ⟨1090,0,1098,15⟩ S29 yB (w.withFollow "special-get-raises" true):=by unfold Iz;kernel_rfl
def AGA(w:Ap):Pc 238 2 198 ⟨1083,0,1088,52⟩ ⟨1090,0,1098,15⟩ S29 yB w:=(Oe "special-get-raises" (P:=Iz 238 2 198 ⟨1083,0,1088,52⟩ ⟨1090,0,1098,15⟩ S29 yB) AFL AFs w).pc
end Dv
end
section
namespace Dv
open PySem PySem.W PySem.Calls PyProof.Rows
theorem fX: ∀ l j,(alt l)[j]?=l[2*j]?
 | [],j=>by simp[alt]
 | [x],0=>rfl
 | [x],j+1=>by
  show([]:List Obj)[j]?= [x][2*j+1+1]?
  simp
 | x::y::l,0=>rfl
 | x::y::l,j+1=>by
  show(alt l)[j]?=(x::y::l)[2*j+1+1]?
  rw[fX l j,Ru,Ru]
theorem ft: ∀ l,(alt l).length=(l.length+1)/2
 | []=>rfl
 | [x]=>by simp[alt]
 | x::y::l=>by
  show(alt l).length+1=(l.length+1+1+1)/2
  rw[ft l]
  lia
theorem TM: ∀ k l a,l.length<2^k->(tree k l).get a=l[a]?
 | 0,l,a,h=>by
  have:l= []:=List.length_eq_zero_iff.mp<|by lia
  subst this
  rfl
 | k+1,[],a,_=>rfl
 | k+1,x::l,a,h=>by
  have hl:l.length+1<2^k*2:=by rw[<-oz];exact h
  match a with
  | 0=>rfl
  | a+1=>
   show(match bq (a+1) 0 with
    | true=>some x
    | false=>match bq ((a+1)%2) 1 with
     | true=>(tree k<|alt l).get<|(a+1)/2
     | false=>(tree k<|alt l.tail).get<|(a+1)/2-1)=(x::l)[a+1]?
   show(match bq ((a+1)%2) 1 with
     | true=>(tree k<|alt l).get<|(a+1)/2
     | false=>(tree k<|alt l.tail).get<|(a+1)/2-1)=(x::l)[a+1]?
   rw[Ru]
   rcases Nat.mod_two_eq_zero_or_one (a+1)with e | e
   ·rw[e]
    show(tree k<|alt l.tail).get ((a+1)/2-1)=l[a]?
    have e1:2*((a+1)/2-1)=a-1:=by lia
    rw[TM k _ _<|by rw[ft,List.length_tail];lia,fX,List.getElem?_tail,show 2*((a+1)/2-1)+1=a by lia]
   ·rw[e]
    show(tree k<|alt l).get ((a+1)/2)=l[a]?
    rw[TM k _ _<|by rw[ft];lia,fX,show 2*((a+1)/2)=a by lia]
noncomputable def num:Nat->List Obj->AS
 | _,[]=> []
 | n,x::l=>(n,x)::num (n+1) l
theorem YW: ∀ l (n a:Nat) o,(num n l).lookup a=some o->n<=a/\l[a-n]?=some o
 | [],_,_,_,h=>by cases h
 | x::l,n,a,o,h=>by
  have h:(match a==n with
   | true=>some x
   | false=>(num (n+1) l).lookup a)=some o:=h
  cases e:a==n with
  | true=>
   rw[e]at h
   have:a=n:=FL e
   subst this
   exact⟨BS _,by rw[Rp];exact h⟩
  | false=>
   rw[e]at h
   obtain⟨h1,h2⟩:=YW l (n+1) a o h
   refine⟨by lia,?_⟩
   rw[show a-n=(a- (n+1))+1 by lia,Ru]
   exact h2
noncomputable def hK(P:CP):List Obj:=hs P 1536 235 (s "gridfit.machine" 2313) 543
noncomputable def H1(P:CP):Ay:=absHeap (tree 12<|hK P) 1536 {}
noncomputable def KK(P:CP):AS:=num 0 (hK P)
def jm(P:CP):(hK P).length=1536:=by kernel_rfl
noncomputable def nf(o:Obj):Bool:=match o.data with
 | .freed=>false
 | _=>true
def vI(h:nf o=true):alive o=some o:=by
 obtain⟨c,d,da,sl⟩:=o
 cases da<;>first | rfl | cases h
def wU(P:CP):(hK P).all nf=true:=by kernel_rfl
def AGI(P:CP):(KK P).In (H1 P):=fun a o e=>by
 obtain⟨_,h⟩:=YW _ _ _ _ e
 rw[Nat.sub_zero]at h
 have la:a<1536:=by
  rw[<-jm P]
  exact(IZ.mp h).1
 unfold H1
 rw[abs_get la<|(TM 12 _ _<|by rw[jm];decide).trans h]
 exact vI<|F7.mp (wU P) o<|PZ h
noncomputable abbrev cE:Code:=Sl bE ev
noncomputable abbrev S0(w:Ap)(os:C7):Az:=⟨MI w.params,Ro [],boot_drawn,boot_toks,os⟩
def AB6: ∀ w,(fun os=>topGo HQ pw w 11 ann 12 (S0 w os)<|topStub pw)=fun os=>some ((s0T w os).abs,⟨denote HQ cE,cE,p0,[Jw p0]⟩):=by intro w;kernel_rfl
def ABP: ∀ w,(fun os=>segRun HQ pw w 11 ann 1 1 (s0T w os).abs<|blockOf bE ev cE p0 [Jw p0])=fun os=>some (dc,(s0T w os).abs,cE,p0):=by intro w;kernel_rfl
def AGF: ∀ w,(fun os=>PK HQ pw w 11 ann 2 (yB w os).abs<|XC [] ev cE ⟨1090,0,1098,15⟩ [Jw p0])=fun os=>some (yB w os).abs:=by intro w;kernel_rfl
def AF6:bE.drop 240= []:=by kernel_rfl
def KN{os:C7}{r:Az}(h:Pc a l N p1 p2 S T w)(k:PK HQ pw w 11 ann M (T w os).abs (XC (bE.drop<|a+l) ev cE p2 [Jw p0])=some r):
  PK HQ pw w 11 ann (N+M) (S w os).abs (XC (bE.drop a) ev cE p1 [Jw p0])=some r:=by
 have e:(bE.drop a).take l++bE.drop (a+l)=bE.drop a:=by rw[<-FJ,List.take_append_drop]
 rw[<-e]
 exact piece_app (segRun_of<|La (La (La h pw) bE) os) k
def AFw: ∃ M,Nat.ble M 30000=true/\ ∀ w os,PK HQ pw w 11 ann M (S0 w os) (topStub pw)=some (yB w os).abs:=by
 refine⟨_,rfl,fun w os=>go_top (La (AB6 w) os)<|piece_block (La (ABP w) os) (?_:PK HQ pw w 11 ann (1440+(789+(216+(1502+(696+(384+(401+(1082+(1334+(412+(763+(1531+(396+(198+2)))))))))))))) _ _=_)⟩
 have f:PK HQ pw w 11 ann 2 (yB w os).abs (XC (bE.drop 240) ev cE ⟨1090,0,1098,15⟩ [Jw p0])=some (yB w os).abs:=by rw[AF6];exact La (AGF w) os
 have z:=KN (pc0 w)<|KN (pc1 w)<|KN (pc2 w)<|KN (pc3 w)<|KN (pc4 w)<|KN (pc5 w)<|KN (pc6 w)<|KN (pc7 w)<|KN (pc8 w)<|KN (pc9 w)<|KN (AGD w)<|KN (AFv w)<|KN (AFi w)<|KN (AGA w) f
 rwa[G0]at z
noncomputable def qS:BH:={pw with main:={pw.main with body:= [pw.main.body.getD 239<|.Pass p0]}}
noncomputable def fR:List Str:=pw.boundNames.filter fun n=>n !="answers"
noncomputable abbrev S1(w:Ap)(os:C7):Az:=⟨H1 w.params,Ro [],{},2632,os⟩
noncomputable abbrev XtS:Az->Bool:=fun s=>xlAt qS [] s&&recOk [] s
def k1: ∀ w:Ap,staticsOk (fw pw.main.body) (MI w.params) (H1 w.params)=true:=by intro w;kernel_rfl
def k2: ∀ w:Ap,namesBound pw (H1 w.params)=true:=by intro w;kernel_rfl
def k3: ∀ w os,gensDone (S1 w os)=true:=by intro w os;kernel_rfl
def k4: ∀ w:Ap,laidKept (MI w.params) (H1 w.params)=true:=by intro w;kernel_rfl
def k5: ∀ w,(fun os=>openSeen qS fR (fw pw.main.body) XtS true<|S1 w os)=fun _=>openGood qS fR:=by intro w;kernel_rfl
def ksz: ∀ w:Ap,((MI w.params).isNs GW&&(Ro []:Array Oj).size==0,(MI w.params).objs.size,(MI w.params).nsMap GW "__annotations__")=(true,11,ann):=by intro w;kernel_rfl
def hlN:LeftO pw qS fR XtS (fun s=>s.heap) (fun w=>H1 w.params) 30000:=by
 obtain⟨M,le,run⟩:=AFw
 refine LeftO.of_pieces (H₀:=MI) (H₁:=H1) (gs₀:=Ro []) (gs₁:=Ro []) (d₀:=boot_drawn) (d₁:={}) (k₀:=boot_toks) (k₁:=2632) (m₀:=11) (ann:=ann) (M:=M) (boot_open (by kernel_rfl) rfl fun s=>by kernel_rfl) ksz run le fun w=>?_
 funext os
 rw[k1 w,k2 w,k3 w os,k4 w,La (k5 w) os]
 rfl
def d1:(chainsOk qS&&opensWell XE.prog)=true:=by decide+kernel
end Dv
end
section
namespace GF
open PySem
noncomputable def TrD(h base:Ay)(e:AK)(cls:AN)(dd:Option AK)(fl:AN):Prop:=
 ∃ vs sl T oT ts,h.get? e=some ⟨cls,dd,.fields vs,sl⟩/\vs[1]?=some (.ref T)/\base.get? T=none/\T≠e/\
  h.get? T=some oT/\oT.data= .fields ts/\ts[3]?=some fl
structure NV(base:Ay)(l:List Env)(e:AK)(cls:AN)(dd:Option AK)(fl:AN)(h:Ay):Prop where
 Px:base.StaysIn h
 new:base.get? e=none
 CM:h.FunFrames base l
 tr:TrD h base e cls dd fl
def vm{h:Ay}(f:Array AN->Array AN)(e:h.get? a=some ⟨c,d,.fields vs,sl⟩):
  (h.update a<|W4 f).get? a=some ⟨c,d,.fields<|f vs,sl⟩:=by
 have q:=WA (W4 f) e<|qb<|Obj.data_mapFields rfl f
 exact q
def GR{h:Ay}(f:Array AN->Array AN)(n:b≠a):(h.update a<|W4 f).get? b=h.get? b:=V_ _ _ (Ei n)
section
variable{M:Model}{A:De}{E:AN->Az->Prop}{s:Az}
def vc
  (hA:A.frames=some (env::outer)) (hF:s.heap.FunFrames base (env::outer)) (hL:env.frame=some L) (he:s.heap.get? e=some ⟨cls,dd,.fields vs,sl⟩)
  (st:base.StaysIn s.heap) (nw:base.get? e=none) (sz:1<vs.size)
  (k: ∀ h',NV base (env::outer) e cls dd (rawInt L) h'->s.heap.UpToSlots h'->Q () {s with heap:=h'}):
  Aw M A (do let a <-frameOf env;let pl <-entryPlaceOf L hn;let b <-nY head a .none (rawInt L) .none pl;setField (.ref e) 1 b) Q E s:=by
 have hne:e∉(env::outer).filterMap (·.frame):=fun z=>by
  obtain⟨_,o,q,nf⟩:=hF.mem z
  rw[he]at q
  cases q
  exact nf vs rfl
 refine BP<|wpAny_frameOf_fun hA hF hL fun h1 so=>BP<|wpAny_entryPlaceOf fun pl ip=>?_
 unfold nY newFields
 refine BP<|qM ?_<|ip.sizeOk5 _ _ _ _ _
 generalize hcells:([head,.ref L,.none,rawInt L,.none]++(if pl.isEmpty then Ed 6 Sd else pl)).toArray=ts
 have t3:ts[3]?=some (rawInt L):=by rw[<-hcells];simp
 have e1:=(so.2.1 e hne).trans he
 have b1:base.StaysIn h1:=fun b o q=>(so.2.1 b fun z=>by rw[(hF.mem z).1]at q;cases q).trans<|st b o q
 have nT:=Wo<|Bz e1
 have e2:=CW {cls:= .type "traceback",dict:=none,data:= .fields ts} e1
 refine eQ e2 rfl sz<|k _ ?_ ?_
 ·have keep: ∀ b o,b≠e->h1.get? b=some o->((h1.push {cls:= .type "traceback",dict:=none,data:= .fields ts}).update e<|W4 (·.setIfInBounds 1 (CL h1.objs.size))).get? b=some o:=
   fun b o n q=>(GR _ n).trans<|CW _ q
  refine⟨fun b o q=>keep b o (fun z=>by rw[z,nw]at q;cases q)<|b1 b o q,nw,hF.of_keeps fun b o q nf=>?_,_,sl,h1.objs.size,_,ts,vm _ e2,by simp[sz],b1.fresh,nT,(GR _ nT).trans<|FP h1 rfl,rfl,t3⟩
  ·obtain⟨sl',q'⟩:=so.2.2 b o q
   exact⟨_,keep b _ (fun z=>by rw[z,he]at q;cases q;exact nf vs rfl) q',rfl⟩
 ·intro b o q nf
  obtain⟨sl',q'⟩:=so.2.2 b o q
  exact⟨sl',(GR _ fun z=>by rw[z,he]at q;cases q;exact nf vs rfl).trans<|CW _ q'⟩
def g7
  (hA:A.frames=some (env::outer)) (hF:s.heap.FunFrames base (env::outer)) (hL:env.frame=some L) (he:s.heap.get? e=some ⟨cls,dd,.fields vs,sl⟩) (h1:vs[1]?=some .none)
  (st:base.StaysIn s.heap) (nw:base.get? e=none)
  (k: ∀ h',NV base (env::outer) e cls dd (rawInt L) h'->s.heap.UpToSlots h'->Q () {s with heap:=h'}):Aw M A (WS (.ref e) env) Q E s:=by
 unfold WS
 simp only[hL]
 refine BP<|Sk he rfl h1 ?_
 rw[AG<|by decide]
 exact vc hA hF hL he st nw (WJ.mp h1).1 k
def X0
  (hA:A.frames=some (env::outer)) (hL:env.frame=some L) (F:NV base (env::outer) e cls dd .none s.heap)
  (k: ∀ h',NV base (env::outer) e cls dd (rawInt L) h'->s.heap.UpToSlots h'->Q () {s with heap:=h'}):Aw M A (WS (.ref e) env) Q E s:=by
 obtain⟨st,nw,hF,vs,sl,T,oT,ts,he,h1,hT,ne,oTe,dT,t3⟩:=F
 unfold WS
 simp only[hL]
 refine BP<|Sk he rfl h1 ?_
 rw[AI<|by simp]
 refine BP<|Sk oTe dT t3 ?_
 rw[AG<|by simp[rawInt]]
 refine BP<|eQ oTe dT (WJ.mp t3).1 ?_
 have nf: ∀ b o,s.heap.get? b=some o->(∀ ws,o.data≠ .fields ws)->b≠T:=fun b o q n z=>by rw[z,oTe]at q;cases q;exact n ts dT
 refine vc hA (hF.of_keeps fun b o q n=>⟨o,(GR _<|nf b o q n).trans q,rfl⟩) hL ((GR _<|Ei ne).trans he)
  (fun b o q=>(GR _ fun z=>by rw[z,hT]at q;cases q).trans<|st b o q) nw (WJ.mp h1).1 fun h' F' U=>k h' F' fun b o q n=>U b o ((GR _<|nf b o q n).trans q) n
def nB(F:NV base l e cls dd fl s.heap)
  (k: ∀ h',NV base l e cls dd .none h'->s.heap.UpToSlots h'->Q () {s with heap:=h'}):Aw M A (setFlight (.ref e) none) Q E s:=by
 obtain⟨st,nw,hF,vs,sl,T,oT,ts,he,h1,hT,ne,oTe,dT,t3⟩:=F
 have s3:=(WJ.mp t3).1
 have nf: ∀ b o,s.heap.get? b=some o->(∀ ws,o.data≠ .fields ws)->b≠T:=fun b o q n z=>by rw[z,oTe]at q;cases q;exact n ts dT
 unfold setFlight
 refine BP<|Sk he rfl h1 ?_
 rw[AI<|by simp]
 refine eQ oTe dT s3<|k _ ⟨fun b o q=>(GR _ fun z=>by rw[z,hT]at q;cases q).trans<|st b o q,nw,hF.of_keeps fun b o q n=>⟨o,(GR _<|nf b o q n).trans q,rfl⟩,?_⟩ fun b o q n=>⟨o.slots,(GR _<|nf b o q n).trans q⟩
 ·obtain⟨cT,dT',daT,slT⟩:=oT
  obtain rfl:daT= .fields ts:=dT
  exact⟨vs,sl,T,_,_,(GR _<|Ei ne).trans he,h1,hT,ne,vm _ oTe,rfl,by simp[s3]⟩
def NV.out(F:NV base (env::outer) e cls dd fl h):NV base outer e cls dd fl h:=
 ⟨F.Px,F.new,F.CM.2.2,F.tr⟩
def cN
  (hA:A.frames=some (env::outer)) (hF:s.heap.FunFrames base (env::outer)) (hL:env.frame=some L) (he:s.heap.get? e=some ⟨cls,dd,.fields vs,sl⟩) (h1:vs[1]?=some .none)
  (st:base.StaysIn s.heap) (nw:base.get? e=none)
  (k: ∀ h',NV base outer e cls dd .none h'->s.heap.UpToSlots h'->Q () {s with heap:=h'}):Aw M A («leaving» env<|.ref e) Q E s:=by
 unfold «leaving»
 exact BP<|g7 hA hF hL he h1 st nw fun h' F U=>nB F fun h'' F' U'=>k h'' F'.out<|U.trans U'
def iP
  (hA:A.frames=some (env::outer)) (hL:env.frame=some L) (F:NV base (env::outer) e cls dd .none s.heap)
  (k: ∀ h',NV base outer e cls dd .none h'->s.heap.UpToSlots h'->Q () {s with heap:=h'}):Aw M A («leaving» env<|.ref e) Q E s:=by
 unfold «leaving»
 exact BP<|X0 hA hL F fun h' F1 U=>nB F1 fun h'' F' U'=>k h'' F'.out<|U.trans U'
end
end GF
end
section
namespace GF
section
open PySem PySem.W
noncomputable abbrev VI:List AN:= [.type "Exception",.type "BaseException",.type "object"]
noncomputable def FE(K:AS)(C:AK):Bool:=match K.lookup C with
 | some ⟨.type "type",_,.cls cd,sl⟩=>(match cd.mro,sl.toList,K.lookup cd.ns with
  | .ref C'::bm,[_,_,_,_,some<|.builtin n,_],some ⟨_,_,.dict es _,_⟩=>C'==C&&!cd.hasDel&&bm==VI&&n=="Exception.__new__"&&cd.hasDict&&
    es.toList.all (fun e=>match e.key with | .str _ _=>true | _=>false)&&(Ot es "__setattr__"==none)&&(Ot es "number"==none)&&(Ot es "__getattribute__"==none)&&(Ot es "__getattr__"==none)
  | _,_,_=>false)
 | _=>false
def Iy(X:K.In h)(q:FE K C=true): ∃ nm qn N bs sn sub ab col dd k0 k1 k2 k3 k5 mN,
  h.get? C=some (O4 nm qn C N bs VI true sn sub ab col dd k0 k1 k2 k3 k5 "Exception.__new__")/\h.Ns N mN/\mN "__setattr__"=none/\mN "number"=none/\mN "__getattribute__"=none/\mN "__getattr__"=none:=by
 unfold FE at q
 split at q
 ·rename_i dd cd sl ho
  split at q
  ·rename_i C' bm k0 k1 k2 k3 n k5 oc od es ep osl hm hs hk
   simp only[Ol,FR,L8]at q
   obtain⟨⟨⟨⟨⟨⟨⟨⟨⟨rfl,hdel⟩,hb⟩,hn⟩,hdc⟩,hstr⟩,n1⟩,n2⟩,n3⟩,n4⟩:=q
   obtain⟨nm,bs,mro,ns,qn,hd,sn,sub,ab,col,del⟩:=cd
   dsimp only at hm hdel hdc hk
   subst hm hdel hdc hn hb
   obtain⟨l⟩:=sl
   simp only at hs
   subst hs
   refine⟨nm,qn,ns,bs,sn,sub,ab,col,dd,k0,k1,k2,k3,k5,Ot es,X _ _ ho,⟨_,es,ep,X _ _ hk,rfl,fun e he=>?_,fun _=>rfl⟩,n1,n2,n3,n4⟩
   have z:=F7.mp hstr e<|qt.mpr he
   cases q:e.key with
   | str a b=>exact⟨a,b,rfl⟩
   | _=>rw[q]at z;cases z
  ·cases q
 ·cases q
noncomputable abbrev Es(C t:AK):Obj:={cls:= .ref C,data:= .fields #[.ref t,.none,.none,.none,.bool false,.none]}
noncomputable abbrev Qr(vs:List AN):Obj:={cls:= .type "tuple",data:= .seq vs.toArray}
section
variable{prog:BH}{w:Ap}{A:De}{K:AS}{C fI:AK}{R:Result->Az->Prop}{h:Ay}{g:Array Oj}{d:Drawn}{t:Nat}{os:C7}
def jc(X:K.In h)(hc:FE K C=true)(hi:C6 K (.ref C) "__init__"=some (some<|.ref fI))(hf:fh K (.ref fI)=some (.type "function"))(hr:rest.length<=sizeLine)
  (hq:GB (Ai prog w) (A.under<|.builtin "type.__call__" ⟨.ref C::rest,[]⟩) (.call (.ref fI) ⟨.ref (h.objs.size+1)::rest,[]⟩) (qz (h.objs.size+1) R) ⟨(h.push<|Qr rest).push<|Es C h.objs.size,g,d,t,os⟩):
  GB (Ai prog w) A (.call (.ref C) ⟨rest,[]⟩) R ⟨h,g,d,t,os⟩:=by
 obtain⟨nm,qn,N,bs,sn,sub,ab,col,dd,k0,k1,k2,k3,k5,mN,hC,-⟩:=Iy X hc
 have FB:=Wm
 have f1:=tc_lookup
 have f2:=tc_bind<|.ref C
 have hT:(⟨h,g,d,t,os⟩:Az).TypeIs (.ref C) "type":=⟨_,hC,rfl⟩
 refine codeAny_of_tree ?_
 repeat(any_goals (first | assumption | with_reducible refine Ik hC ?_ | wp_step))
 refine XG rfl<|codeAny_call_builtin_at (oh _<|by decide+kernel) entry_typeCall<|wpAny_check_type_call_sub hC ?_
 repeat(first | with_reducible refine Ik hC ?_ | with_reducible refine wpAny_madeBy_exc hC ?_ | wp_step)
 refine codeAny_call_builtin_code (oh _ FB.quiet)<|wpAny_check_new_sub FB hC<|codeAny_exc_new_sub FB hC ?_ hr
 have kp: ∀ b o,h.get? b=some o->((h.push<|Qr rest).push<|Es C h.objs.size).get? b=some o:=fun b o e=>CW _<|CW _ e
 have hC1:=kp _ _ hC
 have X1:=X.keeps kp
 have hx:((h.push<|Qr rest).push<|Es C h.objs.size).get? (h.objs.size+1)=some (Es C h.objs.size):=by heap_get
 have hcC:(CL C::VI).contains (.ref C)=true:=by simp
 unfold isInstance
 repeat(first |(with_reducible refine Ik hx ?_) |(show Aw _ _ (isSubtype (.ref C)<|.ref C) _ _ _;refine nj hC1 ?_;rw[hcC]) | wp_step)
 refine(oJ X1 hi).here ?_
 refine XF<|BP<|(p6 X1 _ hf).here ?_
 refine BP<|Ov<|MG hq fun r s' z=>?_
 rcases r with e |(v | _ | _ | _)<;>first | exact z | exact z.elim | skip
 obtain⟨rfl,z⟩:=z
 exact Ck<|Ck z
end
end
section
open PySem PySem.W
section
variable{prog:BH}{w:Ap}{A:De}{K:AS}{E:AN->Az->Prop}{C e:AK}{h:Ay}{g:Array Oj}{d:Drawn}{t:Nat}{os:C7}
def cI(X:K.In h)(hc:FE K C=true)(he:h.get? e=some (Es C u))
  (k: ∀ h',(∀ b o,b≠e->h.get? b=some o->h'.get? b=some o)->h'.get? e=some (Es C h.objs.size)->Q .none ⟨h',g,d,t,os⟩):
  Aw (Ai prog w) A (call (.builtin "Exception.__init__") [.ref e,v]) Q E ⟨h,g,d,t,os⟩:=by
 obtain⟨nm,qn,N,bs,sn,sub,ab,col,dd,k0,k1,k2,k3,k5,mN,hC,-⟩:=Iy X hc
 have FB:=Wm
 refine Ov<|cX FB.init.plain FB.initEntry<|wpAny_check_init_sub FB hC he rfl ?_
 wp_walk
 refine k _ (fun b o n q=>(V_ _ _<|Ei n).trans<|CW _ q) ?_
 rw[WA _ (CW _ he) rfl]
 rfl
def zB{sub:List AN}{mN:Str->Option AN}
  (hC:h.get? C=some (O4 nm qn C N bs VI true sn sub ab col dd k0 k1 k2 k3 k5 "Exception.__new__")) (hN:h.Ns N mN) (n2:mN "number"=none) (he:h.get? e=some oe) (hc:oe.cls= .ref C) (hd:oe.dict=none) (hf:oe.data= .fields vs)
  (k: ∀ h' tk,(∀ b o,b≠e->h.get? b=some o->h'.get? b=some o)->h'.get? e=some {oe with dict:=some h.objs.size}->h'.Ns1 h.objs.size (fun y=>if y=("number":Str)then some v else none)->Q (.done<|.ret .none) ⟨h',g,d,tk,os⟩):
  Aw (Ai prog w) A (Builtin.«object.__setattr__» ⟨[.ref e,.str "number" tk,v],[]⟩) Q E ⟨h,g,d,t,os⟩:=by
 have SF:=dO
 have hB:Ww (.type "Exception") "number"=CA none:=by rw[lh,rC];kernel_rfl
 have pas:=SF.passes<|.ref e
 have es:=DP<|Bz he
 unfold Builtin.«object.__setattr__»
 repeat(first | rw[refuse_eq] |(rw[refuseLoop_ref,pas]) |(with_reducible refine Ik he ?_;rw[hc]) |(with_reducible refine wpAny_mroOf_exc hC ?_) |(with_reducible refine WI hC hN SF.mro hB ?_;rw[n2]) | wp_step)
 rw[hd,AG<|by simp[typeHasDict]]
 dsimp only
 rw[hf]
 dsimp only
 have q1:(h.push {cls:= .type "dict",data:= .dict #[]}).get? e=some oe:=CW _ he
 have fr: ∀ o:Obj,o.data= .fields vs->o.isFreed=false:=fun o z=>qb z
 refine BP<|wpAny_alloc'<|BP<|wpAny_update' q1<|Ck ?_
 generalize hh:((h.push {cls:= .type "dict",data:= .dict #[]}).update e fun o=>{cls:=o.cls,dict:=some h.objs.size,data:=o.data,slots:=o.slots})=h2
 have g1:h2.get? h.objs.size=some {cls:= .type "dict",data:= .dict #[]}:=by
  rw[<-hh,qX _ _ _ _ es.symm]
  exact Heap.get?_push_at rfl rfl
 have g2:h2.get? e=some {oe with dict:=some h.objs.size}:=by
  rw[<-hh]
  exact WA _ q1<|fr _ hf
 have g3: ∀ b o,b≠e->h.get? b=some o->h2.get? b=some o:=fun b o n q=>by
  rw[<-hh,qX _ _ _ _ n]
  exact CW _ q
 have g4:h2.Ns h.objs.size (fun _=>none):=⟨_,#[],_,g1,rfl,fun x hx=>absurd hx<|by simp,fun _=>rfl⟩
 unfold AAE z8
 refine BP<|Ck<|BP<|px (oj g4) fun h3 n3 s3=>?_
 obtain⟨oD,eD,pD,a1,a2,a3⟩:=n3.count<|oW "number" v Within.nil
 refine BP<|mx a1 (by rw[a2];exact o7<|CC a3<|by rw[HG,Vz,eN];lia) ?_
 wp_walk
 exact k h3 _ (fun b o n q=>(s3.2 b<|DP<|Bz q).trans<|g3 b o n q) ((s3.2 e es).trans g2) n3
def AAU{sub:List AN}{mN:Str->Option AN}
  {B sa owner:String} (SF:StoreFacts B VI sa owner) (hC:h.get? C=some (O4 nm qn C N bs VI true sn sub ab col dd k0 k1 k2 k3 k5 "Exception.__new__")) (hN:h.Ns N mN) (n2:mN "number"=none) (he:h.get? e=some oe) (hc:oe.cls= .ref C) (hd:oe.dict=none) (hf:oe.data= .fields vs)
  (k: ∀ h' tk,(∀ b o,b≠e->h.get? b=some o->h'.get? b=some o)->h'.get? e=some {oe with dict:=some h.objs.size}->h'.Ns1 h.objs.size (fun y=>if y=("number":Str)then some v else none)->R (.ok<|.ret .none) ⟨h',g,d,tk,os⟩):
  GB (Ai prog w) A (.call (.builtin sa) ⟨[.ref e,.str "number" tk,v],[]⟩) R ⟨h,g,d,t,os⟩:=
 cX SF.slot.plain SF.entry (wpAny_check_sa SF hC he hc<|zB hC hN n2 he hc hd hf fun h' tk' a b c=>k h' tk' a b c)
def ABY(X:K.In h)(hk:FE K C=true)(hs:C6 K (.ref C) "__setattr__"=some (some<|.builtin "object.__setattr__"))
  (he:h.get? e=some oe) (hc:oe.cls= .ref C) (hd:oe.dict=none) (hf:oe.data= .fields vs)
  (k: ∀ h' tk,(∀ b o,b≠e->h.get? b=some o->h'.get? b=some o)->h'.get? e=some {oe with dict:=some h.objs.size}->h'.Ns1 h.objs.size (fun y=>if y=("number":Str)then some v else none)->Q () ⟨h',g,d,tk,os⟩):
  Aw (Ai prog w) A (bu (.ref e) "number" v) Q E ⟨h,g,d,t,os⟩:=by
 obtain⟨nm,qn,N,bs,sn,sub,ab,col,dd,k0,k1,k2,k3,k5,mN,hC,hN,n1,n2,n3,n4⟩:=Iy X hk
 refine set_plain (s:=⟨h,g,d,t,os⟩) (od:=none) X ⟨he,hc,?_,?_⟩ hs ?_
 ·unfold notCls
  rw[hf]
 ·rw[hd]
  trivial
 ·exact AAU dO hC hN n2 he hc hd hf k
end
end
def vD(x:Int):0<=x*x:=by
 rw[<-eP]
 exact FG _
def AE5(p:Int):32768*p*(32768*p)=1073741824*(p*p):=by
 rw[qr,Int.mul_left_comm p 32768 p,<-qr]
 rfl
def qZ{x:Int}(h:x*x=0):x=0:=by
 rcases Int.mul_eq_zero.mp h with h | h<;>exact h
def zt(a b:Int)(hb:b≠0):BN (2*a+b) (2*b)=Ht.near a b:=by
 unfold Ht.near
 split
 ·have e1:2* -a+ -b= -(2*a+b):=by lia
  have e2:2* -b= -(2*b):=by lia
  rw[e1,e2,Int.neg_fdiv_neg]
 ·rfl
noncomputable def Gm(s:Int):Nat->Int->Int
 | 0,f=>f
 | n+1,f=>if(f+2^n)*(f+2^n)<=s then Gm s n (f+2^n)else Gm s n f
theorem Qb(s:Int): ∀ n f,0<=f->f*f<=s->s<(f+2^n)*(f+2^n)->
  0<=Gm s n f/\Gm s n f*Gm s n f<=s/\s<(Gm s n f+1)*(Gm s n f+1)
 | 0,f,h0,h1,h2=>⟨h0,h1,by simpa[Gm]using h2⟩
 | n+1,f,h0,h1,h2=>by
  have hp:(0:Int)<2^n:=bV<|by decide
  have e:(2:Int)^(n+1)=2^n+2^n:=by rw[lq];lia
  unfold Gm
  split
  ·rename_i h
   refine Qb s n _ (by lia) h ?_
   have e2:f+2^(n+1)=f+2^n+2^n:=by rw[e];lia
   rw[<-e2]
   exact h2
  ·rename_i h
   exact Qb s n f h0 h1<|by lia
def AE1{a b:Int}(ha:0<=a)(hb:0<=b)(h:a*a<b*b):a<b:=by
 by_cases c:a<b
 ·exact c
 ·have c':b<=a:=by lia
  have:=Int.mul_le_mul c' c' hb ha
  lia
noncomputable def Rb(a ss:Nat)(n i:Nat):Nat:=
 if(2*(n+2^(14-i))-1)*(2*(n+2^(14-i))-1)*ss<=32768*a*(32768*a)then n+2^(14-i)else n
def sD(a ss:Nat):Ht.part a ss=(BM 15).foldl (Rb a ss) 0:=rfl
noncomputable def good(a ss n:Nat):Prop:=n=0\/(2*n-1)*(2*n-1)*ss<=32768*a*(32768*a)
def good_mono(h:good a ss n)(hm:m<=n):good a ss m:=by
 rcases h with rfl | h
 ·exact .inl<|by lia
 ·by_cases z:m=0
  ·exact .inl z
  ·refine .inr (CC ?_ h)
   exact eA _<|MT (by lia)<|by lia
theorem UB(a ss:Nat): ∀ k n,k<=15->good a ss n-> ¬ good a ss (n+2^k)->
  good a ss (((nr (15-k) k)).foldl (Rb a ss) n)/\ ¬ good a ss ((((nr (15-k) k)).foldl (Rb a ss) n)+1)
 | 0,n,_,h1,h2=>⟨h1,by simpa using h2⟩
 | k+1,n,hk,h1,h2=>by
  rw[List.range'_succ]
  have e1:14- (15- (k+1))=k:=by lia
  have e2:15- (k+1)+1=15-k:=by lia
  have hp:0<2^k:=Nat.pow_pos<|by decide
  have e3:2^(k+1)=2^k+2^k:=by rw[oz];lia
  rw[Wj,e2]
  unfold Rb
  rw[e1]
  split
  ·rename_i h
   refine UB a ss k _ (by lia) (.inr h) ?_
   rw[Nat.add_assoc,<-e3]
   exact h2
  ·rename_i h
   refine UB a ss k n (by lia) h1 ?_
   intro g
   rcases g with g | g
   ·lia
   ·exact h g
def sZ(hs:0<ss)(ha:a*a<=ss):good a ss (Ht.part a ss)/\ ¬ good a ss (Ht.part a ss+1):=by
 have h:=UB a ss 15 0 (by decide) (.inl rfl) (by
  intro g
  rcases g with g | g
  ·simp at g
  ·have b:(2*(0+2^15)-1)=65535:=by decide
   rw[b]at g
   have c:32768*a*(32768*a)=1073741824*(a*a):=by
    have:32768*a*(32768*a)=(32768*32768)*(a*a):=Nat.mul_mul_mul_comm _ _ _ _
    rw[this]
   lia)
 rw[sD,List.range_eq_range']
 exact h
def um(h1:good a ss n)(h2: ¬ good a ss (n+1))(h3:good a ss m)(h4: ¬ good a ss (m+1)):n=m:=by
 by_cases c:n<m
 ·exact absurd (good_mono h3<|by lia) h2
 ·by_cases d:m<n
  ·exact absurd (good_mono h1<|by lia) h4
  ·lia
def sA(a ss t:Nat)(hs:0<ss)(h1:t*t<=32768*a*(32768*a)/ss)(h2:32768*a*(32768*a)/ss<(t+1)*(t+1)):good a ss ((t+1)/2)/\ ¬ good a ss ((t+1)/2+1):=by
 generalize hN:32768*a*(32768*a)=N at*
 have d2:N<(N/ss+1)*ss:=by
  have h:=Nat.div_add_mod N ss
  have g:=FD N hs
  rw[Nat.add_mul,qE,Nat.mul_comm<|N/ss]
  lia
 refine⟨?_,?_⟩
 ·by_cases z:(t+1)/2=0
  ·exact .inl z
  ·refine .inr ?_
   rw[hN]
   have e:2*((t+1)/2)-1<=t:=by lia
   exact CC (eA _<|CC (MT e e) h1)<|Nat.div_mul_le_self N ss
 ·rintro(z | z)
  ·lia
  ·rw[hN]at z
   have e:t+1<=2*((t+1)/2+1)-1:=by lia
   have f:=CC h2<|MT e e
   have g:=eA ss f
   lia
def rV(p ss t:Int)(hs:0<ss)(hp:p*p<=ss)(ht:0<=t)(h1:t*t<=BN (32768*p*(32768*p)) ss)(h2:BN (32768*p*(32768*p)) ss<(t+1)*(t+1)):
  BN (t+1) 2=AD (Ht.part p.natAbs ss.toNat):=by
 obtain⟨s,rfl⟩:=O6<|WH hs
 obtain⟨r,rfl⟩:=O6 ht
 have sq: ∀ x:Int,x*x=((x.natAbs*x.natAbs:Nat):Int):=fun x=>(eP).symm
 have hn:(32768*p).natAbs=32768*p.natAbs:=Wn _ _
 have hs':0<s:=by lia
 have e1:BN (32768*p*(32768*p)) (s:Int)=((32768*p.natAbs*(32768*p.natAbs)/s:Nat):Int):=by
  rw[sq<|32768*p,hn,Fq _<|by lia]
  exact(Int.natCast_ediv _ _).symm
 rw[e1]at h1 h2
 have hp':p.natAbs*p.natAbs<=s:=by
  rw[sq p]at hp
  exact Bf.mp hp
 have k:=sA p.natAbs s r hs' (by exact_mod_cast h1)<|by exact_mod_cast h2
 have q:=sZ hs' hp'
 rw[Fq _<|by decide]
 show((r:Int)+1)/2=((Ht.part p.natAbs s:Nat):Int)
 rw[<-(um k.1 k.2 q.1 q.2)]
 lia
def xg(h:x<8):x=0\/x=1\/x=2\/x=3\/x=4\/x=5\/x=6\/x=7:=(show ∀ x:Fin 8,x.val=0\/x.val=1\/x.val=2\/x.val=3\/x.val=4\/x.val=5\/x.val=6\/x.val=7 by decide) ⟨x,h⟩
end GF
end
section
namespace GF
open PySem PySem.Spec PyProof.Rows L2
noncomputable def gW(n:Int):List (Str×V):= [("number",.int n)]
structure CXB(P:BH)(w:Ap)(C:AK)(outer:List Env)(H H':Hp)(s s':Az)(B:Ay)(a d:AK)(n:Int):Prop where
 os:s'.os=s.os
 bare:KA s'.gens
 un:Un (CM outer) [] H H' s.heap s'.heap
 C1:NH P w H' s'.heap
 xd:H' d=some (.xd (gW n))
 yF:NV B outer a (.ref C) (some d) .none s'.heap
 cov: ∀ b o,s'.heap.get? b=some o->b∉CM outer->((∃ o',s.heap.get? b=some o')\/(H' b).isSome=true)->B.get? b=some o
noncomputable def Xg(P:BH)(w:Ap)(C:AK):xl:=fun outer H s E e s'=> ∃ a d n H' B,e= .ref a/\CXB P w C outer H H' s s' B a d n/\E (.int n 0) none H'
theorem iB(x:EH P w H h a o): ∃ ob,h.get? a=some ob:=by
 cases o with
 | lst xs=>obtain⟨_,_,_,_,e⟩:=x;exact⟨_,e⟩
 | tup xs=>obtain⟨_,_,_,ob,e,_⟩:=x;exact⟨ob,e⟩
 | dK BU=>obtain⟨_,_,_,_,ob,_,_,e,_⟩:=x;exact⟨ob,e⟩
 | dT BU=>obtain⟨_,_,_,_,ob,_,_,e,_⟩:=x;exact⟨ob,e⟩
 | set S n=>obtain⟨ob,_,_,_,e,_⟩:=x;exact⟨ob,e⟩
 | ins C dx fs=>obtain⟨_,_,_,e,_⟩:=x;exact⟨_,e⟩
 | own y=>exact x
 | xd fs=>obtain⟨_,⟨ob,_,_,e,_⟩,_⟩:=x;exact⟨ob,e⟩
 | rng lo hi=>obtain⟨_,_,_,e⟩:=x;exact⟨_,e⟩
 | frz ob u=>exact⟨_,x.1⟩
 | tbl ps=>exact⟨_,x⟩
 | met f y=>exact⟨_,x⟩
 | ext φ=>exact x.2.1
def cO{σ:L2.St}(I:Inv X pins σ H s)(hx:X.ex= [])(hs:X.stack=X.env::X.outer)(hL:X.env.frame=some X.env.locals)
  (hB: ∀ b o,s.heap.get? b=some o->b∉CM X.stack->((∃ o',X.Pw.heap.get? b=some o')\/(H b).isSome=true)->B.get? b=some o)
  (F:NV B X.outer a (.ref C) (some d) .none h') (U:s.heap.UpToSlots h') (hd:H d=some (.xd<|gW n)):CXB X.prog X.w C X.outer X.H_0 H X.Pw {s with heap:=h'} B a d n:=by
 have nx: ∀ b:AK,b∉X.ex:=fun b z=>by rw[hx]at z;cases z
 have neL: ∀ b o,X.Pw.heap.get? b=some o->b≠X.env.locals:=fun b o e=>DP<|DO (Bz e) I.ok.above
 have C2: ∀ b,b∈CM X.stack->b=X.env.locals\/b∈CM X.outer:=fun b hb=>by
  rw[hs]at hb
  unfold CM at hb
  rw[S9,hL]at hb
  exact Cd.mp hb
 have nos: ∀ b o,X.Pw.heap.get? b=some o->b∉CM X.outer->b∉CM X.stack:=fun b o e nb z=>(C2 b z).elim (neL b o e) nb
 have trk: ∀ b,(H b).isSome=true->b∉CM X.stack:=fun b hb z=>by rw[I.WK b z]at hb;cases hb
 have old: ∀ b o,X.Pw.heap.get? b=some o->b∉CM X.outer-> ∀ o',s.heap.get? b=some o'->h'.get? b=some o':=fun b o e nb o' q=>F.Px b o'<|hB b o' q (nos b o e nb)<|.inl ⟨o,e⟩
 have frm: ∀ b,b∈CM X.outer-> ∀ o,s.heap.get? b=some o-> ∃ sl,h'.get? b=some {o with slots:=sl}:=fun b hb o q=>by
  obtain⟨_,o2,q2,nf⟩:=I.funs.mem hb
  rw[q]at q2
  cases q2
  exact U b o q nf
 have kt: ∀ b o,s.heap.get? b=some o->(H b).isSome=true->h'.get? b=some o:=fun b o q hb=>F.Px b o<|hB b o q (trk b hb)<|.inr hb
 refine⟨I.os,I.bare,⟨fun b o e nH nf _=>(old b o e nf o<|I.base.keep b o e nH nf<|nx b),fun b o e nH hf _=>?_,fun b o e nH _=>I.base.free b o e nH<|nx b,fun b o e _=>?_,I.base.Vn,I.base.T8,I.base.Vh⟩,?_,hd,F,?_⟩
 ·obtain⟨sl,q⟩:=I.base.slot b o e nH hf (nx b)
  obtain⟨sl',q'⟩:=frm b hf _ q
  exact⟨sl',q'⟩
 ·obtain⟨o',q⟩:=I.base.there b o e (nx b)
  by_cases hf:b∈CM X.outer
  ·obtain⟨sl,q'⟩:=frm b hf _ q
   exact⟨_,q'⟩
  ·exact⟨o',old b o e hf o' q⟩
 ·intro b u q
  refine(I.C1 b u q).Px (fun c v hc qc=>kt c v qc ?_) (fun _ z=>z) fun _ _ z=>z
  rcases hc with rfl | hc
  ·rw[q];rfl
  ·rw[hc];rfl
 ·intro b o q nf hb
  have key: ∃ o',s.heap.get? b=some o'/\h'.get? b=some o'/\B.get? b=some o':=by
   rcases hb with⟨o0,e⟩ | hb
   ·obtain⟨o',q1⟩:=I.base.there b o0 e (nx b)
    exact⟨o',q1,old b o0 e nf o' q1,hB b o' q1 (nos b o0 e nf)<|.inl ⟨o0,e⟩⟩
   ·obtain⟨u,hu⟩:=dM.mp hb
    obtain⟨o',q1⟩:=iB<|I.C1 b u hu
    exact⟨o',q1,kt b o' q1 hb,hB b o' q1 (trk b hb)<|.inr hb⟩
  obtain⟨o',_,q2,q3⟩:=key
  have q:=q
  rw[q2]at q
  cases q
  exact q3
section
variable{P:BH}{w:Ap}{K:AS}{mg:Str->Option AN}{base:Ay}{N:List Str}{qual:Str}{scope:FW}{f C:AK}{cd:AN}{A:De}{outer:List Env}{s0:Az}{H0:Hp}{E:XK}
def gQ:Passes (Xg P w C) (NC (Xg P w C) P w K mg base N qual scope f cd A outer s0 H0 E) E:=by
 rintro pins σ H s e s' I ⟨a,d,n,H',B,rfl,c,q⟩
 have I':=I.vx c.os c.un c.C1 c.bare fun b z=>nomatch z
 exact iP I'.ok.frames rfl c.yF fun h' F U=>⟨a,d,n,H',B,rfl,cO I' rfl rfl rfl (fun b o q nf hb=>c.cov b o q nf<|hb.imp (fun z=>I.base.there b _ z.choose_spec fun y=>nomatch y) id) F U c.xd,q⟩
def ACA{σ:L2.St}(I:Inv (NC (Xg P w C) P w K mg base N qual scope f cd A outer s0 H0 E) pins σ H s)
  (he:s.heap.get? a=some ⟨.ref C,some d,.fields vs,sl⟩) (h1:vs[1]?=some .none) (ha:H a=none) (nw:s0.heap.objs.size<=a) (hd:H d=some (.xd<|gW n)) (q:E (.int n 0) none H):
  (NC (Xg P w C) P w K mg base N qual scope f cd A outer s0 H0 E).xe (.ref a) s:=by
 have nfr:a∉CM (NC (Xg P w C) P w K mg base N qual scope f cd A outer s0 H0 E).stack:=fun z=>by
  obtain⟨_,o,e,nf⟩:=I.stack.mem z
  rw[he]at e
  cases e
  exact nf vs rfl
 have hid: ∀ b o,s.heap.get? b=some o->b∉CM (NC (Xg P w C) P w K mg base N qual scope f cd A outer s0 H0 E).stack->b≠a->
   (qT s.heap<|a::CM (NC (Xg P w C) P w K mg base N qual scope f cd A outer s0 H0 E).stack).get? b=some o:=fun b o e nf ne=>rD _ e fun z=>(Cd.mp z).elim ne nf
 refine cN I.ok.frames
  (PySem.W.funFrames_hide I.stack fun env he b hb=>C0 _<|dj.mpr ⟨env,he,hb⟩) rfl he h1 (fun b o e=>oO _ e) (nR _ D0) fun h' F U=>?_
 refine⟨a,d,n,H,_,rfl,cO I rfl rfl rfl (fun b o e nf hb=>hid b o e nf fun z=>?_) F U hd,q⟩
 subst z
 rcases hb with⟨o',e'⟩ | hb
 ·exact absurd (DO (Bz e') nw)<|GC _
 ·rw[ha]at hb
  cases hb
end
noncomputable def Mg(C e:AK):HO:= .ext fun h=> ∃ u,h.get? e=some (Es C u)
def w8(q:h.get? e=some (Es C u)):EH P w H h e (Mg C e):=
 ⟨⟨u,q⟩,⟨_,q⟩,fun h1 h2 ⟨u',q'⟩ k=>⟨u',k _ q'⟩⟩
def yz{σ:L2.St}{x d:AK}(I:Inv X pins σ H s)(mu:Mut (H x))(hd:s.heap.objs.size<=d)
  (k: ∀ b u,b≠x->s.heap.get? b=some u->h'.get? b=some u) (hx: ∃ u,h'.get? x=some u) (nx:EH X.prog X.w (upd (upd H d od) x o') h' x o') (nd:EH X.prog X.w (upd (upd H d od) x o') h' d od):
  Inv X pins σ (upd (upd H d od) x o') {s with heap:=h',toks:=t'}:=by
 have fd:=I.C1.fresh hd
 have xd:d≠x:=fun z=>by subst z;rw[fd]at mu;exact mu
 have ux: ∀ b,b≠x->b≠d->upd (upd H d od) x o' b=H b:=fun b n1 n2=>by rw[AQ n1,AQ n2]
 have nm: ∀ b u,H b=some u-> ¬ Mut (some u)->b≠x:=fun b u q n z=>by subst z;rw[q]at mu;exact n mu
 have nD: ∀ b u,H b=some u->b≠d:=fun b u q=>Ac q fd
 have nN: ∀ b,H b=none->b≠x:=fun b q z=>by subst z;rw[q]at mu;exact mu
 have nh: ∀ b o,s.heap.get? b=some o->b≠d:=fun b o q=>DP<|DO (Bz q) hd
 refine I.un ⟨fun b o q n _ _=>k b o (nN b n) q,fun b o q n _ _=>⟨o.slots,k b o (nN b n) q⟩,fun b o q n _=>by rw[ux b (nN b n)<|nh b o q];exact n,fun b o q _=>?_,
  fun b xs q=>by rw[ux b (nm b _ q fun z=>z)<|nD b _ q];exact q,fun b u xs q=>by rw[ux b (nm b _ q fun z=>z)<|nD b _ q];exact q,fun b ps q=>⟨#[],by rw[ux b (nm b _ q fun z=>z)<|nD b _ q,q];simp⟩⟩ ?_
 ·by_cases hb:b=x
  ·subst hb
   exact hx
  ·exact⟨o,k b o hb q⟩
 ·intro b u q
  by_cases hb:b=x
  ·subst hb
   rw[AJ]at q
   cases q
   exact nx
  ·by_cases hbd:b=d
   ·subst hbd
    rw[AQ hb,AJ]at q
    cases q
    exact nd
   ·rw[ux b hb hbd]at q
    refine(I.C1 b u q).Px (fun c v hc r=>k c v ?_ r) (fun c r=>?_) fun c xs r=>?_
    ·rcases hc with rfl | hc
     ·exact hb
     ·exact nm c _ hc fun z=>z
    ·rw[ux c (nm c _ r fun z=>z)<|nD c _ r]
     exact r
    ·rw[ux c (nm c _ r fun z=>z)<|nD c _ r]
     exact r
section
variable{X:Cx}{C:AK}{p1 p2 p3:Pos}{e1:Expr}{es:List Expr}{ta:TA}
noncomputable def ACI(C:AK)(ta:TA):TE:=fun σ H Q=>ta σ H fun vs H1=> ∃ e v,vs= [.ref e,v]/\H1 e=some (Mg C e)/\Q .non (upd H1 e<|Mg C e)
def u6(hc:FE X.K C=true)(hg:Gl X "Exception")(hm:X.mg "Exception"=none)(ha:PA X (e1::es) ta)
  (ht:eval (.Call (.Attribute (.Name "Exception" p1) "__init__" p2) (e1::es) [] p3) X.env=(do
   let ov <-eval (.Name "Exception" p1) X.env
   J1 p2.atName
   let(f,first) <-Hd [ov] (Ji ov "__init__" pl)
   ME p3 f first (Co p3<|Au (e1::es) X.env) (Ig p3<|Iv [] X.env)):=by rfl)
  (he:Au (e1::es) X.env=(false,eval e1 X.env)::Au es X.env:=by rfl) (hpl:(Co p3<|Au es X.env).any (·.1)=false:=by rfl):
  PE X (.Call (.Attribute (.Name "Exception" p1) "__init__" p2) (e1::es) [] p3) (ACI C ta):=by
 intro pins s σ H Q I h
 obtain⟨m,fr⟩:=I.fr
 refine Wy (pl:=pl) (Q4 I hg hm (u:= .type "Exception") (by decide+kernel) ?_ (by decide)<|by decide) ht
 apply PySem.W.method_type (v:= .builtin "Exception.__init__") fr I.ok.mod.xi (by kernel_rfl) (by decide+kernel) (by kernel_rfl) rfl
 refine nL (QE (ha p3 pins _ σ H _ (I.tok _) h) fun us s1 q=>?_) he hpl
 obtain⟨vs,H1,I1,r1,e,v,rfl,hx,q⟩:=q
 obtain _ |⟨ra,_ |⟨_,_ | _⟩⟩:=r1
 obtain rfl:_=CL e:=ra
 obtain⟨u,hu⟩:=(I1.C1 e _ hx).1
 obtain⟨hh,g,d,t,os⟩:=s1
 refine cI I1.Qs hc hu fun h' k1 k2=>⟨.non,upd H1 e<|Mg C e,?_,rfl,q⟩
 exact I1.write (by rw[hx];trivial) (.inl rfl) k1 ⟨_,k2⟩<|w8 k2
noncomputable def ACE(C:AK)(ta tv:TE):TS:=fun D σ H=>tv σ H fun y H1=>ta σ H1 fun x H2=> ∃ e n,x= .ref e/\y= .int n/\H2 e=some (Mg C e)/\
 ∀ d,H2 d=none->d≠e->D.nx σ (upd (upd H2 d<|.xd<|gW n) e (.ext fun h=> ∃ u,h.get? e=some {Es C u with dict:=some d}))
def vy{ta tv:TE}(hc:FE X.K C=true)(hsa:C6 X.K (.ref C) "__setattr__"=some (some<|.builtin "object.__setattr__"))(ha:PE X o ta)(hv:PE X value tv)
  (hs:Gb value (some<|.Attribute o "number" pos') pos.line X.env=CA false:=by rfl):PS X (.Assign [.Attribute o "number" pos'] value pos) (ACE C ta tv):=by
 intro pins s σ H D I h
 refine pQ (HV (hv pins s σ H _ I h) fun u s1 y H1 I1 ry q=>HV (ha pins s1 σ H1 _ I1 q) fun ov s2 x H2 I2 rx q2=>?_) hs
 obtain⟨e,n,rfl,rfl,hx,q3⟩:=q2
 obtain rfl:ov=CL e:=rx
 obtain⟨tk,rfl⟩:=ry
 obtain⟨w0,hu⟩:=(I2.C1 e _ hx).1
 obtain⟨hh,g,d,t,os⟩:=s2
 refine ABY I2.Qs hc hsa hu rfl rfl rfl fun h' tk' k1 k2 k3=>⟨σ,_,?_,q3 _ (I2.C1.fresh<|BS _)<|Wo<|Bz hu⟩
 refine yz I2 (by rw[hx];trivial) (BS _) k1 ⟨_,k2⟩ ⟨⟨w0,k2⟩,⟨_,k2⟩,fun h1 h2 ⟨u',q'⟩ k=>⟨u',k _ q'⟩⟩ ⟨_,k3,fun f=>?_⟩
 unfold gW
 by_cases hf:f="number"
 ·subst hf
  rw[AI rfl]
  exact⟨tk,rfl⟩
 ·rw[AG hf]
  have z:(IY f [(("number":Str),V.int n)])=none:=by
   rw[Hb,Il.mpr hf]
   rfl
  rw[z]
  trivial
end
def kD{K:AS}(hk:FE K C=true)(hh:A.handled=none)
  (h:Aw M A x (fun v s1=> ∃ e oe t,v= .ref e/\K.In s1.heap/\s1.heap.get? e=some oe/\oe.cls= .ref C/\oe.data= .fields #[.ref t,.none,.none,.none,.bool false,.none]/\E (.ref e) s1) E s):
  Aw M A (raiseStmt env (some x) none) Q E s:=by
 unfold raiseStmt
 refine BP<|Et h (fun v s1 h1=>?_) fun _ _ z=>z
 obtain⟨e,oe,t,rfl,X,he,hc,hf,hE⟩:=h1
 obtain⟨nm,qn,N,bs,sn,sub,ab,col,dd,k0,k1,k2,k3,k5,mN,hC,-⟩:=Iy X hk
 have hcB:(CL C::VI).contains (.type "BaseException")=true:=by rw[List.contains_cons,Wm.hasBase,cC]
 obtain⟨hp,g,d,tk,os⟩:=s1
 repeat(first |(with_reducible refine Sk he hf rfl ?_) |(with_reducible refine Ik he ?_;rw[hc]) | with_reducible refine Ik hC ?_ |(with_reducible refine nj hC ?_;rw[hcB]) | wp_step)
 exact wpAny_raiseNew_none hh hE
def uI{σ:L2.St}(I:Inv X pins σ H s)(he:H e=some (.ext φ)):Inv X pins σ (fun b=>if b=e then none else H b) s:=by
 have ne: ∀ b u,H b=some u->(∀ ψ,u≠ .ext ψ)->b≠e:=fun b u q n z=>by subst z;rw[q]at he;cases he;exact n φ rfl
 have no: ∀ b,H b=none->(if b=e then none else H b)=none:=fun b q=>by
  by_cases z:b=e
  ·rw[AI z]
  ·rw[AG z]
   exact q
 refine⟨I.ok,I.os,I.bare,⟨I.base.keep,I.base.slot,fun b o q n hx=>no b<|I.base.free b o q n hx,I.base.there,fun b xs q=>?_,fun b o u q=>?_,fun b ps q=>?_⟩,I.loc,I.cell,no _ I.free,fun x c q=>no _<|I.KH x c q,
  fun p hp=>⟨(I.pin p hp).1,no _ (I.pin p hp).2.1,(I.pin p hp).2.2⟩,fun b u q=>?_,I.len⟩
 ·have z:=I.base.Vn b xs q
  rw[AG<|ne b _ z fun _ y=>by cases y]
  exact z
 ·have z:=I.base.T8 b o u q
  rw[AG<|ne b _ z fun _ y=>by cases y]
  exact z
 ·obtain⟨m,z⟩:=I.base.Vh b ps q
  refine⟨m,?_⟩
  rw[AG<|ne b _ z fun _ y=>by cases y]
  exact z
 ·have hb:b≠e:=fun z=>by rw[AI z]at q;cases q
  rw[AG hb]at q
  refine(I.C1 b u q).Px (fun c v _ r=>r) (fun c r=>?_) fun c xs r=>?_
  ·rw[AG<|ne c _ r fun _ y=>by cases y]
   exact r
  ·rw[AG<|ne c _ r fun _ y=>by cases y]
   exact r
inductive x5(C:AK)(vs:List V)(H:Hp)(Q:VK)(E_:XK):Prop
 | mk: ∀ e n,vs= [.ref e,.int n]->H e=some (Mg C e)->(∀ d,H d=none->d≠e->Q .non (upd (upd (upd H e (Mg C e)) d (.xd (gW n))) e (.ext fun h=> ∃ u,h.get? e=some {Es C u with dict:=some d})))->x5 C vs H Q E_
noncomputable def ADX(C:AK)(X:Cx)(E:XK):Prop:= ∀ pins (σ:L2.St) H s a d n vs sl,Inv X pins σ H s->s.heap.get? a=some ⟨.ref C,some d,.fields vs,sl⟩->
 vs[1]?=some .none->H a=none->X.Pw.heap.objs.size<=a->H d=some (.xd<|gW n)->E (.int n 0) none H->X.xe (.ref a) s
structure FC(K:AS)(mg:Str->Option AN)(C fI:AK)(fd:Ff):Prop where
 cls:FE K C=true
 init:C6 K (.ref C) "__init__"=some (some (.ref fI))
 fn:fh K (.ref fI)=some (.type "function")
 kp:FT K (.ref C)=true
 sa:C6 K (.ref C) "__setattr__"=some (some (.builtin "object.__setattr__"))
 g:mg "Fault"=some (.ref C)
 b:Binds K fd ["self","number"] []
section
variable{X:Cx}{C fI:AK}{fd:Ff}{k:Nat}{pins:List (AK×Obj)}{σ:L2.St}{H:Hp}{s:Az}
def sf(T:FC X.K X.mg C fI fd)(F:ES X.prog X.w X.K X.mg X.base cV k fI fd ["self","number"] (x5 C))(hr:EE (k+1) X.A)(I:Inv X pins σ H s)(ru:RelV (.int n) u)
  (q: ∀ e d w0 s',Inv X pins σ (upd H d<|.xd<|gW n) s'->s'.heap.get? e=some {Es C w0 with dict:=some d}->H e=none->H d=none->d≠e->X.Pw.heap.objs.size<=e->Q (.ref e) s'):
  Aw (Ai X.prog X.w) X.A (call (.ref C) [u]) Q X.xe s:=by
 obtain⟨hh,g,d0,t,os⟩:=s
 refine Ov<|jc I.Qs T.cls T.init T.fn (by show 1<=sizeLine;decide) ?_
 have I0:Inv X pins σ H ⟨hh.push<|Qr [u],g,d0,t,os⟩:=I.kept (t':=t) fun b o e=>CW _ e
 have fe:=I.C1.fresh<|Vp _
 have hx:((hh.push<|Qr [u]).push<|Es C hh.objs.size).get? (hh.objs.size+1)=some (Es C hh.objs.size):=by heap_get
 have I1:Inv X pins σ (upd H (hh.objs.size+1)<|Mg C<|hh.objs.size+1) ⟨(hh.push<|Qr [u]).push<|Es C hh.objs.size,g,d0,t,os⟩:=
  I0.laid (fun b o e=>CW _ e) (by show(hh.push<|Qr [u]).objs.size<=_;rw[HE];exact BS _) (w8 hx)
 refine MG (F.run _ X.stack _ _ ⟨[.ref<|hh.objs.size+1,u],[]⟩ [.ref<|hh.objs.size+1,u] [.ref<|hh.objs.size+1,.int n]
  (fun v H2=>v= .non/\ ∃ d,H d=none/\d≠hh.objs.size+1/\H2=upd (upd (upd (upd H (hh.objs.size+1)<|Mg C<|hh.objs.size+1) (hh.objs.size+1)<|Mg C<|hh.objs.size+1) d<|.xd<|gW n) (hh.objs.size+1) (.ext fun h=> ∃ u,h.get? (hh.objs.size+1)=some {Es C u with dict:=some d}))
  (fun _ _ _=>False) (hr.make C [u] []) (I1.yk.make C [u] []) (T.b _ [.ref<|hh.objs.size+1,u] I1.Qs rfl) (.cons rfl<|.cons ru .nil) ⟨_,n,rfl,AJ,fun d hd ne=>⟨rfl,d,?_,ne,rfl⟩⟩) fun r s' hq=>?_
 ·rw[AQ ne]at hd
  exact hd
 ·cases r with
  | error e=>exact DK hq
  | ok fl=>
   cases fl with
   | next=>exact DK hq
   | brk=>exact DK hq
   | cont=>exact DK hq
   | ret v=>
    obtain⟨y,H2,I2,ry,rfl,d,fd',ne,rfl⟩:=I1.after hq
    obtain⟨w0,hw⟩:=(I2.C1 _ _ AJ).1
    refine⟨ry,q _ d w0 s' ?_ hw fe fd' ne<|CC I.sz<|Vp _⟩
    have I3:=uI I2 AJ
    have e:(fun b=>if b=hh.objs.size+1 then none else upd (upd (upd (upd H (hh.objs.size+1)<|Mg C<|hh.objs.size+1) (hh.objs.size+1)<|Mg C<|hh.objs.size+1) d<|.xd<|gW n) (hh.objs.size+1)
      (.ext fun h=> ∃ u,h.get? (hh.objs.size+1)=some {Es C u with dict:=some d}) b)=upd H d (.xd<|gW n):=by
     funext b
     by_cases hb:b=hh.objs.size+1
     ·rw[AI hb,hb,AQ<|Ei ne,fe]
     ·rw[AG hb,AQ hb]
      unfold upd
      split
      ·rfl
      ·rfl
    rw[e]at I3
    exact I3
noncomputable def ABZ(E:XK)(t:TA):TS:=fun _ σ H=>t σ H fun vs H1=> ∃ n,vs= [.int n]/\ ∀ d,H1 d=none->E (.int n 0) none (upd H1 d<|.xd<|gW n)
def CI{np cpos pos:Pos}(T:FC X.K X.mg C fI fd)(F:ES X.prog X.w X.K X.mg X.base cV k fI fd ["self","number"] (x5 C))(hr:EE (k+1) X.A)(hx:ADX C X E)(hg:Gl X "Fault")(ha:PA X (e1::es) t)
  (he:Au (e1::es) X.env=(false,eval e1 X.env)::Au es X.env:=by rfl) (hpl:(Co cpos<|Au es X.env).any (·.1)=false:=by rfl):
  PS X (.Raise (some<|.Call (.Name "Fault" np) (e1::es) [] cpos) none pos) (ABZ E t):=by
 intro pins s σ H D I h
 rw[arm_exec_Raise]
 refine BP<|SR<|kD T.cls hr.hd<|BP<|Jj<|Lb I hg T.g ?_<|by decide
 refine LW I.ok.mod.xi T.kp (ki (ha cpos pins s σ H _ I h) fun us s1 vs H1 I1 r q=>⟨I1.Qs,?_⟩) he hpl
 obtain⟨n,rfl,q⟩:=q
 obtain⟨u,rfl,ru⟩:=vals1 r
 exact sf T F hr I1 ru fun e d w0 s' I2 he2 fe fd' ne sz=>BP<|SR<|Ck<|⟨e,_,w0,rfl,I2.Qs,he2,rfl,rfl,hx pins σ _ s' e d n _ _ I2 he2 rfl (by rw[AQ<|Ei ne];exact fe) sz AJ<|q d fd'⟩
end
def outF{K:AS}{E:XK}:
  ADX C (NC (Xg P w C) P w K mg base N qual scope f cd A outer s0 H0 E) E:=fun pins σ H s a d n vs sl I he h1 ha nw hd q=>ACA I he h1 ha nw hd q
end GF
end
section
namespace GF
section
open PySem PySem.W
section
variable{prog:BH}{w:Ap}{A:De}{E:AN->Az->Prop}{K:AS}{C N e dx:AK}{h:Ay}{g:Array Oj}{d:Drawn}{t:Nat}{os:C7}{oe:Obj}{vs:Array AN}{m mN:Str->Option AN}{v:AN}
variable{nm qn:Str}{bs:List AN}{sn:List Str}{sub:List AN}{ab:Bool}{col:Option Bool}{dd:Option AK}{k0 k1 k2 k3 k5:Option AN}
def tU(hC:h.get? C=some (O4 nm qn C N bs VI true sn sub ab col dd k0 k1 k2 k3 k5 "Exception.__new__"))(hN:h.Ns N mN)(n2:mN "number"=none)
  (he:h.get? e=some oe) (hc:oe.cls= .ref C) (hd:oe.dict=some dx) (hf:oe.data= .fields vs) (hx:h.Ns dx m) (hv:m "number"=some v) (hh:O8 v=true) (hq:Q (.done<|.ret v) ⟨h,g,d,t,os⟩):
  Aw (Ai prog w) A (Builtin.«object.__getattribute__» ⟨[.ref e,.str "number" tk],[]⟩) Q E ⟨h,g,d,t,os⟩:=by
 have SF:=dO
 have hB:Ww (.type "Exception") "number"=CA none:=by rw[lh,rC];kernel_rfl
 repeat(any_goals (first | assumption |(with_reducible refine Ik he ?_;rw[hc]) |(with_reducible refine WI hC hN SF.mro hB ?_;rw[n2]) | wp_step))
 rw[hf]
 dsimp only
 unfold instanceDict
 refine BP<|Ik he ?_
 rw[hc]
 dsimp only
 refine BP ?_
 unfold classData
 refine BP<|wpAny_load hC<|Ck ?_
 rw[AG (by intro z;cases z),hd]
 refine Ck ?_
 refine wpAny_nsGet hx ?_
 rw[hv]
 wp_walk
 exact hq
def ur(FB:ExcAttrBase B VI)(hC:h.get? C=some (O4 nm qn C N bs VI true sn sub ab col dd k0 k1 k2 k3 k5 "Exception.__new__"))(hN:h.Ns N mN)(n2:mN "number"=none)
  (he:h.get? e=some oe) (hc:oe.cls= .ref C) (hd:oe.dict=some dx) (hf:oe.data= .fields vs) (hx:h.Ns dx m) (hv:m "number"=some v) (hh:O8 v=true) (hq:R (.ok<|.ret v) ⟨h,g,d,t,os⟩):
  GB (Ai prog w) A (.call (.builtin "BaseException.__getattribute__") ⟨[.ref e,.str "number" tk],[]⟩) R ⟨h,g,d,t,os⟩:=
 cX FB.ga.plain PySem.F.entry_bexc_ga (wpAny_check_ga_own FB hC .base he hc<|tU hC hN n2 he hc hd hf hx hv hh hq)
def AC1(FB:ExcAttrBase B VI)(hC:h.get? C=some (O4 nm qn C N bs VI true sn sub ab col dd k0 k1 k2 k3 k5 "Exception.__new__"))(hN:h.Ns N mN)(n2:mN "number"=none)
  (n3:mN "__getattribute__"=none) (n4:mN "__getattr__"=none) (he:h.get? e=some oe) (hc:oe.cls= .ref C) (hd:oe.dict=some dx) (hf:oe.data= .fields vs) (hx:h.Ns dx m) (hv:m "number"=some v) (hh:O8 v=true) (hq:Q v ⟨h,g,d,t,os⟩):
  Aw (Ai prog w) A (getAttrBy (.ref e) (.str "number" tk) fill expr) Q E ⟨h,g,d,t,os⟩:=by
 have f3:=FB.ga.bind<|.ref e
 have x0:(expr&&onTheHeap (Ri "BaseException.__getattribute__"))=false:=by cases expr<;>rfl
 have x2:(Ri "BaseException.__getattribute__"==Ri "object.__getattribute__")=false:=by decide+kernel
 have x1:(onTheHeap (CL C)&&Ri "BaseException.__getattribute__"==Ri "object.__getattribute__")=false:=by rw[x2];rfl
 repeat(any_goals (first | assumption |(with_reducible refine Ik he ?_;rw[hc]) |(with_reducible refine WI hC hN FB.mro FB.ga.lookup ?_;rw[n3]) |(with_reducible refine WI hC hN FB.mro FB.noGetattr ?_;rw[n4]) | wp_step))
 refine ur FB hC hN n2 he hc hd hf hx hv hh ?_
 repeat(any_goals (first | assumption | wp_step))
 show Aw _ _ (handedOut v) _ _ _
 rw[handedOut_of hh]
 exact Ck hq
def yL(X:K.In h)(hk:FE K C=true)(he:h.get? e=some oe)(hc:oe.cls= .ref C)(hd:oe.dict=some dx)(hf:oe.data= .fields vs)(hx:h.Ns dx m)(hv:m "number"=some v)(hh:O8 v=true)
  (hq:Q v ⟨h,g,d,t+1,os⟩):Aw (Ai prog w) A (SM (.ref e) "number" expr) Q E ⟨h,g,d,t,os⟩:=by
 obtain⟨nm,qn,N,bs,sn,sub,ab,col,dd,k0,k1,k2,k3,k5,mN,hC,hN,n1,n2,n3,n4⟩:=Iy X hk
 unfold SM
 repeat(any_goals (first | assumption | with_reducible apply AC1 PySem.F.attrBase_Exception hC hN n2 n3 n4 he hc hd hf hx hv hh | wp_step))
end
end
end GF
end
section
namespace GF
open PySem PySem.Spec PyProof.Rows L2
noncomputable def XHO(C a d:AK):HO:= .ext fun h=> ∃ vs sl,h.get? a=some ⟨.ref C,some d,.fields vs,sl⟩
noncomputable def ADv(C:AK)(ta:TE):TE:=fun σ H Q=>ta σ H fun x H1=> ∃ a d n,x= .ref a/\H1 a=some (XHO C a d)/\H1 d=some (.xd<|gW n)/\Q (.int n) H1
theorem xw(hk:FE X.K C=true)(he:PE X e ta)(hb:J0 e "number" X.env (eval e X.env)=eval e X.env:=by rfl):PE X (.Attribute e "number" pos) (ADv C ta):=by
 intro pins s σ H Q I h
 refine rJ hb<|HV (he pins s σ H _ I h) fun u s1 x H1 I1 rx q_=>?_
 obtain⟨a,d,n,ex,ea,ed,q⟩:=q_
 subst ex
 obtain rfl:u=CL a:=rx
 obtain⟨vs,sl,hu⟩:=(I1.C1 a _ ea).1
 obtain⟨mA,⟨o,es,ep,n1,n2,n3,_,n5⟩,hr⟩:=I1.C1 d _ ed
 have z:=hr "number"
 have e0:(gW n).lookup ("number":Str)=some (.int n):=rfl
 rw[e0]at z
 cases em:mA "number"with
 | none=>rw[em]at z;exact z.elim
 | some v=>
  rw[em]at z
  obtain⟨tk,rfl⟩:=z
  obtain⟨hh,g,dr,t,os⟩:=s1
  exact yL I1.Qs hk hu rfl rfl rfl ⟨o,es,ep,n1,n2,n3,n5⟩ em rfl ⟨.int n,H1,I1.tok _,⟨tk,rfl⟩,q⟩
noncomputable def inH(X:Cx)(a:AK):Cx:={X with A:=X.A.mark<|some<|.ref a,calm:=false,xe:=fun _ _=>False}
def Inv.inH{σ:L2.St}(I:L2.Inv X pins σ H s)(a:AK):L2.Inv (inH X a) pins σ H s:=
 ⟨⟨I.ok.mod,I.ok.kind,I.ok.glob,I.ok.blt,I.ok.above,I.ok.inj,I.ok.has,I.ok.cab,(fun z=>by cases z),I.ok.frames,I.ok.C2,I.ok.exf,I.ok.bs,I.ok.uB,I.ok.kF,I.ok.jz,I.ok.funs,I.ok.y2,I.ok.nd⟩,I.os,I.bare,I.base,I.loc,I.cell,I.free,I.KH,I.pin,I.C1,I.len⟩
def Inv.AFr{σ:L2.St}(hd:X.calm=true->X.A.handled=none)(I:L2.Inv (GF.inH X a) pins σ H s):L2.Inv X pins σ H s:=
 ⟨⟨I.ok.mod,I.ok.kind,I.ok.glob,I.ok.blt,I.ok.above,I.ok.inj,I.ok.has,I.ok.cab,hd,I.ok.frames,I.ok.C2,I.ok.exf,I.ok.bs,I.ok.uB,I.ok.kF,I.ok.jz,I.ok.funs,I.ok.y2,I.ok.nd⟩,I.os,I.bare,I.base,I.loc,I.cell,I.free,I.KH,I.pin,I.C1,I.len⟩
structure Plain(X:Cx):Prop where
 ex:X.ex= []
 C2:X.stack=X.env::X.outer
 fr:X.env.frame=some X.env.locals
 cells:X.env.cells= []
 pn:X.pn= []
section
variable{X:Cx}{pins:List (AK×Obj)}{σ:L2.St}{H:Hp}{s:Az}
def PM(p:Plain X)(e:X.env.cells.lookup x=some c):False:=by
 rw[p.cells]at e
 cases e
def iN{fl:AN}(p:Plain X)(I:L2.Inv X pins σ H s)(hB: ∀ b o,s.heap.get? b=some o->b∉CM X.stack->((∃ o',X.Pw.heap.get? b=some o')\/(H b).isSome=true)->B.get? b=some o)
  (hp: ∀ q∈pins,B.get? q.1=some q.2) (F:NV B X.stack a (.ref C) (some d) .none h') (U:s.heap.UpToSlots h') (hd:H d=some (.xd<|gW n)):L2.Inv X pins σ H {s with heap:=h'}:=by
 have F':NV B (X.env::X.outer) a (.ref C) (some d) .none h':=by rw[<-p.C2];exact F
 have c:=cO I p.ex p.C2 p.fr hB F'.out U hd
 obtain⟨m,hn,hl⟩:=I.loc
 refine⟨I.ok,c.os,c.bare,?_,⟨m,U.ns hn,fun i x v h1 h2 h3=>?_⟩,fun x c e=>(PM p e).elim,I.free,fun x c e=>(PM p e).elim,fun q hq=>?_,c.C1,I.len⟩
 ·rw[p.ex]
  exact c.un
 ·obtain⟨u,r,l⟩:=hl i x v h1 h2 h3
  refine⟨u,r,?_⟩
  rcases l with l |⟨k,c,e,z⟩
  ·exact .inl l
  ·exact(PM p e).elim
 ·have z:=I.pin q hq
  rw[p.pn]at hq
  exact⟨F.Px _ _<|hp q hq,z.2⟩
def sL(p:Plain X)(I:L2.Inv X pins σ H s)(ha:H a=none)(h0:X.Pw.heap.get? a=none)(nl:a≠X.env.locals)(np: ∀ q∈pins,q.1≠a)(ok:EH X.prog X.w (upd H a<|.ext φ) s.heap a (.ext φ)):L2.Inv X pins σ (upd H a<|.ext φ) s:=by
 refine⟨I.ok,I.os,I.bare,⟨I.base.keep,I.base.slot,fun b o q n hx=>?_,I.base.there,fun b xs q=>?_,fun b o u q=>?_,fun b ps q=>?_⟩,I.loc,I.cell,?_,fun x c e=>(PM p e).elim,fun q hq=>?_,fun b u q=>?_,I.len⟩
 ·rw[AQ fun z=>by rw[z,h0]at q;cases q]
  exact I.base.free b o q n hx
 ·have z:=I.base.Vn b xs q
  rw[AQ<|Ac z ha]
  exact z
 ·have z:=I.base.T8 b o u q
  rw[AQ<|Ac z ha]
  exact z
 ·obtain⟨m,z⟩:=I.base.Vh b ps q
  exact⟨m,by rw[AQ<|Ac z ha];exact z⟩
 ·rw[AQ nl.symm]
  exact I.free
 ·have z:=I.pin q hq
  rw[p.pn]at hq
  exact⟨z.1,by rw[AQ<|np q hq];exact z.2.1,z.2.2⟩
 ·by_cases hb:b=a
  ·subst hb
   rw[AJ]at q
   cases q
   exact ok
  ·rw[AQ hb]at q
   exact(I.C1 b u q).Px (fun c v _ r=>r) (fun c r=>by rw[AQ<|Ac r ha];exact r) fun c xs r=>by rw[AQ<|Ac r ha];exact r
def j0(p:Plain X)(I:L2.Inv X pins σ H s)(hn:h'.Ns X.env.locals m')(sb:R3 X.env.locals s.heap h'):L2.Inv X pins (Ed X.N.length none) H {s with heap:=h',toks:=t'}:=by
 have neL: ∀ b o,X.Pw.heap.get? b=some o->b≠X.env.locals:=fun b o e=>DP<|DO (Bz e) I.ok.above
 refine⟨I.ok,I.os,I.bare,⟨fun b o q n hb hx=>(sb.2 b<|neL b o q).trans<|I.base.keep b o q n hb hx,fun b o q n hb hx=>?_,I.base.free,fun b o q hx=>?_,I.base.Vn,I.base.T8,I.base.Vh⟩,⟨m',hn,fun i x v h1 h2 h3=>?_⟩,fun x c e=>(PM p e).elim,I.free,fun x c e=>(PM p e).elim,
  fun q hq=>?_,fun b u q=>?_,by rw[Im]⟩
 ·obtain⟨sl,z⟩:=I.base.slot b o q n hb hx
  exact⟨sl,(sb.2 b<|neL b o q).trans z⟩
 ·obtain⟨o',z⟩:=I.base.there b o q hx
  exact⟨o',(sb.2 b<|neL b o q).trans z⟩
 ·rw[eK]at h2
  split at h2<;>cases h2
 ·have z:=I.pin q hq
  exact⟨(sb.2 _ z.2.2.1).trans z.1,z.2⟩
 ·refine(I.C1 b u q).Px (fun c v hc r=>(sb.2 c ?_).trans r) (fun _ r=>r) fun _ _ r=>r
  rintro rfl
  rcases hc with rfl | hc
  ·rw[I.free]at q
   cases q
  ·rw[I.free]at hc
   cases hc
noncomputable def AF7(C:AK)(sp:Sp)(t:TA)(ts:TS)(i:Nat):TS:=fun D σ H=>t σ H fun vs H1=>sp vs H1 (fun _ H2=>D.nx σ H2) fun c _ H'=> ∃ k,c= .int k 0/\
 ∀ a d,H' a=none->H' d=some (.xd<|gW k)->ts {nx:=fun _ _=>False,rt:=D.rt} (σ.set i<|some<|.ref a) (upd H' a<|XHO C a d)
theorem kT{p1 cpos epos np hpos pos:Pos}(p:Plain X)
  (F:ES X.prog X.w X.K X.mg X.base (Xg X.prog X.w C) kk f fd ps sp) (hr:EE kk X.A) (hg:Gl X x) (hm:X.mg x=some (.ref f)) (hkf:FT X.K (.ref f)=true) (hb:Binds X.K fd ps []) (ha:PA X.nox (e1::es) t)
  (hk:FE X.K C=true) (hgF:Gl X "Fault") (hmF:X.mg "Fault"=some (.ref C)) (hN:X.N.Nodup) (hi:X.N[i]?=some n) (hl:X.env.scope.names.lookup n=some .local) (hs: ∀ a,dX (inH X a) (b0::suite) ts)
  (hdb:(x==("__debug__":Str))=false:=by decide) (he:Au (e1::es) X.env=(false,eval e1 X.env)::Au es X.env:=by rfl) (hpl:(Co cpos<|Au es X.env).any (·.1)=false:=by rfl)
  (hsw:Gb (.Call (.Name x p1) (e1::es) [] cpos) none epos.line X.env=CA false:=by rfl):
  PS X (.Try [.Expr (.Call (.Name x p1) (e1::es) [] cpos) epos] [.ExceptHandler (some<|.Name "Fault" np) (some n) (b0::suite) hpos] [] [] pos) (AF7 C sp t ts i):=by
 intro pins s σ H D I h
 refine wpAny_Try_except<|fV<|qa ?_ I.quiet hsw
 refine Jj<|Lb I hg hm ?_ hdb
 refine LW I.ok.mod.xi hkf (Et (ha cpos pins s σ H _ (I.YQ _) h) (fun us s1 ⟨vs,H1,I1',r,q⟩=>?_) fun _ _ z=>z.elim) he hpl
 have I1:=I1'.Lf
 have hlen:us.length=ps.length:=by rw[<-r.length];exact F.len _ _ _ _ q
 refine⟨I1.Qs,Ov<|MG (F.run X.A X.stack s1 H1 ⟨us,[]⟩ us vs _ _ hr I1.yk ?_ r q) fun rr s' hq=>?_⟩
 ·have z:=hb s1 us I1.Qs (by rw[O5];exact hlen)
  rw[O5]at z
  exact z
 cases rr with
 | ok fl=>
  cases fl with
  | next=>exact DK hq
  | brk=>exact DK hq
  | cont=>exact DK hq
  | ret u=>
   obtain⟨v,H2,I2,_,q2⟩:=I1.after hq
   exact OV<|OV ⟨σ,H2,I2,q2⟩
 | error ev=>
  obtain⟨a,d,n',H',B,rfl,c,k,ek,q2⟩:=hq
  have ek:n'=k:=by cases ek;rfl
  subst ek
  have I':=I1.vx c.os c.un c.C1 c.bare fun b z=>nomatch z
  have st:=p.C2
  have fr0:X.A.frames=some (X.env::X.outer):=by rw[<-st];exact I'.ok.frames
  have cov: ∀ b o,s'.heap.get? b=some o->b∉CM X.stack->((∃ o',X.Pw.heap.get? b=some o')\/(H' b).isSome=true)->B.get? b=some o:=fun b o q nf hb=>c.cov b o q nf<|hb.imp (fun z=>I1.base.there b _ z.choose_spec fun y=>by rw[p.ex]at y;cases y) id
  have pinB: ∀ q∈pins,B.get? q.1=some q.2:=fun q hq=>by
   have z:=I1.pin q<|by rw[p.pn];exact hq
   refine c.cov _ _ (I'.pin q<|by rw[p.pn];exact hq).1 (fun y=>?_)<|.inl ⟨_,z.1⟩
   rw[st]at y
   unfold CM at y
   rw[S9,p.fr]at y
   rcases Cd.mp y with y | y
   ·exact z.2.2.1 y
   ·exact z.2.2.2.1 y
  have yF:NV B (X.env::X.outer) a (.ref C) (some d) .none s'.heap:=by rw[<-st];exact c.yF
  have aH:H' a=none:=by
   cases y:H' a with
   | none=>rfl
   | some u=>
    obtain⟨o,qo⟩:=iB<|I'.C1 a u y
    have nf:a∉CM X.stack:=fun z=>by rw[I'.WK a z]at y;cases y
    have z:=c.cov a o qo nf<|.inr<|by rw[y];rfl
    rw[c.yF.new]at z
    cases z
  have a0:X.Pw.heap.get? a=none:=by
   cases y:X.Pw.heap.get? a with
   | none=>rfl
   | some o=>
    obtain⟨vs',sl,T,oT,ts',he,_⟩:=c.yF.tr
    have nf:a∉CM X.stack:=fun z=>by
     obtain⟨_,o2,q2,nf⟩:=I'.stack.mem z
     rw[he]at q2
     cases q2
     exact nf vs' rfl
    have z:=cov a _ he nf<|.inl ⟨o,y⟩
    rw[c.yF.new]at z
    cases z
  have aL:a≠X.env.locals:=fun z=>by
   obtain⟨vs',sl,T,oT,ts',he,_⟩:=c.yF.tr
   obtain⟨m,⟨o,es',ep,ho,hd,_⟩,_⟩:=I'.loc
   rw[<-z,he]at ho
   cases ho
   cases hd
  have aP: ∀ q∈pins,q.1≠a:=fun q hq z=>by
   have y:=pinB q hq
   rw[z,c.yF.new]at y
   cases y
  refine X0 fr0 p.fr yF fun h4 F4 U4=>nB F4 fun h5 F5 U5=>?_
  have I5:L2.Inv X pins σ H' {s' with heap:=h5}:=iN (fl:= .none) p I' cov pinB (by rw[st];exact F5) (U4.trans U5) c.xd
  have J5:=Inv.inH I5 a
  refine wpAny_handleBy_cons (codeAny_handlers_test<|Lb J5 hgF hmF ?_<|by decide)<|by intro q;cases q
  obtain⟨nm,qn,N',bs,sn,sub,ab,col,dd,k0,k1,k2,k3,k5,mN,hC,-⟩:=Iy J5.Qs hk
  obtain⟨vs5,sl5,T5,oT5,ts5,he5,_⟩:=id F5.tr
  obtain⟨hh,g,dr,tk,os⟩:=s'
  refine wpAny_excMatches_sub_self hC he5 rfl Wm.hasBase<|codeAny_handlers_suite_as<|nB F5 fun h6 F6 U6=>?_
  have I6:L2.Inv X pins σ H' ⟨h6,g,dr,tk,os⟩:=iN (fl:= .none) p I' cov pinB (by rw[st];exact F6) ((U4.trans U5).trans U6) c.xd
  obtain⟨vs6,sl6,T6,oT6,ts6,he6,_⟩:=F6.tr
  have I7:=sL (φ:=fun h=> ∃ vs sl,h.get? a=some ⟨.ref C,some d,.fields vs,sl⟩) p I6 aH a0 aL aP ⟨⟨vs6,sl6,he6⟩,⟨_,he6⟩,fun h1 h2 ⟨v',s',q'⟩ k=>⟨v',s',k _ q'⟩⟩
  refine So I7 hN hi (.inl hl) (v:= .ref a) rfl (fun s8 I8=>?_)<|.inr hl
  refine Et (hs a pins s8 _ _ _ (Inv.inH I8 a)<|q2 a d aH c.xd) (fun f s9 h9=>?_) fun _ _ z=>z.elim
  cases f with
  | next=>obtain⟨_,_,_,z⟩:=h9;exact z.elim
  | brk=>obtain⟨_,_,_,z⟩:=h9;exact z.elim
  | cont=>obtain⟨_,_,_,z⟩:=h9;exact z.elim
  | ret u=>
   obtain⟨v,σ',H9,I9,rv,z⟩:=h9
   have I10:=Inv.AFr I.ok.hd I9
   obtain⟨m9,hn9,_⟩:=I10.loc
   exact wpAny_nameGoes hl hn9 (by rw[I10.ok.kind];rfl) fun h' m' hn' sb=>⟨v,_,H9,j0 p I10 hn' sb,rv,z⟩
end
section
structure B4 where
 ad:Nat->AK
 fd:Nat->Ff
 cl:Nat->AK
 tg:Nat->AK
structure Df(K:AS)(mg:Str->Option AN)(x:Str)(st:Bi)(ps:List Str)(f:AK)(fd:Ff):Prop where
 F:Fun K x x st f fd
 b:Binds K fd ps []
 g:mg x=some (.ref f)
structure Dm(K:AS)(C:AK)(m qual:Str)(st:Bi)(ps:List Str)(f:AK)(fd:Ff):Prop where
 F:Fun K m qual st f fd
 b:Binds K fd ps []
 m:Meth K C m f
 c:af K C
noncomputable def AD2:Bi->Str
 | .FunctionDef x _ _ _ _ _ _ _ _ _=>x
 | _=>Oz
noncomputable def ABk(st:Bi):List Str:=(HN st).args.map (·.arg)
noncomputable abbrev Bo(K:AS)(mg:Str->Option AN)(A:B4)(n k:Nat):Prop:=Df K mg (AD2<|top k) (top k) (ABk<|top k) (A.ad n) (A.fd n)
noncomputable abbrev gC(K:AS)(A:B4)(c n i j:Nat)(q:String):Prop:=Dm K (A.cl c) (AD2<|inClass (top i) j) q (inClass (top i) j) (ABk<|inClass (top i) j) (A.ad n) (A.fd n)
noncomputable abbrev yt(K:AS)(A:B4)(n i j:Nat)(q:String):Prop:=Fun K "__init__" q (inClass (top i) j) (A.ad n) (A.fd n)/\Binds K (A.fd n) (ABk<|inClass (top i) j) []
def U7{K:AS}{l:List Str}(c:af K C)(h:(l.all fun x=>C6 K (.ref C) x==some none)=true)(e:l.contains x=true):FA K C x:=⟨c,FR.mp<|F7.mp h x<|by simpa using e⟩
variable(K:AS)(mg:Str->Option AN)(A:B4)
noncomputable def ve:List Str:= ["kind","ground","font","functions","code","whose","place","after","byte","done","frames","stack","projection","freedom","old_projection","references","pointers","loop","rounding","rounding_byte"]
noncomputable def ik:List Str:= ["code","whose","back","start","left"]
noncomputable def jQ:List Str:= ["old","now","marks"]
noncomputable def ot:List Str:= ["zone_number","number","step"]
noncomputable def nJ:List Str:= ["least","cut_in","width","width_cut_in","delta_base","delta_shift","flip"]
noncomputable def aV:List Str:= ["units","dots","cells","controls","twilight","outline","ends","kept","still","plain"]
noncomputable def hJ:List Str:= ["numbers","place"]
noncomputable def Xk:List Str:= ["units","point_count","cell_count","told_controls","font","functions","size","shape"]
structure TxC:Prop where
 g6:af K (A.cl 1)
 wx:Mk K (A.cl 1) (A.ad 17)
 uv:mg "Run"=some (.ref (A.cl 1))
 AEE:(ve.all fun x=>C6 K (.ref (A.cl 1)) x==some none)=true
 TJ:af K (A.cl 2)
 yc:Mk K (A.cl 2) (A.ad 28)
 zY:mg "Frame"=some (.ref (A.cl 2))
 y_:(ik.all fun x=>C6 K (.ref (A.cl 2)) x==some none)=true
 SJ:af K (A.cl 3)
 b8:Mk K (A.cl 3) (A.ad 45)
 f9:mg "Point"=some (.ref (A.cl 3))
 ye:(jQ.all fun x=>C6 K (.ref (A.cl 3)) x==some none)=true
 YG:af K (A.cl 4)
 ACJ:Mk K (A.cl 4) (A.ad 89)
 ACx:mg "Lead"=some (.ref (A.cl 4))
 ACy:(ot.all fun x=>C6 K (.ref (A.cl 4)) x==some none)=true
 Xj:af K (A.cl 5)
 xQ:Mk K (A.cl 5) (A.ad 171)
 wF:mg "Kept"=some (.ref (A.cl 5))
 ABB:(nJ.all fun x=>C6 K (.ref (A.cl 5)) x==some none)=true
 N4:af K (A.cl 6)
 iQ:Mk K (A.cl 6) (A.ad 173)
 iF:mg "Ground"=some (.ref (A.cl 6))
 wa:(aV.all fun x=>C6 K (.ref (A.cl 6)) x==some none)=true
 Rt:af K (A.cl 7)
 AAP:Mk K (A.cl 7) (A.ad 176)
 xr:mg "Calls"=some (.ref (A.cl 7))
 yX:(hJ.all fun x=>C6 K (.ref (A.cl 7)) x==some none)=true
 Ko:af K (A.cl 8)
 rM:Mk K (A.cl 8) (A.ad 180)
 t6:mg "Machine"=some (.ref (A.cl 8))
 rX:(Xk.all fun x=>C6 K (.ref (A.cl 8)) x==some none)=true
 fault:FC K mg (A.cl 0) (A.ad 0) (A.fd 0)
structure TxK:Prop where
 U9: ∃ t,mg "ONE"=some (.int 16384 t)
 ACB: ∃ t,mg "HALF"=some (.int 0 t)
 uy: ∃ t,mg "GRID"=some (.int 1 t)
 wd: ∃ t,mg "DOUBLE"=some (.int 2 t)
 ABy: ∃ t,mg "DOWN"=some (.int 3 t)
 AFx: ∃ t,mg "UP"=some (.int 4 t)
 AA_: ∃ t,mg "OFF"=some (.int 5 t)
 ax: ∃ t,mg "BY_BYTE"=some (.int 6 t)
 LB: ∃ t,mg "BY_BYTE_ACROSS"=some (.int 7 t)
 ku: ∃ t,mg "FONT"=some (.int 0 t)
 ug: ∃ t,mg "SIZE"=some (.int 1 t)
 yE: ∃ t,mg "SHAPE"=some (.int 2 t)
 Za: ∃ t,mg "STACK_LIMIT"=some (.int 128 t)
 RT:mg "X_AXIS"=some (.ref (A.tg 0))
 Hn: ∀ H,Dh K H (A.tg 0) [.int 16384,.int 0]
 xG:mg "Y_AXIS"=some (.ref (A.tg 1))
 N3: ∀ H,Dh K H (A.tg 1) [.int 0,.int 16384]
 ACC: ∃ t,mg "ELSE"=some (.int 27 t)
 AB3: ∃ t,mg "FDEF"=some (.int 44 t)
 ACX: ∃ t,mg "ENDF"=some (.int 45 t)
 AGE: ∃ t,mg "IF"=some (.int 88 t)
 AAk: ∃ t,mg "EIF"=some (.int 89 t)
 VZ: ∃ t,mg "NESTING_LIMIT"=some (.int 8 t)
 LI: ∃ t,mg "FUNCTION_COUNT"=some (.int 256 t)
 jN:mg "ACTS_flow"=some (.ref (A.tg 2))
 Qa: ∃ t,mg "ON_CURVE"=some (.int 1 t)
 Nq: ∃ t,mg "TOUCHED_X"=some (.int 2 t)
 Nl: ∃ t,mg "TOUCHED_Y"=some (.int 4 t)
 ZH:mg "ACTS_points"=some (.ref (A.tg 3))
 Xh:mg "DELTA_STARTS"=some (.ref (A.tg 4))
 Vc:mg "ACTS_shifting"=some (.ref (A.tg 5))
 eR:mg "ACTS_stack"=some (.ref (A.tg 6))
 d_: ∃ t,mg "LOOP_LIMIT"=some (.int 65535 t)
 Zi: ∃ t,mg "SHIFT_LIMIT"=some (.int 6 t)
 ABU:mg "WAYS"=some (.ref (A.tg 7))
 eI:mg "ACTS_state"=some (.ref (A.tg 8))
 P6: ∃ t,mg "INSTRUCTION_LIMIT"=some (.int 5000 t)
 MH: ∃ t,mg "CODE_LIMIT"=some (.int 2048 t)
 Jb: ∃ t,mg "DONE"=some (.int 0 t)
 DA: ∃ t,mg "OUT_OF_BOUNDS"=some (.int (-1) t)
 F_: ∃ t,mg "NOT_THE_TIME"=some (.int (-2) t)
 ID: ∃ t,mg "PROGRAM_FAULT"=some (.int (-5) t)
 mi: ∃ t,mg "CELLS"=some (.int 0 t)
 X8: ∃ t,mg "CONTROLS"=some (.int 1 t)
 zq: ∃ t,mg "OLD_X"=some (.int 2 t)
 yR: ∃ t,mg "OLD_Y"=some (.int 3 t)
 x8:mg "CALLS"=some (.ref (A.tg 9))
 Uo:mg "abs"=none
 CD:mg "len"=none
 ADZ:mg "max"=none
 AE4:mg "min"=none
 Y6:mg "list"=none
 KC:mg "range"=none
 Hl:mg "enumerate"=none
 jG:mg "Exception"=none
class Txt (K:outParam AS) (mg:outParam (Str->Option AN)) (A:outParam B4):Prop where
 c:TxC K mg A
 k:TxK K mg A
 kW:yt K A 0 1 0 "Fault.__init__"
 cut:Bo K mg A 1 4
 PB:Bo K mg A 2 5
 GY:Bo K mg A 3 6
 near:Bo K mg A 4 7
 scaled:Bo K mg A 5 8
 aA:Bo K mg A 6 9
 Ub:Bo K mg A 7 10
 unit:Bo K mg A 8 11
 along:Bo K mg A 9 12
 way:Bo K mg A 10 13
 MM:Bo K mg A 11 14
 Z2:Bo K mg A 12 24
 RK:Bo K mg A 13 25
 SE:Bo K mg A 14 26
 SK:Bo K mg A 15 27
 rounded:Bo K mg A 16 28
 SA:yt K A 17 36 0 "Run.__init__"
 AZ:gC K A 1 18 36 1 "Run.take"
 HL:gC K A 1 19 36 2 "Run.take_many"
 EL:gC K A 1 20 36 3 "Run.take_loop"
 BW:gC K A 1 21 36 4 "Run.give"
 Cm:gC K A 1 22 36 5 "Run.round_number"
 Yl:gC K A 1 23 36 6 "Run.zone"
 Ga:gC K A 1 24 36 7 "Run.point_of_zone"
 BV:gC K A 1 25 36 8 "Run.point"
 Cw:gC K A 1 26 36 9 "Run.reference"
 within:Bo K mg A 27 37
 Xx:yt K A 28 46 0 "Frame.__init__"
 XY:Bo K mg A 29 47
 behind:Bo K mg A 30 48
 KU:Bo K mg A 31 49
 Ml:Bo K mg A 32 50
 Sg:Bo K mg A 33 51
 K5:Bo K mg A 34 52
 Yj:Bo K mg A 35 53
 ue:Bo K mg A 36 54
 ADi:Bo K mg A 37 55
 fb:Bo K mg A 38 56
 define:Bo K mg A 39 57
 Sn:Bo K mg A 40 58
 enter:Bo K mg A 41 59
 bJ:Bo K mg A 42 60
 Xy:Bo K mg A 43 61
 gz:Bo K mg A 44 63
 Lm:yt K A 45 68 0 "Point.__init__"
 Xl:gC K A 3 46 68 1 "Point.twin"
 Om:gC K A 3 47 68 2 "Point.put"
 Nz:gC K A 3 48 68 3 "Point.shift"
 MD:gC K A 3 49 68 4 "Point.mark"
 MR:gC K A 3 50 68 5 "Point.unmark"
 N1:Bo K mg A 51 69
 AAb:Bo K mg A 52 70
 less:Bo K mg A 53 71
 Yx:Bo K mg A 54 73
 uK:Bo K mg A 55 74
 D_:Bo K mg A 56 75
 Fi:Bo K mg A 57 76
 bo:Bo K mg A 58 77
 Qv:Bo K mg A 59 78
 EJ:Bo K mg A 60 79
 move:Bo K mg A 61 80
 IL:Bo K mg A 62 82
 NK:Bo K mg A 63 83
 KY:Bo K mg A 64 84
 JE:Bo K mg A 65 85
 Hy:Bo K mg A 66 86
 mq:Bo K mg A 67 87
 anchor:Bo K mg A 68 88
 JD:Bo K mg A 69 89
 Q3:Bo K mg A 70 90
 IB:Bo K mg A 71 91
 IJ:Bo K mg A 72 92
 g8:Bo K mg A 73 93
 kM:Bo K mg A 74 94
 LV:Bo K mg A 75 95
 Gx:Bo K mg A 76 96
 U2:Bo K mg A 77 97
 Kb:Bo K mg A 78 98
 IK:Bo K mg A 79 99
 Gz:Bo K mg A 80 100
 Hs:Bo K mg A 81 101
 aE:Bo K mg A 82 102
 vk:Bo K mg A 83 103
 crossing:Bo K mg A 84 104
 Kt:Bo K mg A 85 105
 Zz:Bo K mg A 86 107
 QK:Bo K mg A 87 110
 M3:Bo K mg A 88 111
 bG:yt K A 89 112 0 "Lead.__init__"
 Vv:Bo K mg A 90 113
 Li:Bo K mg A 91 114
 Ki:Bo K mg A 92 115
 Ke:Bo K mg A 93 116
 Qx:Bo K mg A 94 117
 M0:Bo K mg A 95 118
 Z9:Bo K mg A 96 119
 Uu:Bo K mg A 97 120
 VF:Bo K mg A 98 121
 Sr:Bo K mg A 99 122
 QV:Bo K mg A 100 123
 Q_:Bo K mg A 101 124
 Nb:Bo K mg A 102 125
 LZ:Bo K mg A 103 126
 Ij:Bo K mg A 104 127
 F0:Bo K mg A 105 128
 aB:Bo K mg A 106 130
 MO:Bo K mg A 107 132
 Mc:Bo K mg A 108 133
 bM:Bo K mg A 109 134
 drop:Bo K mg A 110 135
 empty:Bo K mg A 111 136
 swap:Bo K mg A 112 137
 YJ:Bo K mg A 113 138
 JP:Bo K mg A 114 139
 Mi:Bo K mg A 115 140
 Mw:Bo K mg A 116 141
 roll:Bo K mg A 117 142
 Y7:Bo K mg A 118 143
 bK:Bo K mg A 119 144
 Kh:Bo K mg A 120 145
 R0:Bo K mg A 121 146
 Gq:Bo K mg A 122 147
 holds:Bo K mg A 123 148
 compare:Bo K mg A 124 149
 Qu:Bo K mg A 125 150
 gh:Bo K mg A 126 151
 X4:Bo K mg A 127 152
 iT:Bo K mg A 128 153
 nW:Bo K mg A 129 154
 aN:Bo K mg A 130 155
 divide:Bo K mg A 131 156
 multiply:Bo K mg A 132 157
 Zy:Bo K mg A 133 158
 negate:Bo K mg A 134 159
 qy:Bo K mg A 135 160
 AAa:Bo K mg A 136 161
 RN:Bo K mg A 137 162
 U1:Bo K mg A 138 163
 Gg:Bo K mg A 139 164
 LP:Bo K mg A 140 165
 Ti:Bo K mg A 141 166
 a_:Bo K mg A 142 167
 aC:Bo K mg A 143 169
 HX:Bo K mg A 144 174
 JM:Bo K mg A 145 175
 Ii:Bo K mg A 146 176
 Hv:Bo K mg A 147 177
 IH:Bo K mg A 148 178
 JZ:Bo K mg A 149 179
 NU:Bo K mg A 150 180
 Jv:Bo K mg A 151 181
 HZ:Bo K mg A 152 182
 Jz:Bo K mg A 153 183
 LO:Bo K mg A 154 184
 gO:Bo K mg A 155 185
 EB:Bo K mg A 156 186
 EX:Bo K mg A 157 187
 ah:Bo K mg A 158 188
 YO:Bo K mg A 159 189
 Ky:Bo K mg A 160 190
 Zv:Bo K mg A 161 191
 Yz:Bo K mg A 162 192
 Nv:Bo K mg A 163 193
 Mv:Bo K mg A 164 194
 NN:Bo K mg A 165 195
 Z5:Bo K mg A 166 197
 uY:Bo K mg A 167 200
 QM:Bo K mg A 168 201
 HK:Bo K mg A 169 202
 R6:Bo K mg A 170 203
 Tu:yt K A 171 205 0 "Kept.__init__"
 aa:gC K A 5 172 205 1 "Kept.twin"
 Nk:yt K A 173 206 0 "Ground.__init__"
 Xf:Bo K mg A 174 207
 LK:Bo K mg A 175 208
 YF:yt K A 176 219 0 "Calls.__init__"
 Y1:gC K A 7 177 219 1 "Calls.more"
 A3:gC K A 7 178 219 2 "Calls.read_number"
 DN:gC K A 7 179 219 3 "Calls.read_row"
 SY:yt K A 180 220 0 "Machine.__init__"
 Jl:Bo K mg A 181 221
 Tt:Bo K mg A 182 222
 N8:Bo K mg A 183 223
 Td:Bo K mg A 184 224
 UD:Bo K mg A 185 225
 Ug:Bo K mg A 186 226
 iO:Bo K mg A 187 227
 YS:Bo K mg A 188 228
 QP:Bo K mg A 189 229
 Ni:Bo K mg A 190 230
 SW:Bo K mg A 191 231
 OP:Bo K mg A 192 232
 X9:Bo K mg A 193 233
 RD:Bo K mg A 194 234
 UY:Bo K mg A 195 235
 L9:Bo K mg A 196 236
 Qn:Bo K mg A 197 237
 answers:Bo K mg A 198 239
section
variable{K mg A}
def AL [T:Txt K mg A]{x:Str}(e:ve.contains x=true:=by kernel_rfl):FA K (A.cl 1) x:=U7 T.c.g6 T.c.AEE e
def Eb [T:Txt K mg A]{x:Str}(e:ik.contains x=true:=by kernel_rfl):FA K (A.cl 2) x:=U7 T.c.TJ T.c.y_ e
def Aa [T:Txt K mg A]{x:Str}(e:jQ.contains x=true:=by kernel_rfl):FA K (A.cl 3) x:=U7 T.c.SJ T.c.ye e
def FQ [T:Txt K mg A]{x:Str}(e:ot.contains x=true:=by kernel_rfl):FA K (A.cl 4) x:=U7 T.c.YG T.c.ACy e
def BG [T:Txt K mg A]{x:Str}(e:nJ.contains x=true:=by kernel_rfl):FA K (A.cl 5) x:=U7 T.c.Xj T.c.ABB e
def AW [T:Txt K mg A]{x:Str}(e:aV.contains x=true:=by kernel_rfl):FA K (A.cl 6) x:=U7 T.c.N4 T.c.wa e
def Ee [T:Txt K mg A]{x:Str}(e:hJ.contains x=true:=by kernel_rfl):FA K (A.cl 7) x:=U7 T.c.Rt T.c.yX e
def Ao [T:Txt K mg A]{x:Str}(e:Xk.contains x=true:=by kernel_rfl):FA K (A.cl 8) x:=U7 T.c.Ko T.c.rX e
end
end
def OT:Ih "abs"=some (.builtin "abs"):=by decide+kernel
def ACf:Ih "max"=some (.builtin "max"):=by decide+kernel
def ABX:Ih "min"=some (.builtin "min"):=by decide+kernel
def SH:Ih "list"=some (.type "list"):=by decide+kernel
def B8(h:Rf n 1000=true):n<1000:=pq h
def Jg.mono: ∀{o:Option (Option V)} {k k':V->Prop},Jg o k->(∀ v,k v->k' v)->Jg o k':=fun h f=>let⟨_,e,q⟩:=Jg.ex h;Jg.of e (f _ q)
def RI.mono: ∀{o:V} {k k':Int->Prop},RI o k->(∀ v,k v->k' v)->RI o k':=fun h f=>let⟨_,e,q⟩:=RI.ex h;RI.of e (f _ q)
def QL.mono: ∀{o:V} {k k':AK->Prop},QL o k->(∀ v,k v->k' v)->QL o k':=fun h f=>let⟨_,e,q⟩:=QL.ex h;QL.of e (f _ q)
section
variable{X:Cx}
def zS(hg:Gl X x)(hm: ∃ t,X.mg x=some (.int i t))(hd:(x==("__debug__":Str))=false:=by decide):PE X (.Name x pos) (tC<|.int i):=
 let⟨t,e⟩:=hm
 DZ hg e ⟨t,rfl⟩ hd
noncomputable def ADk(_ j:Int):Prop:=j≠0/\j.natAbs<2^200
def Bn:Us X (Gi .FloorDiv) (rI ADk fun i j=> .int<|i.fdiv j):=opI fun i j _ _ _ _ _ hc q=>floordiv_int hc.1 q (.inl<|PyProof.noPylong_of_log2 (by
 have h1:j.natAbs≠0:=fun z=>hc.1<|Int.natAbs_eq_zero.mp z
 have h2:=(Nat.log2_lt h1).mpr hc.2
 lia))
end
section
variable{X:Cx}{CX:xl}{k k':Nat}{f C:AK}{fd:Ff}{ps:List Str}{sp:Sp}{E:XK}{x m qual:Str}{p pos pos' apos:Pos}{e e' e1 e2 e3 e4 o a b:Expr}{es:List Expr}{te ta tb tc td:TE}{t:TA}{st:Bi}
def AO(i:Nat)(he:PE X e te)(hi:X.N[i]?=some x:=by exact rfl)(k:X.env.scope.names.lookup x=some .local:=by exact rfl)(hs:Gb e (some<|.Name x pos') pos.line X.env=CA false:=by exact rfl):
  PS X (.Assign [.Name x pos'] e pos) (zE te<|RZ i):=fun pins s σ H D I h=>lH I.ok.nd hi (.inl k) he hs (.inr k) pins s σ H D I h
def Fe(i:Nat)(hi:X.N[i]?=some x:=by exact rfl)(k:X.env.scope.names.lookup x=some .local:=by exact rfl):PG X (.Name x pos) (RZ i):=fun pins s σ H v u Q I r h=>yo I.ok.nd hi (.inl k) (.inr k) pins s σ H v u Q I r h
def iy(i:Nat)(he:PE X e te)(ho:PIp X op ti)(hi:X.N[i]?=some x:=by exact rfl)(k:X.env.scope.names.lookup x=some .local:=by exact rfl):
  PS X (.AugAssign (.Name x pos') op e pos) (AE6 i te ti):=fun pins s σ H D I h=>ABQ I.ok.nd hi (.inl k) he ho (.inr k) pins s σ H D I h
def Ah(F:ES X.prog X.w X.K X.mg X.base CX k f fd ps sp)(D:Df X.K X.mg x st ps f fd)(ha:PA X (e::es) t)(hr:EE k' X.A:=by exact hr)(hx:Passes CX X E:=by first | exact Gp | exact gQ)(hk:k<=k':=by decide)(hg:Gl X x:=by exact rfl)
  (hdb:(x==("__debug__":Str))=false:=by decide) (he:Au (e::es) X.env=(false,eval e X.env)::Au es X.env:=by exact rfl) (hpl:(Co pos<|Au es X.env).any (·.1)=false:=by exact rfl):
  PE X (.Call (.Name x p) (e::es) [] pos) (AAj sp [] E t):=xp F (hr.mono hk) hg D.g D.F.kp D.b .nil hx ha hdb he hpl
def Be{pl:Sem Bool}(he:PE X o ta)(F:ES X.prog X.w X.K X.mg X.base CX k f fd ps sp)(D:Dm X.K C m qual st ps f fd)(ha:PA X (e::es) t)(hr:EE k' X.A:=by exact hr)(hx:Passes CX X E:=by first | exact Gp | exact gQ)(hk:k<=k':=by decide)
  (hst:Au (e::es) X.env=(false,eval e X.env)::Au es X.env:=by exact rfl) (hpl:(Co pos<|Au es X.env).any (·.1)=false:=by exact rfl)
  (ht:eval (.Call (.Attribute o m apos) (e::es) [] pos) X.env=(do
   let ov <-eval o X.env
   J1 apos.atName
   let(f,first) <-Hd [ov] (Ji ov m pl)
   ME pos f first (Co pos<|Au (e::es) X.env) (Ig pos<|Iv [] X.env)):=by exact rfl):
  PE X (.Call (.Attribute o m apos) (e::es) [] pos) (o_ C m sp [] E ta t):=xu he D.c D.m F (hr.mono hk) D.b .nil hx ha hst hpl ht
def BI{pl:Sem Bool}(he:PE X o ta)(F:ES X.prog X.w X.K X.mg X.base CX k f fd ps sp)(D:Dm X.K C m qual st ps f fd)(hr:EE k' X.A:=by exact hr)(hx:Passes CX X E:=by first | exact Gp | exact gQ)(hk:k<=k':=by decide)
  (ht:eval (.Call (.Attribute o m apos) [] [] pos) X.env=(do
   let ov <-eval o X.env
   J1 apos.atName
   let(f,first) <-Hd [ov] (Ji ov m pl)
   ME pos f first (Co pos<|Au [] X.env) (Ig pos<|Iv [] X.env)):=by exact rfl):
  PE X (.Call (.Attribute o m apos) [] [] pos) (o_ C m sp [] E ta Ua):=v7 he D.c D.m F (hr.mono hk) D.b .nil hx ht
def AR(he:PE X e ta)(hb:J0 e x X.env (eval e X.env)=eval e X.env:=by exact rfl):PE X (.Attribute e x pos) (vE X.K ta x):=dU he hb
def BC(ha:PE X o ta)(hv:PE X e tb)(hs:Gb e (some<|.Attribute o x pos') pos.line X.env=CA false:=by exact rfl):PS X (.Assign [.Attribute o x pos'] e pos) (AEp X.K ta tb x):=ACR ha hv hs
def A0(ho:Us X (Gu op) r)(ha:PE X a ta)(hb:PE X b tb)(hm:Ie op b=false:=by exact uQ _):PT X (.Compare a [op] [b] pos) (Y9<|iX r ta tb):=z_ ho ha hb hm
def IG(ho:Us X (Gu op) r)(ha:PE X a ta)(hb:PE X b tb)(hm:Ie op b=false:=by exact uQ _):PE X (.Compare a [op] [b] pos) (iX r ta tb):=AAV ho ha hb hm
def A9(hr:t9 X r)(ha:PE X a ta)(hb:PE X b tb)(hs:mh b:=by exact fun _ _=>rfl):PE X (.Subscript a b pos) (iX r ta tb):=AE0 hr ha hb hs
def Bt(hm: ∃ t,X.mg x=some (.int i t))(hg:Gl X x:=by exact rfl)(hd:(x==("__debug__":Str))=false:=by decide):PE X (.Name x pos) (tC<|.int i):=zS hg hm hd
def Dc(hm:X.mg "len"=none)(ha:PA X (e::es) t)(hg:Gl X "len":=by exact rfl)(he:Au (e::es) X.env=(false,eval e X.env)::Au es X.env:=by exact rfl)(hpl:(Co pos<|Au es X.env).any (·.1)=false:=by exact rfl):
  PE X (.Call (.Name "len" p) (e::es) [] pos) (tCB (ABJ X.K) t):=EU fB hg hm PySem.boot_len ha (he:=he) (hpl:=hpl)
def Af(h1:PE X e1 ta)(c1:Au [e1] X.env=(false,eval e1 X.env)::Au [] X.env:=by exact rfl):PA X [e1] (J9 ta Ua):=Cs h1 Ez c1
def Ax(h1:PE X e1 ta)(h2:PE X e2 tb)(c1:Au [e1,e2] X.env=(false,eval e1 X.env)::Au [e2] X.env:=by exact rfl)(c2:Au [e2] X.env=(false,eval e2 X.env)::Au [] X.env:=by exact rfl):PA X [e1,e2] (J9 ta<|J9 tb Ua):=Cs h1 (Cs h2 Ez c2) c1
def CH(h1:PE X e1 ta)(h2:PE X e2 tb)(h3:PE X e3 tc)(c1:Au [e1,e2,e3] X.env=(false,eval e1 X.env)::Au [e2,e3] X.env:=by exact rfl)(c2:Au [e2,e3] X.env=(false,eval e2 X.env)::Au [e3] X.env:=by exact rfl)(c3:Au [e3] X.env=(false,eval e3 X.env)::Au [] X.env:=by exact rfl):PA X [e1,e2,e3] (J9 ta<|J9 tb<|J9 tc Ua):=Cs h1 (Cs h2 (Cs h3 Ez c3) c2) c1
def RQ(h1:PE X e1 ta)(h2:PE X e2 tb)(h3:PE X e3 tc)(h4:PE X e4 td)(c1:Au [e1,e2,e3,e4] X.env=(false,eval e1 X.env)::Au [e2,e3,e4] X.env:=by exact rfl)(c2:Au [e2,e3,e4] X.env=(false,eval e2 X.env)::Au [e3,e4] X.env:=by exact rfl)(c3:Au [e3,e4] X.env=(false,eval e3 X.env)::Au [e4] X.env:=by exact rfl)(c4:Au [e4] X.env=(false,eval e4 X.env)::Au [] X.env:=by exact rfl):PA X [e1,e2,e3,e4] (J9 ta<|J9 tb<|J9 tc<|J9 td Ua):=Cs h1 (Cs h2 (Cs h3 (Cs h4 Ez c4) c3) c2) c1
def AH(hN:X.N[0]?=some x:=by exact rfl)(hv:wB X.env.scope x:=by first | exact FU rfl | exact DD (FU rfl) | exact DD<|DD rfl)(hd:(x==("__debug__":Str))=false:=by decide)(hcd:(x==("__classdict__":Str))=false:=by decide):PE X (.Name x pos) (Jh 0):=Qz hN hv hd hcd
def AV(hN:X.N[1]?=some x:=by exact rfl)(hv:wB X.env.scope x:=by first | exact FU rfl | exact DD (FU rfl) | exact DD<|DD rfl)(hd:(x==("__debug__":Str))=false:=by decide)(hcd:(x==("__classdict__":Str))=false:=by decide):PE X (.Name x pos) (Jh 1):=Qz hN hv hd hcd
def Aj(hN:X.N[2]?=some x:=by exact rfl)(hv:wB X.env.scope x:=by first | exact FU rfl | exact DD (FU rfl) | exact DD<|DD rfl)(hd:(x==("__debug__":Str))=false:=by decide)(hcd:(x==("__classdict__":Str))=false:=by decide):PE X (.Name x pos) (Jh 2):=Qz hN hv hd hcd
def A6(hN:X.N[3]?=some x:=by exact rfl)(hv:wB X.env.scope x:=by first | exact FU rfl | exact DD (FU rfl) | exact DD<|DD rfl)(hd:(x==("__debug__":Str))=false:=by decide)(hcd:(x==("__classdict__":Str))=false:=by decide):PE X (.Name x pos) (Jh 3):=Qz hN hv hd hcd
def CG(hN:X.N[4]?=some x:=by exact rfl)(hv:wB X.env.scope x:=by first | exact FU rfl | exact DD (FU rfl) | exact DD<|DD rfl)(hd:(x==("__debug__":Str))=false:=by decide)(hcd:(x==("__classdict__":Str))=false:=by decide):PE X (.Name x pos) (Jh 4):=Qz hN hv hd hcd
def ET(hN:X.N[5]?=some x:=by exact rfl)(hv:wB X.env.scope x:=by first | exact FU rfl | exact DD (FU rfl) | exact DD<|DD rfl)(hd:(x==("__debug__":Str))=false:=by decide)(hcd:(x==("__classdict__":Str))=false:=by decide):PE X (.Name x pos) (Jh 5):=Qz hN hv hd hcd
end
inductive vv(c:Int->Prop)(g:Int->Int)(vs:List V)(H:Hp)(Q:VK)(E_:XK):Prop
 | mk: ∀ a,vs= [.int a]->c a->Q (.int (g a)) H->vv c g vs H Q E_
inductive wL(c:Int->Int->Prop)(g:Int->Int->Int)(vs:List V)(H:Hp)(Q:VK)(E_:XK):Prop
 | mk: ∀ a b,vs= [.int a,.int b]->c a b->Q (.int (g a b)) H->wL c g vs H Q E_
inductive kj(c:Int->Int->Int->Prop)(g:Int->Int->Int->Int)(vs:List V)(H:Hp)(Q:VK)(E_:XK):Prop
 | mk: ∀ a b d,vs= [.int a,.int b,.int d]->c a b d->Q (.int (g a b d)) H->kj c g vs H Q E_
def Fun.okF{K:AS}{st:Bi}(F:Fun K x qual st f fd)(S:Ry N ps (BZ st))
  (len: ∀ vs H Q E,sp vs H Q E->vs.length=ps.length)
  (hbody: ∀ cdv (A:De) (outer:List Env) (s:Az) (H:Hp) (vs:List V) (Q:VK) (E:XK),EE k (A.deeper<|GK qual (BZ st) s.heap.objs.size f cdv)->sp vs H Q E->
   ∃ t,dX (NC (Xg P w C) P w K mg base N qual (BZ st) f cdv A outer s H E) (EO st) t/\t {nx:=fun _ H'=>Q .non H',rt:=Q} (start N vs) H):ES P w K mg base (Xg P w C) (k+1) f fd ps sp:=by
 obtain⟨oc,od,kV,doc,pm,an,cdv,ct,osl,rfl,lk,hcd⟩:=F.ex
 exact AAv lk hcd S len fun A outer s H vs Q E hr hsp=>hbody cdv A outer s H vs Q E hr hsp
noncomputable def zh(N ps:List Str)(sc:FW):Bool:=(match sc.kind with | .function=>true | _=>false)&&(!sc.isCoroutine&&(!sc.isGenerator&&decide (N.Nodup/\N.take ps.length=ps/\(∀ x∈ps,sc.names.lookup x=some .local\/sc.names.lookup x=some .cell)/\ ∀ y∈sc.names,y.2≠ .free)))
def zh.ok(h:zh N ps sc=true):Ry N ps sc:=by
 unfold zh at h
 simp only[Ol,L8,Lz]at h
 obtain⟨h1,h2,h3,h4,h5,h6,h7⟩:=h
 refine⟨?_,h2,h3,h4,h5,h6,h7⟩
 cases e:sc.kind<;>rw[e]at h1<;>first | rfl | exact absurd h1 D2
section
variable{P:BH}{w:Ap}{K:AS}{mg:Str->Option AN}{base:Ay}{C:AK}{x qual:Str}{st:Bi}{f:AK}{fd:Ff}{ps:List Str}{k:Nat}{sp:Sp}
theorem _root_.L2.Fun.DL(F:Fun K x qual st f fd)(N:List Str)
  (hbody: ∀{cdv:AN} {A:De} {outer:List Env} {s:Az} (H:Hp) (vs:List V) (Q:VK) (E:XK),EE k (A.deeper<|GK qual (BZ st) s.heap.objs.size f cdv)->sp vs H Q E->
   ∃ t,dX (NC cV P w K mg base N qual (BZ st) f cdv A outer s H E).nox (EO st) t/\t {nx:=fun _ H'=>Q .non H',rt:=Q} (start N vs) H)
  (len: ∀ vs H Q E,sp vs H Q E->vs.length=ps.length:=by intro _ _ _ _ h;cases h;first |(subst_vars;rfl) |(rename_i h;obtain⟨_,h,_⟩:=h;subst h;rfl) |(rename_i h;obtain⟨_,_,h,_⟩:=h;subst h;rfl) |(rename_i h;obtain⟨_,_,_,h,_⟩:=h;subst h;rfl)) (S:zh N ps (BZ st)=true:=by kernel_rfl):ES P w K mg base cV (k+1) f fd ps sp:=F.ok (zh.ok S) len @hbody
theorem _root_.L2.Fun.V6(F:Fun K x qual st f fd)(N:List Str)
  (hbody: ∀{cdv:AN} {A:De} {outer:List Env} {s:Az} (H:Hp) (vs:List V) (Q:VK) (E:XK),EE k (A.deeper<|GK qual (BZ st) s.heap.objs.size f cdv)->sp vs H Q E->
   ∃ t,dX (NC (Xg P w C) P w K mg base N qual (BZ st) f cdv A outer s H E) (EO st) t/\t {nx:=fun _ H'=>Q .non H',rt:=Q} (start N vs) H)
  (len: ∀ vs H Q E,sp vs H Q E->vs.length=ps.length:=by intro _ _ _ _ h;cases h;first |(subst_vars;rfl) |(rename_i h;obtain⟨_,h,_⟩:=h;subst h;rfl) |(rename_i h;obtain⟨_,_,h,_⟩:=h;subst h;rfl) |(rename_i h;obtain⟨_,_,_,h,_⟩:=h;subst h;rfl)) (S:zh N ps (BZ st)=true:=by kernel_rfl):ES P w K mg base (Xg P w C) (k+1) f fd ps sp:=Fun.okF F (zh.ok S) len @hbody
end
noncomputable abbrev OF(P:BH)(w:Ap){K:AS}{mg:Str->Option AN}(base:Ay){A:B4} [T:Txt K mg A](k n:Nat)(ps:List Str)(sp:Sp):Prop:=ES P w K mg base (Xg P w<|A.cl 0) k (A.ad n) (A.fd n) ps sp
noncomputable abbrev O0(P:BH)(w:Ap){K:AS}{mg:Str->Option AN}(base:Ay){A:B4} [T:Txt K mg A](k n:Nat)(ps:List Str)(sp:Sp):Prop:=ES P w K mg base cV k (A.ad n) (A.fd n) ps sp
end GF
end
section
namespace GF
open PySem PySem.Spec PyProof.Rows L2
variable{P:BH}{w:Ap}{K:AS}{mg:Str->Option AN}{base:Ay}{A:B4}[T:Txt K mg A]
def Dx :O0 P w base 1 1 ["number"] (vv (fun _=>True) Ht.cut):=by
 refine T.cut.F.DL ["number"] fun H vs Q E hr h=>?_
 obtain⟨a,rfl,_,k⟩:=h
 exact⟨_,(AF<|AY<|AU B3 (AU Dz (AU BJ AH AE) AE) AE),(by show(0:Int)<4294967296;decide),k⟩
def MK :O0 P w base 1 2 ["number"] (vv (fun _=>True) Ht.half):=by
 refine T.PB.F.DL ["number"] fun H vs Q E hr h=>?_
 obtain⟨a,rfl,_,k⟩:=h
 exact⟨_,(AF<|AY<|AU B3 (AU Dz (AU BJ AH AE) AE) AE),(by show(0:Int)<65536;decide),k⟩
def E6 :O0 P w base 1 3 ["number"] (vv (fun _=>True) fun a=>a%4294967296):=by
 refine T.GY.F.DL ["number"] fun H vs Q E hr h=>?_
 obtain⟨a,rfl,_,k⟩:=h
 exact⟨_,(AF<|AY<|AU Dz AH AE),(by show(0:Int)<4294967296;decide),k⟩
def jD{x:Int}(h:x.natAbs<2^40):x*x<2^80:=by
 rw[<-eP]
 have h1:x.natAbs<=2^40-1:=by lia
 have h2:=MT h1 h1
 have h3:=Bf.mpr h2
 have h4:(((2^40-1)*(2^40-1):Nat):Int)<2^80:=by decide
 lia
noncomputable def lF(b:Int):Prop:=b≠0/\b.natAbs<2^190
def GU :O0 P w base 1 4 ["top","bottom"] (wL (fun _ b=>lF b) Ht.near):=by
 refine T.near.F.DL ["top","bottom"] fun H vs Q E hr h=>?_
 obtain⟨a,b,rfl,c,k⟩:=h
 refine⟨_,(AF<|AY<|AU Bn (AU BJ (AU Bb AE AH) AV)<|AU Bb AE AV),?_⟩
 obtain⟨c1,c2⟩:=c
 refine⟨.inl ⟨by decide,by decide⟩,.inl ⟨by decide,by decide⟩,⟨by lia,by lia⟩,?_⟩
 show Q (V.int<|BN (2*a+b)<|2*b) H
 rw[zt a b c1]
 exact k
def Kn :O0 P w base 2 5 ["value","dots","units"] (kj (fun _ d u=>(0<=d/\d<=1000)/\16<=u/\u<=16384) fun v d u=>Ht.cut<|Ht.near (64*v*d) u):=by
 refine T.scaled.F.DL ["value","dots","units"] fun H vs Q E hr h=>?_
 obtain⟨v,d,u,rfl,c,k⟩:=h
 refine⟨_,(AF<|AY<|Ah Dx T.cut<|Af<|Ah GU T.near<|Ax (AU Bb (AU Bb AE AH) AV) Aj),?_⟩
 obtain⟨⟨c1,c2⟩,c3,c4⟩:=c
 exact⟨.inl ⟨by decide,by decide⟩,.inr ⟨by lia,by lia⟩,_,_,rfl,⟨by lia,by lia⟩,_,rfl,trivial,k⟩
def ee :O0 P w base 1 6 ["square"] (vv (fun s=>0<=s/\s<2^32) fun s=>Gm s 16 0):=by
 refine T.aA.F.DL ["square","found","step"] @fun _ _ _ s H vs Q E hr h=>?_
 obtain⟨s,rfl,c,k⟩:=h
 refine⟨_,(AB (AO 1 AE)<|AB (AO 2 AE)<|AB (JH Ir (A0 DE Aj AE)<|AB (Aq (A0 IT (AU Bb (AU BJ AV Aj)<|AU BJ AV Aj) AH) (AF<|iy 1 Aj cu) AX)<|AF<|AO 2<|AU Bn Aj AE)<|AF<|AY AV),?_⟩
 obtain⟨c1,c2⟩:=c
 refine⟨fun n σ H'=>H'=H/\ ∃ f:Int,0<=f/\f<2^17/\n<=16/\Gm s n f=Gm s 16 0/\σ= [some<|.int s,some<|.int f,some<|.int<|if n=0 then 0 else 2^(n-1)],⟨16,rfl,0,by decide,by decide,by decide,rfl,rfl⟩,?_⟩
 rintro n σ H' ⟨rfl,f,f0,f1,hn,hr',rfl⟩
 refine A7 (fun hc=>?_) fun hc=>?_
 ·have hn0:n≠0:=fun z=>by subst z;simp at hc
  obtain⟨m,rfl⟩: ∃ m,n=m+1:=⟨n-1,by lia⟩
  have hm:m<16:=by lia
  have p1:(0:Int)<2^m:=bV<|by decide
  have p2:(2:Int)^m<=2^15:=by
   have:=Nat.pow_le_pow_right (n:=2) (by decide)<|show m<=15 by lia
   exact_mod_cast this
  have e0:(if m+1=0 then 0 else(2:Int)^(m+1-1))=2^m:=by rw[AG<|by lia];rfl
  have e1:BN (2^m) 2=if m=0 then 0 else 2^(m-1):=by
   rw[Fq _<|by decide]
   cases m with
   | zero=>rfl
   | succ m=>
    rw[AG<|by lia,lq,Nat.add_sub_cancel]
    lia
  rw[e0]
  refine⟨fun σ' H1=>H1=H'/\ ∃ f':Int,0<=f'/\f'<2^17/\Gm s m f'=Gm s 16 0/\σ'= [some<|.int s,some<|.int f',some<|.int<|if m=0 then 0 else 2^(m-1)],fun σ' H1 h=>?_,?_⟩
  ·obtain⟨rfl,f',a1,a2,a3,rfl⟩:=h
   exact⟨m,by lia,rfl,f',a1,a2,by lia,a3,rfl⟩
  ·refine⟨.inl ⟨by lia,by lia⟩,A7 (fun hd=>?_) fun hd=>?_⟩
   ·have hd:=An hd
    refine⟨_,rfl,_,_,rfl,rfl,⟨by decide,by decide⟩,?_⟩
    refine⟨rfl,f+2^m,by lia,?_,?_,?_⟩
    ·have:=AE1 (a:=f+2^m) (b:=2^17) (by lia) (by decide) (by lia)
     exact this
    ·rw[<-hr']
     show _=if(f+2^m)*(f+2^m)<=s then Gm s m (f+2^m)else Gm s m f
     rw[AI hd]
    ·rw[<-e1]
     rfl
   ·have hd: ¬(f+2^m)*(f+2^m)<=s:=fun z=>hd (Av z)
    refine⟨⟨by decide,by decide⟩,rfl,f,f0,f1,?_,?_⟩
    ·rw[<-hr']
     show _=if(f+2^m)*(f+2^m)<=s then Gm s m (f+2^m)else Gm s m f
     rw[AG hd]
    ·rw[<-e1]
     rfl
 ·have hn0:n=0:=by
   by_cases z:n=0
   ·exact z
   ·exfalso
    apply hc
    rw[AG z]
    exact Av<|bV<|by decide
  subst hn0
  have k:=k
  rw[<-hr']at k
  exact k
def Sv :O0 P w base 2 7 ["part","squares"] (wL (fun p ss=>0<ss/\p*p<=ss/\ss<2^190/\p.natAbs<2^40) fun p ss=>if p<0 then-(AD<|Ht.part p.natAbs ss.toNat)else AD (Ht.part p.natAbs ss.toNat)):=by
 refine T.Ub.F.DL ["part","squares","twice","size"] fun H vs Q E hr h=>?_
 obtain⟨p,ss,rfl,c,k⟩:=h
 refine⟨_,(AB (AO 2<|Ah ee T.aA<|Af<|AU Bn (AU Bb (AU Bb (AU Bb AE<|Bt T.k.U9) AH)<|AU Bb (AU Bb AE<|Bt T.k.U9) AH) AV)<|AB (AO 3<|AU Bn (AU BJ Aj AE) AE)<|AF<|AY<|Bm (A0 Dq AH AE) (LG G2 A6) A6),?_⟩
 obtain⟨c1,c2,c3,c4⟩:=c
 have n2:(ss.natAbs:Nat)<2^200:=by lia
 have sq:=AE5 p
 have pp:=vD p
 have b0:0<=BN (32768*p*(32768*p)) ss:=by
  rw[Fq _<|WH c1]
  exact Int.ediv_nonneg (by lia)<|WH c1
 have b1:BN (32768*p*(32768*p)) ss<2^32:=by
  rw[Fq _<|WH c1]
  exact Int.ediv_lt_of_lt_mul c1<|by lia
 have rt:=Qb (BN (32768*p*(32768*p)) ss) 16 0 (by decide) (by simpa using b0)<|by simpa using b1
 have pr:=rV p ss _ c1 c2 rt.1 rt.2.1 rt.2.2
 refine⟨.inl ⟨by decide,by decide⟩,.inl ⟨by decide,by decide⟩,.inl ⟨by decide,by decide⟩,.inl ⟨by decide,by decide⟩,.inl ⟨by lia,by lia⟩,⟨by lia,n2⟩,_,rfl,⟨b0,b1⟩,⟨by decide,by decide⟩,A7 (fun hc=>?_) fun hc=>?_⟩
 ·have hc:=An hc
  have k:=k
  rw[AI hc,<-pr]at k
  exact k
 ·have hc: ¬ p<0:=fun z=>hc (Av z)
  have k:=k
  rw[AG hc,<-pr]at k
  exact k
inductive bg(vs:List V)(H:Hp)(Q:VK)(E_:XK):Prop
 | mk: ∀ x y,vs= [.int x,.int y]->(x.natAbs<2^40/\y.natAbs<2^40)->(∀ p,H p=none->Q (.ref p) (upd H p (.tup [.int (Ht.unit (x,y)).1,.int (Ht.unit (x,y)).2])))->bg vs H Q E_
def R5 :O0 P w base 3 8 ["x","y"] bg:=by
 refine T.unit.F.DL ["x","y","squares"] fun H vs Q E hr h=>?_
 obtain⟨x,y,rfl,c,k⟩:=h
 refine⟨_,(AB (AO 2<|AU BJ (AU Bb AH AH)<|AU Bb AV AV)<|AB (Aq (A0 BD Aj AE) (AF<|AY<|JK<|Ax (Bt T.k.U9) AE) AX)<|AF<|AY<|JK<|Ax (Ah Sv T.Ub<|Ax AH Aj)<|Ah Sv T.Ub<|Ax AV Aj),?_⟩
 obtain⟨c1,c2⟩:=c
 have x0:=vD x
 have y0:=vD y
 have bx:=jD c1
 have by_:=jD c2
 have nz:Ht.unit (x,y)=if(x,y)=((0,0):Ht.Pos)then(16384,0)else((if x<0 then-(AD<|Ht.part x.natAbs (x*x+y*y).toNat)else AD (Ht.part x.natAbs (x*x+y*y).toNat)),(if y<0 then-(AD<|Ht.part y.natAbs (x*x+y*y).toNat)else AD (Ht.part y.natAbs (x*x+y*y).toNat))):=rfl
 refine⟨.inl ⟨by lia,by lia⟩,.inl ⟨by lia,by lia⟩,rfl,A7 (fun hc=>?_) fun hc=>?_⟩
 ·have hc:x*x+y*y=0:=by simpa using hc
  have hx:x=0:=qZ<|by omega
  have hy:y=0:=qZ<|by omega
  rw[nz,AI<|by rw[hx,hy]]at k
  exact⟨by show 2<=sizeLine;decide,fun p hp=>k p hp⟩
 ·have hc:x*x+y*y≠0:=by simpa using hc
  have ne: ¬(x,y)=((0,0):Ht.Pos):=fun z=>by
   obtain⟨rfl,rfl⟩:=Prod.mk.inj z
   exact hc rfl
  rw[nz,AG ne]at k
  exact⟨_,_,rfl,⟨by lia,by lia,by lia,c1⟩,_,_,rfl,⟨by lia,by lia,by lia,c2⟩,⟨by show 2<=sizeLine;decide,fun p hp=>k p hp⟩⟩
noncomputable def Small(a:Int):Prop:=a.natAbs<=32768
inductive ql(K:AS)(vs:List V)(H:Hp)(Q:VK)(E_:XK):Prop
 | mk: ∀ v a b x y,vs= [.ref v,.int x,.int y]->Dh K H v [.int a,.int b]->(Small a/\Small b)->Q (.int (Ht.along (a,b) (x,y))) H->ql K vs H Q E_
inductive AAu(K:AS)(vs:List V)(H:Hp)(Q:VK)(E_:XK):Prop
 | mk: ∀ v u a b c e d,vs= [.ref v,.ref u,.int d]->Dh K H v [.int a,.int b]->Dh K H u [.int c,.int e]->((Small a/\Small b)/\Small c/\Small e)->(∀ p,H p=none->Q (.ref p) (upd H p (.tup [.int (Ht.wayOf (c,e) (a,b) d).1,.int (Ht.wayOf (c,e) (a,b) d).2])))->AAu K vs H Q E_
inductive lT(K:AS)(vs:List V)(H:Hp)(Q:VK)(E_:XK):Prop
 | mk: ∀ v a b d,vs= [.ref v,.int d]->Dh K H v [.int a,.int b]->(Small a/\Small b)->(∀ p,H p=none->Q (.ref p) (upd H p (.tup [.int (Ht.times d (a,b)).1,.int (Ht.times d (a,b)).2])))->lT K vs H Q E_
def aq(ha:Small a)(hb:Small b):(a*b).natAbs<=1073741824:=by
 rw[Wn]
 exact MT ha hb
def Small.r(h:Small a): -(2^64)<a/\a<2^64:=by unfold Small at h;lia
def Kx :O0 P w base 2 9 ["vector","x","y"] (ql K):=by
 refine T.along.F.DL ["vector","x","y"] fun H vs Q E hr h=>?_
 obtain⟨v,a,b,x,y,rfl,hv,c,k⟩:=h
 exact⟨_,(AF<|AY<|Ah Dx T.cut<|Af<|Ah GU T.near<|Ax (AU BJ (AU Bb AV<|A9 By AH AE)<|AU Bb Aj<|A9 By AH AE)<|Bt T.k.U9),hv,rfl,.inr c.1.r,hv,rfl,.inr c.2.r,_,_,rfl,⟨by decide,by decide⟩,_,rfl,trivial,k⟩
def Ka :O0 P w base 2 11 ["vector","distance"] (lT K):=by
 refine T.MM.F.DL ["vector","distance"] fun H vs Q E hr h=>?_
 obtain⟨v,a,b,d,rfl,hv,c,k⟩:=h
 exact⟨_,(AF<|AY<|JK<|Ax (Ah Dx T.cut<|Af<|Ah GU T.near<|Ax (AU Bb AV<|A9 By AH AE)<|Bt T.k.U9)<|Ah Dx T.cut<|Af<|Ah GU T.near<|Ax (AU Bb AV<|A9 By AH AE)<|Bt T.k.U9),hv,rfl,.inr c.1.r,_,_,rfl,⟨by decide,by decide⟩,_,rfl,trivial,hv,rfl,.inr c.2.r,_,_,rfl,⟨by decide,by decide⟩,_,rfl,trivial,by show 2<=sizeLine;decide,fun p hp=>k p hp⟩
def ACG :O0 P w base 2 10 ["freedom","projection","distance"] (AAu K):=by
 refine T.way.F.DL ["freedom","projection","distance","shared"] fun H vs Q E hr h=>?_
 obtain⟨v,u,a,b,c,e,d,rfl,hv,hu,⟨⟨ca,cb⟩,cc,ce⟩,k⟩:=h
 refine⟨_,(AB (AO 3<|AU BJ (AU Bb (A9 By AH AE)<|A9 By AV AE)<|AU Bb (A9 By AH AE)<|A9 By AV AE)<|AB (Aq (A0 Dq (EU Hq rfl T.k.Uo OT<|Af A6) AE) (AF<|AO 3 AE) AX)<|AF<|AY<|JK<|Ax (Ah Dx T.cut<|Af<|Ah GU T.near<|Ax (AU Bb (AU Bb (Bt T.k.U9) Aj)<|A9 By AH AE) A6)<|Ah Dx T.cut<|Af<|Ah GU T.near<|Ax (AU Bb (AU Bb (Bt T.k.U9) Aj)<|A9 By AH AE) A6),?_⟩
 have kw: ∀ t:Int,t=(if(a*c+b*e).natAbs<2^24 then 2^28 else a*c+b*e)-> ∀ p,H p=none->Q (.ref p) (upd H p<|.tup [.int<|Ht.cut<|Ht.near (16384*d*a) t,.int<|Ht.cut<|Ht.near (16384*d*b) t]):=fun t ht p hp=>by
  subst ht
  exact k p hp
 have b1:=aq ca cc
 have b2:=aq cb ce
 refine⟨hv,rfl,hu,rfl,.inl ca.r,hv,rfl,hu,rfl,.inl cb.r,_,rfl,A7 (fun hc=>?_) fun hc=>?_⟩
 ·have hc:=An hc
  have hn:(a*c+b*e).natAbs<2^24:=by
   by_cases z:a*c+b*e<0
   ·rw[AI z]at hc;lia
   ·rw[AG z]at hc;lia
  have k2:=kw 268435456<|by rw[AI hn];rfl
  exact⟨.inl ⟨by decide,by decide⟩,hv,rfl,.inr ca.r,_,_,rfl,⟨by decide,by decide⟩,_,rfl,trivial,.inl ⟨by decide,by decide⟩,hv,rfl,.inr cb.r,_,_,rfl,⟨by decide,by decide⟩,_,rfl,trivial,⟨by show 2<=sizeLine;decide,fun p hp=>k2 p hp⟩⟩
 ·have hc: ¬(if a*c+b*e<0 then-(a*c+b*e)else a*c+b*e)<16777216:=fun z=>hc (Av z)
  have hn: ¬(a*c+b*e).natAbs<2^24:=fun z=>hc (by
   by_cases y:a*c+b*e<0
   ·rw[AI y];lia
   ·rw[AG y];lia)
  have k2:=kw (a*c+b*e)<|by rw[AG hn]
  exact⟨.inl ⟨by decide,by decide⟩,hv,rfl,.inr ca.r,_,_,rfl,⟨by lia,by lia⟩,_,rfl,trivial,.inl ⟨by decide,by decide⟩,hv,rfl,.inr cb.r,_,_,rfl,⟨by lia,by lia⟩,_,rfl,trivial,⟨by show 2<=sizeLine;decide,fun p hp=>k2 p hp⟩⟩
def EC:(decide (V.int a=V.int b)=true)↔a=b:=by
 rw[WT]
 exact⟨fun h=>V.int.inj h,fun h=>BO V.int h⟩
noncomputable def Ca(how byte:Int):Int:=if BN byte 64%4=0 then BN (if how=6 then 16384 else 11585) 2 else if BN byte 64%4=2 then 2*(if how=6 then 16384 else 11585)else if how=6 then 16384 else 11585
noncomputable def Og(p byte:Int):Int:=if byte%16=0 then BN (p-1) 256 else BN (BN (p*(byte%16-4)) 8) 256
noncomputable def fT(how byte size:Int):Int:=BN (Ca how byte) 256*BN (size-BN (BN (Ca how byte*(BN byte 16%4)) 4) 256+Og (Ca how byte) byte) (BN (Ca how byte) 256)+BN (BN (Ca how byte*(BN byte 16%4)) 4) 256
noncomputable def PN(how byte size:Int):Int:=if fT how byte size<0 then BN (BN (Ca how byte*(BN byte 16%4)) 4) 256 else fT how byte size
def sV(how byte:Int):Ca how byte=8192\/Ca how byte=5792\/Ca how byte=32768\/Ca how byte=23170\/Ca how byte=16384\/Ca how byte=11585:=by
 unfold Ca
 by_cases h:how=6
 ·simp only[AI h]
  split
  ·exact .inl rfl
  ·split
   ·exact .inr<|.inr<|.inl rfl
   ·exact .inr<|.inr<|.inr<|.inr<|.inl rfl
 ·simp only[AG h]
  split
  ·exact .inr<|.inl rfl
  ·split
   ·exact .inr<|.inr<|.inr<|.inl rfl
   ·exact .inr<|.inr<|.inr<|.inr<|.inr rfl
def dP :O0 P w base 1 12 ["how","byte"] (wL (fun _ _=>True) Ca):=by
 refine T.Z2.F.DL ["how","byte","whole","choice"] fun H vs Q E hr h=>?_
 obtain⟨how,byte,rfl,_,k⟩:=h
 refine⟨_,(AB (AO 2<|Bm (A0 BD AH<|Bt T.k.ax) AE AE)<|AB (AO 3<|AU Dz (AU Bn AV AE) AE)<|AB (Aq (A0 BD A6 AE) (AF<|AY<|AU Bn Aj AE) AX)<|AB (Aq (A0 BD A6 AE) (AF<|AY<|AU Bb AE Aj) AX)<|AF<|AY Aj),rfl,A7 (fun hc=>?_) fun hc=>?_⟩
 all_goals
  rw[EC]at hc
  refine⟨⟨by decide,by decide⟩,(by show(0:Int)<4;decide),rfl,A7 (fun hd=>?_) fun hd=>?_⟩
  ·rw[EC]at hd
   refine⟨⟨by decide,by decide⟩,?_⟩
   have e:Ca how byte=_:=AI hd
   rw[e]at k
   first | rw[AI hc]at k | rw[AG hc]at k
   exact k
  ·rw[EC]at hd
   refine⟨rfl,A7 (fun hf=>?_) fun hf=>?_⟩
   ·rw[EC]at hf
    refine⟨.inl ⟨by decide,by decide⟩,?_⟩
    have e:Ca how byte=_:=(AG hd).trans<|AI hf
    rw[e]at k
    first | rw[AI hc]at k | rw[AG hc]at k
    exact k
   ·rw[EC]at hf
    have e:Ca how byte=_:=(AG hd).trans<|AG hf
    rw[e]at k
    first | rw[AI hc]at k | rw[AG hc]at k
    exact k
def VM :O0 P w base 1 13 ["period","byte"] (wL (fun p _=>0<=p/\p<=32768) Og):=by
 refine T.RK.F.DL ["period","byte","choice"] fun H vs Q E hr h=>?_
 obtain⟨p,byte,rfl,c,k⟩:=h
 refine⟨_,(AB (AO 2<|AU Dz AV AE)<|AB (Aq (A0 BD Aj AE) (AF<|AY<|AU Bn (AU B3 AH AE) AE) AX)<|AF<|AY<|AU Bn (AU Bn (AU Bb AH<|AU B3 Aj AE) AE) AE),(by show(0:Int)<16;decide),rfl,A7 (fun hc=>?_) fun hc=>?_⟩
 all_goals rw[EC]at hc
 ·refine⟨⟨by decide,by decide⟩,?_⟩
  have e:Og p byte=_:=AI hc
  rw[e]at k
  exact k
 ·refine⟨.inl ⟨by lia,by lia⟩,⟨by decide,by decide⟩,⟨by decide,by decide⟩,?_⟩
  have e:Og p byte=_:=AG hc
  rw[e]at k
  exact k
def Vl :O0 P w base 2 14 ["how","byte","size"] (kj (fun _ _ _=>True) PN):=by
 refine T.SE.F.DL ["how","byte","size","period","step","phase","threshold","found"] fun H vs Q E hr h=>?_
 obtain⟨how,byte,size,rfl,_,k⟩:=h
 refine⟨_,(AB (AO 3<|Ah dP T.Z2<|Ax AH AV)<|AB (AO 4<|AU Bn A6 AE)<|AB (AO 5<|AU Bn (AU Bn (AU Bb A6<|AU Dz (AU Bn AV AE) AE) AE) AE)<|AB (AO 6<|Ah VM T.RK<|Ax A6 AV)<|AB (AO 7<|AU BJ (AU Bb CG<|AU Bn (AU BJ (AU B3 Aj ET)<|pv 6) CG) ET)<|AF<|AY<|Bm (A0 Dq (pv 7) AE) ET<|pv 7),?_⟩
 have pr:=sV how byte
 have p0:0<=Ca how byte/\Ca how byte<=32768:=by lia
 have st:BN (Ca how byte) 256≠0/\(BN (Ca how byte) 256).natAbs<2^20:=by
  rcases pr with e | e | e | e | e | e<;>rw[e]<;>exact⟨by decide,by decide⟩
 refine⟨_,_,rfl,trivial,⟨by decide,by decide⟩,⟨by decide,by decide⟩,(by show(0:Int)<4;decide),.inl ⟨by lia,by lia⟩,⟨by decide,by decide⟩,⟨by decide,by decide⟩,_,_,rfl,p0,⟨st.1,HH st.2<|by decide⟩,.inl ⟨by lia,by lia⟩,A7 (fun hc=>?_) fun hc=>?_⟩
 ·have hc:=An hc
  have e:PN how byte size=_:=AI hc
  rw[e]at k
  exact k
 ·have hc: ¬ fT how byte size<0:=fun z=>hc (Av z)
  have e:PN how byte size=_:=AG hc
  rw[e]at k
  exact k
noncomputable def jL(how byte d:Int):Int:=
 if how=0 then 64*BN d 64+32
 else if how=1 then 64*BN (d+32) 64
 else if how=2 then 32*BN (d+16) 32
 else if how=3 then 64*BN d 64
 else if how=4 then 64*BN (d+63) 64
 else if how=5 then d else PN how byte d
def VV :O0 P w base 3 15 ["how","byte","size"] (kj (fun _ _ _=>True) jL):=by
 refine T.SK.F.DL ["how","byte","size"] fun H vs Q E hr h=>?_
 obtain⟨how,byte,d,rfl,_,k⟩:=h
 refine⟨_,(AB (Aq (A0 BD AH<|Bt T.k.ACB) (AF<|AY<|AU BJ (AU Bb AE<|AU Bn Aj AE) AE) AX)<|AB (Aq (A0 BD AH<|Bt T.k.uy) (AF<|AY<|AU Bb AE<|AU Bn (AU BJ Aj AE) AE) AX)<|AB (Aq (A0 BD AH<|Bt T.k.wd) (AF<|AY<|AU Bb AE<|AU Bn (AU BJ Aj AE) AE) AX)<|AB (Aq (A0 BD AH<|Bt T.k.ABy) (AF<|AY<|AU Bb AE<|AU Bn Aj AE) AX)<|AB (Aq (A0 BD AH<|Bt T.k.AFx) (AF<|AY<|AU Bb AE<|AU Bn (AU BJ Aj AE) AE) AX)<|AB (Aq (A0 BD AH<|Bt T.k.AA_) (AF<|AY Aj) AX)<|AF<|AY<|Ah Vl T.SE<|CH AH AV Aj),?_⟩
 unfold jL at k
 refine⟨rfl,A7 (fun h0=>?_) fun h0=>?_⟩
 all_goals rw[EC]at h0
 ·rw[AI h0]at k
  exact⟨⟨by decide,by decide⟩,.inl ⟨by decide,by decide⟩,k⟩
 rw[AG h0]at k
 refine⟨rfl,A7 (fun h0=>?_) fun h0=>?_⟩
 all_goals rw[EC]at h0
 ·rw[AI h0]at k
  exact⟨⟨by decide,by decide⟩,.inl ⟨by decide,by decide⟩,k⟩
 rw[AG h0]at k
 refine⟨rfl,A7 (fun h0=>?_) fun h0=>?_⟩
 all_goals rw[EC]at h0
 ·rw[AI h0]at k
  exact⟨⟨by decide,by decide⟩,.inl ⟨by decide,by decide⟩,k⟩
 rw[AG h0]at k
 refine⟨rfl,A7 (fun h0=>?_) fun h0=>?_⟩
 all_goals rw[EC]at h0
 ·rw[AI h0]at k
  exact⟨⟨by decide,by decide⟩,.inl ⟨by decide,by decide⟩,k⟩
 rw[AG h0]at k
 refine⟨rfl,A7 (fun h0=>?_) fun h0=>?_⟩
 all_goals rw[EC]at h0
 ·rw[AI h0]at k
  exact⟨⟨by decide,by decide⟩,.inl ⟨by decide,by decide⟩,k⟩
 rw[AG h0]at k
 refine⟨rfl,A7 (fun h0=>?_) fun h0=>?_⟩
 all_goals rw[EC]at h0
 ·rw[AI h0]at k
  exact k
 rw[AG h0]at k
 exact⟨_,_,_,rfl,trivial,k⟩
noncomputable def Tz(how byte d:Int):Int:=Ht.cut (if d<0 then-(jL how byte<|if d<0 then-d else d)else jL how byte (if d<0 then-d else d))
def Y4 :O0 P w base 4 16 ["how","byte","number"] (kj (fun _ _ _=>True) Tz):=by
 refine T.rounded.F.DL ["how","byte","number","size"] fun H vs Q E hr h=>?_
 obtain⟨how,byte,d,rfl,_,k⟩:=h
 refine⟨_,(AB (AO 3<|Ah VV T.SK<|CH AH AV<|EU Hq rfl T.k.Uo OT<|Af Aj)<|AF<|AY<|Ah Dx T.cut<|Af<|Bm (A0 Dq Aj AE) (LG G2 A6) A6),_,rfl,_,_,_,rfl,trivial,A7 (fun hc=>?_) fun hc=>?_⟩
 ·have hc:=An hc
  refine⟨_,rfl,trivial,?_⟩
  have e:Tz how byte d=_:=BO Ht.cut<|AI hc
  rw[e]at k
  exact k
 ·have hc: ¬ d<0:=fun z=>hc (Av z)
  refine⟨_,rfl,trivial,?_⟩
  have e:Tz how byte d=_:=BO Ht.cut<|AG hc
  rw[e]at k
  exact k
def BK :O0 P w base 1 0 ["self","number"] (x5<|A.cl 0):=by
 refine T.kW.1.DL ["self","number"] fun H vs Q E hr h=>?_
 obtain⟨e,n,rfl,he,k⟩:=h
 exact⟨_,(AB (Ad<|u6 T.c.fault.cls rfl T.k.jG<|Ax AH AV)<|AF<|vy T.c.fault.cls T.c.fault.sa AH AV),_,_,rfl,he,_,_,rfl,rfl,AJ,fun d hd ne=>k d (by rw[AQ ne]at hd;exact hd) ne⟩
noncomputable def N0(lo ln:AK)(k:Int):List (Str×V):= [("old",.ref lo),("now",.ref ln),("marks",.int k)]
structure kJ(C:AK)(H:Hp)(p dx lo ln:AK)(o n:Int×Int)(k:Int):Prop where
 at_:H p=some (.ins C dx (N0 lo ln k))
 old:H lo=some (.lst [.int o.1,.int o.2])
 now:H ln=some (.lst [.int n.1,.int n.2])
 ne:lo≠ln
def Bx(lo ln:AK)(k:Int):(N0 lo ln k).lookup ("old":Str)=some (.ref lo):=rfl
def CF(lo ln:AK)(k:Int):(N0 lo ln k).lookup ("now":Str)=some (.ref ln):=rfl
def K_(lo ln:AK)(k:Int):(N0 lo ln k).lookup ("marks":Str)=some (.int k):=rfl
inductive AEx(C:AK)(vs:List V)(H:Hp)(Q:VK)(E_:XK):Prop
 | mk: ∀ p dx x y k,vs= [.ref p,.int x,.int y,.int k]->H p=some (.ins C dx [])->(∀ lo ln,H lo=none->H ln=none->lo≠ln->Q .non (upd (upd (upd H lo (.lst [.int x,.int y])) ln (.lst [.int x,.int y])) p (.ins C dx (N0 lo ln k))))->AEx C vs H Q E_
def KZ :O0 P w base 1 45 ["self","x","y","marks"] (AEx<|A.cl 3):=by
 refine T.Lm.1.DL ["self","x","y","marks"] fun H vs Q E hr h=>?_
 obtain⟨p,dx,x,y,k,rfl,hp,q⟩:=h
 refine⟨_,(AB (BC AH<|Ba<|Ax AV Aj)<|AB (BC AH<|Ba<|Ax AV Aj)<|AF<|BC AH A6),(by show 2<=sizeLine;decide),fun lo hlo=>?_⟩
 refine⟨(by rw[AQ<|Ac hp hlo];exact hp),Aa,(B8 rfl),(by show 2<=sizeLine;decide),fun ln hln=>?_⟩
 have n2:ln≠p:=fun z=>by subst z;rw[AJ]at hln;cases hln
 rw[AQ n2]at hln
 have n3:ln≠lo:=fun z=>by subst z;rw[AJ]at hln;cases hln
 rw[AQ n3]at hln
 refine⟨(by rw[AQ n2.symm];exact AJ),Aa,(B8 rfl),AJ,Aa,(B8 rfl),?_⟩
 have e:upd (upd (upd (upd (upd H lo<|.lst [.int x,.int y]) p<|.ins (A.cl 3) dx<|DI "old" (.ref lo) []) ln<|.lst [.int x,.int y]) p<|.ins (A.cl 3) dx<|DI "now" (.ref ln)<|DI "old" (.ref lo) []) p (.ins (A.cl 3) dx<|DI "marks" (.int k)<|DI "now" (.ref ln)<|DI "old" (.ref lo) [])=upd (upd (upd H lo<|.lst [.int x,.int y]) ln<|.lst [.int x,.int y]) p (.ins (A.cl 3) dx<|N0 lo ln k):=by
  rw[Bk]
  funext b
  unfold upd
  by_cases hb:b=p
  ·rw[AI hb,AI hb]
   rfl
  ·simp only[AG hb]
 exact e▸(q lo ln hlo hln n3.symm)
noncomputable def ADm(C:AK)(H H':Hp)(p:AK)(o n:Int×Int)(k:Int):Prop:= ∃ dx lo ln,kJ C H' p dx lo ln o n k/\H p=none/\H lo=none/\H ln=none/\Bc H H'
inductive vN(C:AK)(vs:List V)(H:Hp)(Q:VK)(E_:XK):Prop
 | mk: ∀ p dx lo ln o n k,vs= [.ref p]->kJ C H p dx lo ln o n k->(∀ p' H',ADm C H H' p' o n k->Q (.ref p') H')->vN C vs H Q E_
def JI(s:Bc H H')(h:H l=none):Bc H (upd H' l o):=fun b u e=>by rw[AQ<|Ac e h];exact s b u e
def ZK :O0 P w base 3 46 ["self"] (vN<|A.cl 3):=by
 refine T.Xl.F.DL ["self","other"] fun H vs Q E hr h=>?_
 obtain⟨p,dx,lo,ln,o,n,k,rfl,hp,q⟩:=h
 refine⟨_,(AB (AO 1<|Fw T.c.b8 KZ (hr.mono<|by decide) rfl T.c.f9 T.Lm.2 .nil Gp<|CH (A9 Ab (AR AH) AE) (A9 Ab (AR AH) AE)<|AR AH)<|AB (BC AV<|K0 GN rfl T.k.Y6 SH<|Af<|AR AH)<|AF<|AY AV),hp.at_,Aa,Bx _ _ _,BF.of hp.old,rfl,hp.at_,Aa,Bx _ _ _,BF.of hp.old,rfl,hp.at_,Aa,K_ _ _ _,?_⟩
 intro x dx' nx nd xd
 refine⟨x,dx',_,_,_,rfl,AJ,fun lo' ln' h1 h2 h3=>⟨rfl,?_⟩⟩
 have a1:lo'≠x:=fun z=>by subst z;rw[AJ]at h1;cases h1
 have a2:ln'≠x:=fun z=>by subst z;rw[AJ]at h2;cases h2
 rw[AQ a1]at h1
 rw[AQ a2]at h2
 have b1:lo'≠dx':=fun z=>by subst z;rw[AJ]at h1;cases h1
 have b2:ln'≠dx':=fun z=>by subst z;rw[AJ]at h2;cases h2
 rw[AQ b1]at h1
 rw[AQ b2]at h2
 have sm:Bc H (upd (upd (upd (upd (upd H dx'<|.own x) x<|.ins (A.cl 3) dx' []) lo'<|.lst [.int o.1,.int o.2]) ln'<|.lst [.int o.1,.int o.2]) x<|.ins (A.cl 3) dx'<|N0 lo' ln' k):=JI (JI (JI (JI (JI (Bc.refl H) nd) nx) h1) h2) nx
 generalize hH:upd (upd (upd (upd (upd H dx'<|.own x) x<|.ins (A.cl 3) dx' []) lo'<|.lst [.int o.1,.int o.2]) ln'<|.lst [.int o.1,.int o.2]) x (.ins (A.cl 3) dx'<|N0 lo' ln' k)=H1 at sm
 have c1:H1 x=some (.ins (A.cl 3) dx'<|N0 lo' ln' k):=by rw[<-hH];exact AJ
 have c2:H1 lo'=some (.lst [.int o.1,.int o.2]):=by rw[<-hH,AQ a1,AQ h3];exact AJ
 refine⟨sm _ _ hp.at_,Aa,CF _ _ _,ln,_,rfl,.inl<|BF.of<|sm _ _ hp.now,fun l hl=>?_⟩
 have d1:=Ac c1 hl
 have d2:=Ac c2 hl
 have d3:=sm.free hl
 refine⟨(by rw[AQ d1];exact c1),Aa,(B8 rfl),q x _ ⟨dx',lo',l,⟨AJ,?_,?_,d2⟩,nx,h1,d3,JI (JI sm d3) nx⟩⟩
 ·rw[AQ a1,AQ d2]
  exact c2
 ·rw[AQ d1.symm]
  exact AJ
noncomputable def Pair(K:AS)(H:Hp)(a:AK)(x:Int×Int):Prop:=BF K H a [.int x.1,.int x.2]\/Dh K H a [.int x.1,.int x.2]
noncomputable def c2(x:Int×Int):Int×Int:=(Ht.cut x.1,Ht.cut x.2)
inductive xE(K:AS)(C:AK)(vs:List V)(H:Hp)(Q:VK)(E_:XK):Prop
 | mk: ∀ p dx lo ln a k x,vs= [.ref p,.ref a]->H p=some (.ins C dx (N0 lo ln k))->Pair K H a x->(∀ lo' ln',H lo'=none->H ln'=none->lo'≠ln'->Q .non (upd (upd (upd H lo' (.lst [.int (c2 x).1,.int (c2 x).2])) ln' (.lst [.int (c2 x).1,.int (c2 x).2])) p (.ins C dx (N0 lo' ln' k))))->xE K C vs H Q E_
def xm(h:Pair K H a x)(q:Q (.int x.1) H):rIx K (.ref a) (.int 0) H Q:=by
 rcases h with h | h
 ·exact .inl ⟨h,rfl,q⟩
 ·exact .inr<|.inl ⟨h,rfl,q⟩
def xF(h:Pair K H a x)(q:Q (.int x.2) H):rIx K (.ref a) (.int 1) H Q:=by
 rcases h with h | h
 ·exact .inl ⟨h,rfl,q⟩
 ·exact .inr<|.inl ⟨h,rfl,q⟩
def Ly :O0 P w base 2 47 ["self","place"] (xE K<|A.cl 3):=by
 refine T.Om.F.DL ["self","place"] fun H vs Q E hr h=>?_
 obtain⟨p,dx,lo,ln,a,k,x,rfl,hp,ha,q⟩:=h
 refine⟨_,(AB (BC AH<|Ba<|Ax (Ah Dx T.cut<|Af<|A9 xK AV AE)<|Ah Dx T.cut<|Af<|A9 xK AV AE)<|AF<|BC AH<|K0 GN rfl T.k.Y6 SH<|Af<|AR AH),xm ha ⟨_,rfl,trivial,xF ha ⟨_,rfl,trivial,(by show 2<=sizeLine;decide),fun lo' h1=>?_⟩⟩⟩
 have n1:=Ac hp h1
 refine⟨(by rw[AQ n1];exact hp),Aa,(B8 rfl),?_⟩
 have e1:(upd (upd H lo'<|.lst [.int<|Ht.cut x.1,.int<|Ht.cut x.2]) p<|.ins (A.cl 3) dx<|DI "old" (.ref lo')<|N0 lo ln k) lo'=some (.lst [.int<|Ht.cut x.1,.int<|Ht.cut x.2]):=by rw[AQ n1.symm];exact AJ
 refine⟨AJ,Aa,Bx _ _ _,lo',_,rfl,.inl<|BF.of e1,fun ln' h2=>?_⟩
 have n2:ln'≠p:=fun z=>by subst z;rw[AJ]at h2;cases h2
 rw[AQ n2]at h2
 have n3:ln'≠lo':=fun z=>by subst z;rw[AJ]at h2;cases h2
 rw[AQ n3]at h2
 refine⟨(by rw[AQ n2.symm];exact AJ),Aa,(B8 rfl),?_⟩
 refine cast (BO (fun h=>Q V.non h) ?_)<|q lo' ln' h1 h2 n3.symm
 funext b
 unfold upd
 by_cases hb:b=p
 ·rw[AI hb,AI hb]
  rfl
 ·simp only[AG hb]
  rfl
inductive fm(K:AS)(C:AK)(vs:List V)(H:Hp)(Q:VK)(E_:XK):Prop
 | mk: ∀ p dx lo ln a k (n x:Int×Int),vs= [.ref p,.ref a]->H p=some (.ins C dx (N0 lo ln k))->H ln=some (.lst [.int n.1,.int n.2])->Dh K H a [.int x.1,.int x.2]->(∀ ln',H ln'=none->Q .non (upd (upd H ln' (.lst [.int (Ht.plus n x).1,.int (Ht.plus n x).2])) p (.ins C dx (N0 lo ln' k))))->fm K C vs H Q E_
def N5 :O0 P w base 2 48 ["self","step"] (fm K<|A.cl 3):=by
 refine T.Nz.F.DL ["self","step"] fun H vs Q E hr h=>?_
 obtain⟨p,dx,lo,ln,a,k,n,x,rfl,hp,hn,ha,q⟩:=h
 refine⟨_,(AF<|BC AH<|Ba<|Ax (Ah Dx T.cut<|Af<|AU BJ (A9 Ab (AR AH) AE)<|A9 By AV AE)<|Ah Dx T.cut<|Af<|AU BJ (A9 Ab (AR AH) AE)<|A9 By AV AE),hp,Aa,CF _ _ _,BF.of hn,rfl,ha,rfl,_,rfl,trivial,hp,Aa,CF _ _ _,BF.of hn,rfl,ha,rfl,_,rfl,trivial,(by show 2<=sizeLine;decide),fun ln' h1=>?_⟩
 exact⟨(AQ<|Ac hp h1).trans hp,Aa,(B8 rfl),q ln' h1⟩
inductive eL(C:AK)(f:Int->Int->Int)(vs:List V)(H:Hp)(Q:VK)(E_:XK):Prop
 | mk: ∀ p dx lo ln k m,vs= [.ref p,.int m]->H p=some (.ins C dx (N0 lo ln k))->Q .non (upd H p (.ins C dx (N0 lo ln (f k m))))->eL C f vs H Q E_
def Kk :O0 P w base 1 49 ["self","marks"] (eL (A.cl 3) fun k m=>S2 k m):=by
 refine T.MD.F.DL ["self","marks"] fun H vs Q E hr h=>?_
 obtain⟨p,dx,lo,ln,k,m,rfl,hp,q⟩:=h
 exact⟨_,(AF<|BC AH<|AU ADz (AR AH) AV),hp,Aa,K_ _ _ _,hp,Aa,(B8 rfl),q⟩
def Mu :O0 P w base 1 50 ["self","marks"] (eL (A.cl 3) fun k m=>Dg k<|7-m):=by
 refine T.MR.F.DL ["self","marks"] fun H vs Q E hr h=>?_
 obtain⟨p,dx,lo,ln,k,m,rfl,hp,q⟩:=h
 exact⟨_,(AF<|BC AH<|AU Tf (AR AH)<|AU B3 AE AV),hp,Aa,K_ _ _ _,hp,Aa,(B8 rfl),q⟩
inductive fj(K:AS)(vs:List V)(H:Hp)(Q:VK)(E_:XK):Prop
 | mk: ∀ a b (x y:Int×Int),vs= [.ref a,.ref b]->BF K H a [.int x.1,.int x.2]->BF K H b [.int y.1,.int y.2]->(∀ p,H p=none->Q (.ref p) (upd H p (.tup [.int (Ht.less x y).1,.int (Ht.less x y).2])))->fj K vs H Q E_
def F8 :O0 P w base 1 53 ["place","other"] (fj K):=by
 refine T.less.F.DL ["place","other"] fun H vs Q E hr h=>?_
 obtain⟨a,b,x,y,rfl,ha,hb,q⟩:=h
 exact⟨_,(AF<|AY<|JK<|Ax (AU B3 (A9 Ab AH AE)<|A9 Ab AV AE)<|AU B3 (A9 Ab AH AE)<|A9 Ab AV AE),ha,rfl,hb,rfl,ha,rfl,hb,rfl,(by show 2<=sizeLine;decide),fun p hp=>q p hp⟩
end GF
end
section
namespace GF
open PySem L2
section
noncomputable abbrev Bs(m:Ht.M)(s:List Int):Ht.M:={m with stack:=s}
inductive Tag where
 | rest | run | gr | kp | CM | C2 | refs | Bj | cells | Cq | fn | zl (z:Nat) | fr (i:Nat) | pt (z i:Nat) | po (z i:Nat) | pn (z i:Nat)
 deriving DecidableEq
structure B2 where
 run:AK
 Q9:AK
 gr:AK
 ZC:AK
 kp:AK
 Ve:AK
 CM:AK
 C2:AK
 refs:AK
 cells:AK
 Cq:AK
 ends:AK
 fn:AK
 own:AK
 font:AK
 zl:Nat->AK
 pp:Nat->Nat->AK
 pd:Nat->Nat->AK
 kind:Ht.Kind
 c:Ht.Codes
 nc:Nat
 nv:Nat
 n0:Nat
 n1:Nat
 un:Nat
 place:Nat
 byte:Nat
structure Var where
 tP:AK
 tF:AK
 tQ:AK
 Bj:AK
 lo:Nat->Nat->AK
 ln:Nat->Nat->AK
 BU:List (Key×V)
 K6:Nat->AK
 fN:Nat->AK
noncomputable def kI:Ht.Kind->Int
 | .font=>0
 | .size=>1
 | .shape=>2
noncomputable def bI(b:Bool):Int:=if b=true then 1 else 0
noncomputable def bF(g:B2)(f:Bool):AK:=if f=true then g.font else g.own
noncomputable def codeB(g:B2)(f:Bool):Ht.Bytes:=if f=true then g.c.font else g.c.own
noncomputable def Tb(c:Ht.Bytes):List V:=c.map fun b=> .int (AD b.toNat)
noncomputable def DU(g:B2)(v:Var)(m:Ht.M):List (Str×V):=
 [("kind",.int<|kI g.kind),("ground",.ref g.gr),("font",.ref g.font),("functions",.ref g.fn),("code",.ref<|bF g m.inFont),("whose",.int<|bI m.inFont),("place",.int<|AD g.place),("after",.int<|AD m.place),
  ("byte",.int<|AD g.byte),("done",.int<|AD m.steps),("frames",.ref g.CM),("stack",.ref g.C2),("projection",.ref v.tP),("freedom",.ref v.tF),("old_projection",.ref v.tQ),("references",.ref g.refs),
  ("pointers",.ref v.Bj),("loop",.int<|AD m.loop),("rounding",.int<|AD m.way),("rounding_byte",.int<|AD m.byte)]
noncomputable def sj(g:B2)(m:Ht.M):List (Str×V):=
 [("units",.int<|AD m.units),("dots",.int<|AD m.dots),("cells",.ref g.cells),("controls",.ref g.Cq),("twilight",.ref<|g.zl 0),("outline",.ref<|g.zl 1),("ends",.ref g.ends),("kept",.ref g.kp),("still",.int<|bI m.still),("plain",.int<|bI m.plain)]
noncomputable def S3(k:Ht.Kept):List (Str×V):=
 [("least",.int k.least),("cut_in",.int k.cutin),("width",.int k.width),("width_cut_in",.int k.widthcut),("delta_base",.int<|AD k.base),("delta_shift",.int<|AD k.shift),("flip",.int<|bI k.flip)]
noncomputable def Vo(g:B2)(y:Ht.Going):List (Str×V):= [("code",.ref<|bF g y.backFont),("whose",.int<|bI y.backFont),("back",.int<|AD y.back),("start",.int<|AD y.start),("left",.int y.left)]
noncomputable def iV(l:List Int):List V:=l.map .int
noncomputable def pV(x:Ht.Pos):List V:= [.int x.1,.int x.2]
noncomputable def want(A:B4)(g:B2)(v:Var)(m:Ht.M):Tag->Option (AK×HO)
 | .rest=>none
 | .run=>some (g.run,.ins (A.cl 1) g.Q9<|DU g v m)
 | .gr=>some (g.gr,.ins (A.cl 6) g.ZC<|sj g m)
 | .kp=>some (g.kp,.ins (A.cl 5) g.Ve<|S3 m.kept)
 | .CM=>some (g.CM,.lst<|(BM m.going.length).map fun j=> .ref<|v.K6 j)
 | .C2=>some (g.C2,.lst<|iV m.stack.reverse)
 | .refs=>some (g.refs,.lst [.int m.r0,.int m.r1,.int m.r2])
 | .Bj=>some (v.Bj,.lst [.int<|AD m.z0,.int<|AD m.z1,.int<|AD m.z2])
 | .cells=>some (g.cells,.lst<|iV m.cells)
 | .Cq=>some (g.Cq,.lst<|iV m.values)
 | .fn=>if g.kind= .font then some (g.fn,.dK v.BU)else none
 | .zl z=>if z<2 then some (g.zl z,.lst<|(BM (m.zone z).size).map fun i=> .ref<|g.pp z i)else none
 | .fr j=>if j<m.going.length then some (v.K6 j,.ins (A.cl 2) (v.fN j)<|Vo g<|m.going.reverse.getD j ⟨0,0,0,false⟩)else none
 | .pt z i=>if z<2/\i<(m.zone z).size then some (g.pp z i,.ins (A.cl 3) (g.pd z i)<|N0 (v.lo z i) (v.ln z i)<|AD<|(m.zone z).mark i)else none
 | .po z i=>if z<2/\i<(m.zone z).size then some (v.lo z i,.lst<|pV<|(m.zone z).was i)else none
 | .pn z i=>if z<2/\i<(m.zone z).size then some (v.ln z i,.lst<|pV<|(m.zone z).at_ i)else none
noncomputable def FN(x:Int):Prop:= -2147483648<=x/\x<2147483648
noncomputable def LJ(x:Ht.Pos):Prop:=FN x.1/\FN x.2
noncomputable def Sm(x:Ht.Pos):Prop:=x.1.natAbs<=32768/\x.2.natAbs<=32768
structure LH(z:Ht.Zone):Prop where
 lo:z.org.length=z.now.length
 lm:z.marks.length=z.now.length
 ZA:z.now.length<=64
 org: ∀ x∈z.org,LJ x
 now: ∀ x∈z.now,LJ x
 marks: ∀ x∈z.marks,x<8
noncomputable def N9(n:Nat):List Nat->Prop
 | []=>True
 | [a]=>a<n
 | a::b::l=>a<b/\N9 n (b::l)
noncomputable def Zh(BU:List (Key×V))(funs:List (Nat×Nat)):Prop:=BU.length<=256/\(BU.map (·.1)).Nodup/\(∀ p∈BU,∃ n k,n<256/\p=(.inl<|AD n,.int<|AD k))/\
 ∀ n,(BU.find? fun kv=>decide (kv.1=IP (AD n))).map (·.2)=(funs.find? fun x=>x.1==n).map fun x=>V.int<|AD x.2
noncomputable def vP:List Ht.Going->Bool->Prop
 | [],_=>True
 | y::l,f=>f=true/\vP l y.backFont
theorem vP.tt: ∀{l:List Ht.Going} {f:Bool},vP l f->vP l true
 | [],_,_=>Io
 | _::_,_,h=>⟨rfl,h.2⟩
structure Good(K:AS)(W:Hp)(g:B2)(v:Var)(m:Ht.M):Prop where
 tP:Dh K W v.tP (pV m.P)
 tF:Dh K W v.tF (pV m.F)
 tQ:Dh K W v.tQ (pV m.Q)
 sP:Sm m.P
 sF:Sm m.F
 sQ:Sm m.Q
 own:W g.own=some (.lst (Tb g.c.own))
 font:W g.font=some (.lst (Tb g.c.font))
 e_:g.c.own.length<=2048
 IV:g.c.font.length<=2048
 ends:W g.ends=some (.lst (m.ends.map fun e=> .int (AD e)))
 jP:m.ends.length<=8
 Kv:N9 m.zone1.size m.ends
 fns:g.kind≠ .font->W g.fn=some (.dK v.BU)
 Vk:Zh v.BU m.funs
 c6: ∀ x∈m.funs,x.2<=g.c.font.length
 fk:g.kind= .font->g.own=g.font/\g.c.own=g.c.font
 st:m.stack.length<=128
 sti: ∀ x∈m.stack,FN x
 r0:FN m.r0
 r1:FN m.r1
 r2:FN m.r2
 z0:m.z0<2
 z1:m.z1<2
 z2:m.z2<2
 loop:1<=m.loop/\m.loop<=65535
 way:m.way<=7
 byte:m.byte<256
 least:FN m.kept.least
 cutin:FN m.kept.cutin
 width:FN m.kept.width
 wO:FN m.kept.widthcut
 base:m.kept.base<65536
 shift:m.kept.shift<=6
 cells: ∀ x∈m.cells,FN x
 RB:m.cells.length<=64
 vals: ∀ x∈m.values,FN x
 Gn:m.values.length<=64
 zone0:LH m.zone0
 zone1:LH m.zone1
 units:16<=m.units/\m.units<=16384
 dots:m.dots<=1000
 going:m.going.length<=8
 jV: ∀ y∈m.going,y.start<=g.c.font.length/\y.back<=(codeB g y.backFont).length
 br:vP m.going m.inFont
 place:m.place<=(codeB g m.inFont).length
 steps:m.steps<=5000
 nc:m.cells.length=g.nc
 nv:m.values.length=g.nv
 n0:m.zone0.size=g.n0
 n1:m.zone1.size=g.n1
 un:m.units=g.un
structure R(K:AS)(A:B4)(W:Hp)(g:B2)(v:Var)(m:Ht.M)(H:Hp):Prop where
 o: ∃ O:AK->Tag,(∀ t a o,want A g v m t=some (a,o)->H a=some o/\O a=t)/\ ∀ a o,W a=some o->H a=some o/\O a= .rest
 good:Good K W g v m
variable{K:AS}{A:B4}{W W':Hp}{g g':B2}{v v':Var}{m m':Ht.M}{H H':Hp}
def bQ(e:want A g v m t=some (a,o)):t≠ .rest:=fun z=>by subst z;cases e
def R.at_(h:R K A W g v m H){t:Tag}{o:HO}(e:want A g v m t=some (a,o)):H a=some o:=by
 obtain⟨O,h1,_⟩:=h.o
 exact(h1 t a o e).1
def R.sub(h:R K A W g v m H):Bc W H:=fun a o e=>by
 obtain⟨O,_,h2⟩:=h.o
 exact(h2 a o e).1
def R.core(h:R K A W g v m H)(N:AK->Option Tag)
  (hw: ∀ t a o,want A g' v' m' t=some (a,o)->H' a=some o/\(N a=some t\/(N a=none/\ ∃ o0,want A g v m t=some (a,o0))))
  (hW: ∀ a o,W' a=some o->H' a=some o/\(N a=some .rest\/(N a=none/\ ∃ o0,W a=some o0))) (gd:Good K W' g' v' m'):R K A W' g' v' m' H':=by
 obtain⟨O,h1,h2⟩:=h.o
 refine⟨⟨fun a=>(N a).getD<|O a,fun t a o e=>?_,fun a o e=>?_⟩,gd⟩
 ·obtain⟨x,y⟩:=hw t a o e
  refine⟨x,?_⟩
  rcases y with y |⟨y,o0,z⟩
  ·show(N a).getD (O a)=t
   rw[y];rfl
  ·show(N a).getD (O a)=t
   rw[y];exact(h1 t a o0 z).2
 ·obtain⟨x,y⟩:=hW a o e
  refine⟨x,?_⟩
  rcases y with y |⟨y,o0,z⟩
  ·show(N a).getD (O a)= .rest
   rw[y];rfl
  ·show(N a).getD (O a)= .rest
   rw[y];exact(h2 a o0 z).2
def R.apart(h:R K A W g v m H){t u:Tag}{o o':HO}(e:want A g v m t=some (a,o))(e':want A g v m u=some (b,o'))(n:u≠t):b≠a:=by
 obtain⟨O,h1,_⟩:=h.o
 intro z
 subst z
 exact n<|(h1 u b o' e').2.symm.trans (h1 t b o e).2
def R.Q6(h:R K A W g v m H){t:Tag}{o o':HO}(e:want A g v m t=some (a,o))(e':W b=some o'):b≠a:=by
 obtain⟨O,h1,h2⟩:=h.o
 intro z
 subst z
 exact bQ e<|(h1 t b o e).2.symm.trans (h2 b o' e').2
def R.Ec(h:R K A W g v m H)(t:Tag){a:AK}{o o':HO}(e:want A g v m t=some (a,o))(e':want A g' v' m' t=some (a,o'))(gd:Good K W g' v' m')(s: ∀ u,u≠t->want A g' v' m' u=want A g v m u:=by exact fun u hu=>by cases u<;>first | rfl | exact absurd rfl hu):R K A W g' v' m' (upd H a o'):=by
 refine h.core (fun _=>none) (fun u b ob eb=>?_) (fun b ob eb=>?_) gd
 ·by_cases hu:u=t
  ·subst hu
   rw[e']at eb
   cases eb
   exact⟨AJ,.inr ⟨rfl,_,e⟩⟩
  ·rw[s u hu]at eb
   refine⟨?_,.inr ⟨rfl,_,eb⟩⟩
   rw[AQ<|h.apart e eb hu]
   exact h.at_ eb
 ·refine⟨?_,.inr ⟨rfl,_,eb⟩⟩
  rw[AQ<|h.Q6 e eb]
  exact h.sub _ _ eb
def R.new(h:R K A W g v m H){l:AK}{o:HO}(f:H l=none):R K A W g v m (upd H l o):=by
 exact h.core (fun _=>none) (fun u b ob eb=>⟨by rw[AQ<|Ac (h.at_ eb) f];exact h.at_ eb,.inr ⟨rfl,_,eb⟩⟩) (fun b ob eb=>⟨by rw[AQ<|Ac (h.sub _ _ eb) f];exact h.sub _ _ eb,.inr ⟨rfl,_,eb⟩⟩) h.good
def BY(s:Bc W W')(h:Dh K W a xs):Dh K W' a xs:=by
 rcases h with(h |⟨o,h⟩) | h
 ·exact .inl<|.inl<|s _ _ h
 ·exact .inl<|.inr ⟨o,s _ _ h⟩
 ·exact .inr h
def Good.mono(h:Good K W g v m)(s:Bc W W'):Good K W' g v m:=
 {h with tP:=BY s h.tP,tF:=BY s h.tF,tQ:=BY s h.tQ,own:=s _ _ h.own,font:=s _ _ h.font,ends:=s _ _ h.ends,fns:=fun e=>s _ _<|h.fns e}
def Bd(f:W l=none):Bc W (upd W l o):=fun b u e=>by rw[AQ<|Ac e f];exact e
theorem R.free(h:R K A W g v m H){l:AK}(f:H l=none):W l=none:=by
 cases e:W l with
 | none=>rfl
 | some o=>rw[h.sub _ _ e]at f;cases f
def R.M_(h:R K A W g v m H){l:AK}{o:HO}(f:H l=none):R K A (upd W l o) g v m (upd H l o):=by
 refine h.core (fun b=>if b=l then some .rest else none) (fun u b ob eb=>?_) (fun b ob eb=>?_)<|h.good.mono<|Bd<|h.free f
 ·have n:=Ac (h.at_ eb) f
  exact⟨by rw[AQ n];exact h.at_ eb,.inr ⟨AG n,_,eb⟩⟩
 ·by_cases n:b=l
  ·subst n
   rw[AJ]at eb
   cases eb
   exact⟨AJ,.inl<|AI rfl⟩
  ·rw[AQ n]at eb
   exact⟨by rw[AQ n];exact h.sub _ _ eb,.inr ⟨AG n,_,eb⟩⟩
def R.cF(h:R K A W g v m H)(t u:Tag){a l:AK}{o o' ou:HO}(f:H l=none)(e:want A g v m t=some (a,o))(e':want A g v' m' t=some (a,o'))(eu:want A g v' m' u=some (l,ou))
  (s: ∀ x,x≠t->x≠u->want A g v' m' x=want A g v m x) (tu:u≠t) (gd:Good K W g v' m'):R K A W g v' m' (upd (upd H l ou) a o'):=by
 have al:=Ac (h.at_ e) f
 refine h.core (fun b=>if b=l then some u else none) (fun x b ob eb=>?_) (fun b ob eb=>?_) gd
 ·by_cases hx:x=t
  ·subst hx
   rw[e']at eb
   cases eb
   exact⟨AJ,.inr ⟨AG al,_,e⟩⟩
  ·by_cases hu:x=u
   ·subst hu
    rw[eu]at eb
    cases eb
    exact⟨by rw[AQ al.symm];exact AJ,.inl<|AI rfl⟩
   ·rw[s x hx hu]at eb
    have n:=Ac (h.at_ eb) f
    refine⟨?_,.inr ⟨AG n,_,eb⟩⟩
    rw[AQ<|h.apart e eb hx,AQ n]
    exact h.at_ eb
 ·have n:=Ac (h.sub _ _ eb) f
  refine⟨?_,.inr ⟨AG n,_,eb⟩⟩
  rw[AQ<|h.Q6 e eb,AQ n]
  exact h.sub _ _ eb
def R.zL(h:R K A W g v m H)(t u x:Tag){a l k:AK}{o o' ou ox:HO}(f:H l=none)(fk:H k=none)(lk:l≠k)(e:want A g v m t=some (a,o))(e':want A g v' m' t=some (a,o'))(eu:want A g v' m' u=some (l,ou))(ex:want A g v' m' x=some (k,ox))
  (s: ∀ y,y≠t->y≠u->y≠x->want A g v' m' y=want A g v m y) (tu:u≠t) (tx:x≠t) (ux:u≠x) (gd:Good K W g v' m'):R K A W g v' m' (upd (upd (upd H l ou) k ox) a o'):=by
 have al:=Ac (h.at_ e) f
 have ak:=Ac (h.at_ e) fk
 refine h.core (fun b=>if b=l then some u else if b=k then some x else none) (fun y b ob eb=>?_) (fun b ob eb=>?_) gd
 ·by_cases hy:y=t
  ·subst hy
   rw[e']at eb
   cases eb
   exact⟨AJ,.inr ⟨by rw[AG al,AG ak],_,e⟩⟩
  ·by_cases hu:y=u
   ·subst hu
    rw[eu]at eb
    cases eb
    exact⟨by rw[AQ al.symm,AQ lk];exact AJ,.inl<|AI rfl⟩
   ·by_cases hx:y=x
    ·subst hx
     rw[ex]at eb
     cases eb
     exact⟨by rw[AQ ak.symm];exact AJ,.inl<|by rw[AG lk.symm,AI rfl]⟩
    ·rw[s y hy hu hx]at eb
     have n:=Ac (h.at_ eb) f
     have n':=Ac (h.at_ eb) fk
     refine⟨?_,.inr ⟨by rw[AG n,AG n'],_,eb⟩⟩
     rw[AQ<|h.apart e eb hy,AQ n',AQ n]
     exact h.at_ eb
 ·have n:=Ac (h.sub _ _ eb) f
  have n':=Ac (h.sub _ _ eb) fk
  refine⟨?_,.inr ⟨by rw[AG n,AG n'],_,eb⟩⟩
  rw[AQ<|h.Q6 e eb,AQ n',AQ n]
  exact h.sub _ _ eb
end
section
variable{K:AS}{A:B4}{W W':Hp}{g:B2}{v v':Var}{m m':Ht.M}{H H':Hp}
def R.run(h:R K A W g v m H):H g.run=some (.ins (A.cl 1) g.Q9<|DU g v m):=h.at_ (t:= .run) rfl
def R.gr(h:R K A W g v m H):H g.gr=some (.ins (A.cl 6) g.ZC<|sj g m):=h.at_ (t:= .gr) rfl
def R.kp(h:R K A W g v m H):H g.kp=some (.ins (A.cl 5) g.Ve<|S3 m.kept):=h.at_ (t:= .kp) rfl
def R.CM(h:R K A W g v m H):H g.CM=some (.lst<|(BM m.going.length).map fun j=> .ref<|v.K6 j):=h.at_ (t:= .CM) rfl
def R.C2(h:R K A W g v m H):H g.C2=some (.lst<|iV m.stack.reverse):=h.at_ (t:= .C2) rfl
def R.refs(h:R K A W g v m H):H g.refs=some (.lst [.int m.r0,.int m.r1,.int m.r2]):=h.at_ (t:= .refs) rfl
def R.Bj(h:R K A W g v m H):H v.Bj=some (.lst [.int<|AD m.z0,.int<|AD m.z1,.int<|AD m.z2]):=h.at_ (t:= .Bj) rfl
def R.cells(h:R K A W g v m H):H g.cells=some (.lst<|iV m.cells):=h.at_ (t:= .cells) rfl
def R.Cq(h:R K A W g v m H):H g.Cq=some (.lst<|iV m.values):=h.at_ (t:= .Cq) rfl
def R.zl(h:R K A W g v m H)(hz:z<2):H (g.zl z)=some (.lst<|(BM (m.zone z).size).map fun i=> .ref<|g.pp z i):=h.at_ (t:= .zl z) (AI hz)
def R.pt(h:R K A W g v m H)(hz:z<2)(hi:i<(m.zone z).size):H (g.pp z i)=some (.ins (A.cl 3) (g.pd z i)<|N0 (v.lo z i) (v.ln z i)<|AD<|(m.zone z).mark i):=h.at_ (t:= .pt z i) (AI ⟨hz,hi⟩)
def R.po(h:R K A W g v m H)(hz:z<2)(hi:i<(m.zone z).size):H (v.lo z i)=some (.lst<|pV<|(m.zone z).was i):=h.at_ (t:= .po z i) (AI ⟨hz,hi⟩)
def R.pn(h:R K A W g v m H)(hz:z<2)(hi:i<(m.zone z).size):H (v.ln z i)=some (.lst<|pV<|(m.zone z).at_ i):=h.at_ (t:= .pn z i) (AI ⟨hz,hi⟩)
def R.fr(h:R K A W g v m H)(hj:j<m.going.length):H (v.K6 j)=some (.ins (A.cl 2) (v.fN j)<|Vo g<|m.going.reverse.getD j ⟨0,0,0,false⟩):=h.at_ (t:= .fr j) (AI hj)
def R.tP(h:R K A W g v m H):Dh K H v.tP (pV m.P):=BY h.sub h.good.tP
def R.tF(h:R K A W g v m H):Dh K H v.tF (pV m.F):=BY h.sub h.good.tF
def R.tQ(h:R K A W g v m H):Dh K H v.tQ (pV m.Q):=BY h.sub h.good.tQ
def R.codeAt(h:R K A W g v m H)(f:Bool):H (bF g f)=some (.lst<|Tb<|codeB g f):=by
 cases f
 ·exact h.sub _ _ h.good.own
 ·exact h.sub _ _ h.good.font
def R.ends(h:R K A W g v m H):H g.ends=some (.lst<|m.ends.map fun e=> .int<|AD e):=h.sub _ _ h.good.ends
def jf:(DU g v m).lookup ("kind":Str)=some (.int<|kI g.kind):=rfl
def A_:(DU g v m).lookup ("ground":Str)=some (.ref g.gr):=rfl
def ABL:(DU g v m).lookup ("font":Str)=some (.ref g.font):=rfl
def U8:(DU g v m).lookup ("functions":Str)=some (.ref g.fn):=rfl
def FZ:(DU g v m).lookup ("code":Str)=some (.ref<|bF g m.inFont):=rfl
def qR:(DU g v m).lookup ("whose":Str)=some (.int<|bI m.inFont):=rfl
def HY:(DU g v m).lookup ("place":Str)=some (.int<|AD g.place):=rfl
def He:(DU g v m).lookup ("after":Str)=some (.int<|AD m.place):=rfl
def BL:(DU g v m).lookup ("byte":Str)=some (.int<|AD g.byte):=rfl
def jw:(DU g v m).lookup ("done":Str)=some (.int<|AD m.steps):=rfl
def JN:(DU g v m).lookup ("frames":Str)=some (.ref g.CM):=rfl
def E9:(DU g v m).lookup ("stack":Str)=some (.ref g.C2):=rfl
def ED:(DU g v m).lookup ("projection":Str)=some (.ref v.tP):=rfl
def Fh:(DU g v m).lookup ("freedom":Str)=some (.ref v.tF):=rfl
def LF:(DU g v m).lookup ("old_projection":Str)=some (.ref v.tQ):=rfl
def CK:(DU g v m).lookup ("references":Str)=some (.ref g.refs):=rfl
def C8:(DU g v m).lookup ("pointers":Str)=some (.ref v.Bj):=rfl
def ABd:(DU g v m).lookup ("loop":Str)=some (.int<|AD m.loop):=rfl
def kO:(DU g v m).lookup ("rounding":Str)=some (.int<|AD m.way):=rfl
def VS:(DU g v m).lookup ("rounding_byte":Str)=some (.int<|AD m.byte):=rfl
def jS:(sj g m).lookup ("units":Str)=some (.int<|AD m.units):=rfl
def Vy:(sj g m).lookup ("dots":Str)=some (.int<|AD m.dots):=rfl
def iL:(sj g m).lookup ("cells":Str)=some (.ref g.cells):=rfl
def Hj:(sj g m).lookup ("controls":Str)=some (.ref g.Cq):=rfl
def gw:(sj g m).lookup ("twilight":Str)=some (.ref<|g.zl 0):=rfl
def HA:(sj g m).lookup ("outline":Str)=some (.ref<|g.zl 1):=rfl
def dN:(sj g m).lookup ("ends":Str)=some (.ref g.ends):=rfl
def DX:(sj g m).lookup ("kept":Str)=some (.ref g.kp):=rfl
def YE:(S3 k).lookup ("least":Str)=some (.int k.least):=rfl
def K3:(S3 k).lookup ("cut_in":Str)=some (.int k.cutin):=rfl
def OR:(S3 k).lookup ("width":Str)=some (.int k.width):=rfl
def IF:(S3 k).lookup ("width_cut_in":Str)=some (.int k.widthcut):=rfl
def Kc:(S3 k).lookup ("delta_base":Str)=some (.int<|AD k.base):=rfl
def GS:(S3 k).lookup ("delta_shift":Str)=some (.int<|AD k.shift):=rfl
def WG:(S3 k).lookup ("flip":Str)=some (.int<|bI k.flip):=rfl
def AAN:(Vo g y).lookup ("code":Str)=some (.ref<|bF g y.backFont):=rfl
def xP:(Vo g y).lookup ("whose":Str)=some (.int<|bI y.backFont):=rfl
def yi:(Vo g y).lookup ("back":Str)=some (.int<|AD y.back):=rfl
def xJ:(Vo g y).lookup ("start":Str)=some (.int<|AD y.start):=rfl
def ow:(Vo g y).lookup ("left":Str)=some (.int y.left):=rfl
end
section
variable{K:AS}{A:B4}{W W':Hp}{g:B2}{v v':Var}{m m':Ht.M}{H H':Hp}
def R.setStack(h:R K A W g v m H)(hl:s.length<=128)(hi: ∀ x∈s,FN x):R K A W g v (Bs m<|s) (upd H g.C2<|.lst<|iV s.reverse):=
 h.Ec .C2 rfl rfl {h.good with st:=hl,sti:=hi}
def R.setLoop(h:R K A W g v m H)(n:Nat)(c:1<=n/\n<=65535):R K A W g v {m with loop:=n} (upd H g.run<|.ins (A.cl 1) g.Q9<|DI "loop" (.int<|AD n)<|DU g v m):=
 h.Ec .run rfl rfl {h.good with loop:=c}
def R.JW(h:R K A W g v m H)(n:Nat)(c:n<=(codeB g m.inFont).length):R K A W g v {m with place:=n} (upd H g.run<|.ins (A.cl 1) g.Q9<|DI "after" (.int<|AD n)<|DU g v m):=
 h.Ec .run rfl rfl {h.good with place:=c}
def R.yT(h:R K A W g v m H)(n:Nat)(c:n<=5000):R K A W g v {m with steps:=n} (upd H g.run<|.ins (A.cl 1) g.Q9<|DI "done" (.int<|AD n)<|DU g v m):=
 h.Ec .run rfl rfl {h.good with steps:=c}
def R.lC(h:R K A W g v m H)(n:Nat)(c:n<=7):R K A W g v {m with way:=n} (upd H g.run<|.ins (A.cl 1) g.Q9<|DI "rounding" (.int<|AD n)<|DU g v m):=
 h.Ec .run rfl rfl {h.good with way:=c}
def R.AAO(h:R K A W g v m H)(n:Nat)(c:n<256):R K A W g v {m with byte:=n} (upd H g.run<|.ins (A.cl 1) g.Q9<|DI "rounding_byte" (.int<|AD n)<|DU g v m):=
 h.Ec .run rfl rfl {h.good with byte:=c}
def R.ADl(h:R K A W g v m H)(t:Dh K W a (pV x))(c:Sm x):R K A W g {v with tP:=a} {m with P:=x} (upd H g.run<|.ins (A.cl 1) g.Q9<|DI "projection" (.ref a)<|DU g v m):=
 h.Ec .run rfl rfl {h.good with tP:=t,sP:=c}
def R.Xz(h:R K A W g v m H)(t:Dh K W a (pV x))(c:Sm x):R K A W g {v with tF:=a} {m with F:=x} (upd H g.run<|.ins (A.cl 1) g.Q9<|DI "freedom" (.ref a)<|DU g v m):=
 h.Ec .run rfl rfl {h.good with tF:=t,sF:=c}
def R.ADT(h:R K A W g v m H)(t:Dh K W a (pV x))(c:Sm x):R K A W g {v with tQ:=a} {m with Q:=x} (upd H g.run<|.ins (A.cl 1) g.Q9<|DI "old_projection" (.ref a)<|DU g v m):=
 h.Ec .run rfl rfl {h.good with tQ:=t,sQ:=c}
def R.dE(h:R K A W g v m H)(c:FN x):R K A W g v {m with r0:=x} (upd H g.refs<|.lst [.int x,.int m.r1,.int m.r2]):=
 h.Ec .refs rfl rfl {h.good with r0:=c}
def R.zF(h:R K A W g v m H)(c:x<2):R K A W g v {m with z0:=x} (upd H v.Bj<|.lst [.int<|AD x,.int<|AD m.z1,.int<|AD m.z2]):=
 h.Ec .Bj rfl rfl {h.good with z0:=c}
def R.bU(h:R K A W g v m H)(c:FN x):R K A W g v {m with r1:=x} (upd H g.refs<|.lst [.int m.r0,.int x,.int m.r2]):=
 h.Ec .refs rfl rfl {h.good with r1:=c}
def R.yV(h:R K A W g v m H)(c:x<2):R K A W g v {m with z1:=x} (upd H v.Bj<|.lst [.int<|AD m.z0,.int<|AD x,.int<|AD m.z2]):=
 h.Ec .Bj rfl rfl {h.good with z1:=c}
def R.mH(h:R K A W g v m H)(c:FN x):R K A W g v {m with r2:=x} (upd H g.refs<|.lst [.int m.r0,.int m.r1,.int x]):=
 h.Ec .refs rfl rfl {h.good with r2:=c}
def R.yu(h:R K A W g v m H)(c:x<2):R K A W g v {m with z2:=x} (upd H v.Bj<|.lst [.int<|AD m.z0,.int<|AD m.z1,.int<|AD x]):=
 h.Ec .Bj rfl rfl {h.good with z2:=c}
def R.yn(h:R K A W g v m H)(c:x<2)(f:H l=none):R K A W g {v with Bj:=l} {m with z0:=x,z1:=x,z2:=x} (upd (upd H l<|.lst [.int<|AD x,.int<|AD x,.int<|AD x]) g.run<|.ins (A.cl 1) g.Q9<|DI "pointers" (.ref l)<|DU g v m):=
 h.cF .run .Bj f rfl rfl rfl (fun u hu hw=>by cases u<;>first | rfl | exact absurd rfl hu | exact absurd rfl hw) (by intro z;cases z) {h.good with z0:=c,z1:=c,z2:=c}
def R.kf(h:R K A W g v m H)(c:FN x):R K A W g v {m with kept:={m.kept with least:=x}} (upd H g.kp<|.ins (A.cl 5) g.Ve<|DI "least" (.int x)<|S3 m.kept):=
 h.Ec .kp rfl rfl {h.good with least:=c}
def R.gx(h:R K A W g v m H)(c:FN x):R K A W g v {m with kept:={m.kept with cutin:=x}} (upd H g.kp<|.ins (A.cl 5) g.Ve<|DI "cut_in" (.int x)<|S3 m.kept):=
 h.Ec .kp rfl rfl {h.good with cutin:=c}
def R.kG(h:R K A W g v m H)(c:FN x):R K A W g v {m with kept:={m.kept with width:=x}} (upd H g.kp<|.ins (A.cl 5) g.Ve<|DI "width" (.int x)<|S3 m.kept):=
 h.Ec .kp rfl rfl {h.good with width:=c}
def R.RU(h:R K A W g v m H)(c:FN x):R K A W g v {m with kept:={m.kept with widthcut:=x}} (upd H g.kp<|.ins (A.cl 5) g.Ve<|DI "width_cut_in" (.int x)<|S3 m.kept):=
 h.Ec .kp rfl rfl {h.good with wO:=c}
def R.Vg(h:R K A W g v m H)(x:Nat)(c:x<65536):R K A W g v {m with kept:={m.kept with base:=x}} (upd H g.kp<|.ins (A.cl 5) g.Ve<|DI "delta_base" (.int<|AD x)<|S3 m.kept):=
 h.Ec .kp rfl rfl {h.good with base:=c}
def R.T4(h:R K A W g v m H)(x:Nat)(c:x<=6):R K A W g v {m with kept:={m.kept with shift:=x}} (upd H g.kp<|.ins (A.cl 5) g.Ve<|DI "delta_shift" (.int<|AD x)<|S3 m.kept):=
 h.Ec .kp rfl rfl {h.good with shift:=c}
def R.Z6(h:R K A W g v m H)(x:Bool):R K A W g v {m with kept:={m.kept with flip:=x}} (upd H g.kp<|.ins (A.cl 5) g.Ve<|DI "flip" (.int<|bI x)<|S3 m.kept):=
 h.Ec .kp rfl rfl {h.good with}
def R.a8(h:R K A W g v m H)(x:Bool):R K A W g v {m with still:=x} (upd H g.gr<|.ins (A.cl 6) g.ZC<|DI "still" (.int<|bI x)<|sj g m):=
 h.Ec .gr rfl rfl {h.good with}
def R.set_plain(h:R K A W g v m H)(x:Bool):R K A W g v {m with plain:=x} (upd H g.gr<|.ins (A.cl 6) g.ZC<|DI "plain" (.int<|bI x)<|sj g m):=
 h.Ec .gr rfl rfl {h.good with}
def R.rl(h:R K A W g v m H)(c:FN x):R K A W g v {m with cells:=m.cells.set i x} (upd H g.cells<|.lst<|iV<|m.cells.set i x):=by
 have a1: ∀ y∈m.cells.set i x,FN y:=fun y hy=>by
  rcases TC hy with q | q
  ·exact h.good.cells y q
  ·subst q;exact c
 have a2:(m.cells.set i x).length<=64:=by rw[DR];exact h.good.RB
 exact h.Ec .cells rfl rfl {h.good with cells:=a1,RB:=a2,nc:=by rw[<-h.good.nc];exact DR ..}
def R.QW(h:R K A W g v m H)(c:FN x):R K A W g v {m with values:=m.values.set i x} (upd H g.Cq<|.lst<|iV<|m.values.set i x):=by
 have a1: ∀ y∈m.values.set i x,FN y:=fun y hy=>by
  rcases TC hy with q | q
  ·exact h.good.vals y q
  ·subst q;exact c
 have a2:(m.values.set i x).length<=64:=by rw[DR];exact h.good.Gn
 exact h.Ec .Cq rfl rfl {h.good with vals:=a1,Gn:=a2,nv:=by rw[<-h.good.nv];exact DR ..}
noncomputable def Ce(m:Ht.M)(z i:Nat)(o n:Ht.Pos)(k:Nat):Ht.M:=m.setZone z ⟨(m.zone z).org.set i o,(m.zone z).now.set i n,(m.zone z).marks.set i k⟩
noncomputable def Pe(v:Var)(z i:Nat)(a b:AK):Var:={v with lo:=fun z' i'=>if z'=z/\i'=i then a else v.lo z' i',ln:=fun z' i'=>if z'=z/\i'=i then b else v.ln z' i'}
def QQ(h:z<2):z=0\/z=1:=by lia
def DT(hz:z<2):(Ce m z i o n k).zone z=⟨(m.zone z).org.set i o,(m.zone z).now.set i n,(m.zone z).marks.set i k⟩:=by
 rcases QQ hz with rfl | rfl<;>rfl
def Mf(hz:z<2)(hy:y<2)(ne:y≠z):(Ce m z i o n k).zone y=m.zone y:=by
 rcases QQ hz with rfl | rfl<;>rcases QQ hy with rfl | rfl<;>first | rfl | exact absurd rfl ne
def Fj(hz:z<2)(hy:y<2):((Ce m z i o n k).zone y).size=(m.zone y).size:=by
 by_cases e:y=z
 ·subst e
  rw[DT hz]
  exact DR ..
 ·rw[Mf hz hy e]
def CJ{l:List α}{x d:α}(h:i<l.length):(l.set i x).getD i d=x:=by
 rw[Cc,F9 h];rfl
def Ef{l:List α}{x d:α}(h:j≠i):(l.set i x).getD j d=l.getD j d:=by
 rw[Cc,DM<|Ei h,Cc]
def Hi{l:List α}{d:α}:l.set i (l.getD i d)=l:=by
 apply Oc
 intro j
 by_cases e:j=i
 ·subst e
  by_cases hl:j<l.length
  ·rw[F9 hl,Cc,CS hl];rfl
  ·rw[EG<|by rw[DR];lia,EG<|by lia]
 ·rw[DM<|Ei e]
def E1(h:Good K W g v m)(hz:z<2):LH (m.zone z):=by
 rcases QQ hz with rfl | rfl
 ·exact h.zone0
 ·exact h.zone1
def LH.set(h:LH z)(ho:LJ o)(hn:LJ n)(hk:k<8):LH ⟨z.org.set i o,z.now.set i n,z.marks.set i k⟩:=by
 refine⟨?_,?_,?_,?_,?_,?_⟩
 ·simp only[DR];exact h.lo
 ·simp only[DR];exact h.lm
 ·simp only[DR];exact h.ZA
 ·intro x hx
  rcases TC hx with q | q
  ·exact h.org x q
  ·exact q▸ho
 ·intro x hx
  rcases TC hx with q | q
  ·exact h.now x q
  ·exact q▸hn
 ·intro x hx
  rcases TC hx with q | q
  ·exact h.marks x q
  ·exact q▸hk
def Good.Ce(h:Good K W g v m)(hz:z<2)(ho:LJ o)(hn:LJ n)(hk:k<8):Good K W g (Pe v z i a b) (Ce m z i o n k):=by
 rcases QQ hz with rfl | rfl
 ·exact{h with zone0:=h.zone0.set ho hn hk,n0:=by rw[<-h.n0];exact DR ..}
 ·refine{h with zone1:=h.zone1.set ho hn hk,Kv:=?_,n1:=by rw[<-h.n1];exact DR ..}
  have e:(GF.Ce m 1 i o n k).zone1.size=m.zone1.size:=DR ..
  show N9 (GF.Ce m 1 i o n k).zone1.size m.ends
  rw[e]
  exact h.Kv
theorem PQ(hz:z<2): ∀ u,u≠ .pt z i->u≠ .po z i->u≠ .pn z i->want A g (Pe v z i a b) (Ce m z i o n k) u=want A g v m u:=by
 intro u h1 h2 h3
 have key: ∀ z' i',¬(z'=z/\i'=i)->z'<2->((Ce m z i o n k).zone z').size=(m.zone z').size/\((Ce m z i o n k).zone z').mark i'=(m.zone z').mark i'/\((Ce m z i o n k).zone z').was i'=(m.zone z').was i'/\((Ce m z i o n k).zone z').at_ i'=(m.zone z').at_ i':=by
  intro z' i' ne hz'
  refine⟨Fj hz hz',?_⟩
  by_cases e:z'=z
  ·subst e
   have ne':i'≠i:=fun q=>ne ⟨rfl,q⟩
   rw[DT hz]
   exact⟨Ef ne',Ef ne',Ef ne'⟩
  ·rw[Mf hz hz' e]
   exact⟨rfl,rfl,rfl⟩
 cases u with
 | zl z'=>
  simp only[want]
  by_cases hz':z'<2
  ·rw[AI hz',AI hz',Fj hz hz']
  ·rw[AG hz',AG hz']
 | pt z' i'=>
  have ne: ¬(z'=z/\i'=i):=fun q=>h1<|by rw[q.1,q.2]
  simp only[want]
  by_cases hz':z'<2
  ·obtain⟨k1,k2,k3,k4⟩:=key z' i' ne hz'
   simp only[k1,k2,Pe,AG ne]
  ·rw[AG fun q=>hz' q.1,AG fun q=>hz' q.1]
 | po z' i'=>
  have ne: ¬(z'=z/\i'=i):=fun q=>h2<|by rw[q.1,q.2]
  simp only[want]
  by_cases hz':z'<2
  ·obtain⟨k1,k2,k3,k4⟩:=key z' i' ne hz'
   simp only[k1,k3,Pe,AG ne]
  ·rw[AG fun q=>hz' q.1,AG fun q=>hz' q.1]
 | pn z' i'=>
  have ne: ¬(z'=z/\i'=i):=fun q=>h3<|by rw[q.1,q.2]
  simp only[want]
  by_cases hz':z'<2
  ·obtain⟨k1,k2,k3,k4⟩:=key z' i' ne hz'
   simp only[k1,k4,Pe,AG ne]
  ·rw[AG fun q=>hz' q.1,AG fun q=>hz' q.1]
 | _=>rcases QQ hz with rfl | rfl<;>rfl
def XD(hz:z<2)(hi:i<(m.zone z).size)(q:LH (m.zone z)):
  want A g (Pe v z i a b) (Ce m z i o n k) (.pt z i)=some (g.pp z i,.ins (A.cl 3) (g.pd z i)<|N0 a b<|AD k)/\
  want A g (Pe v z i a b) (Ce m z i o n k) (.po z i)=some (a,.lst<|pV o)/\want A g (Pe v z i a b) (Ce m z i o n k) (.pn z i)=some (b,.lst<|pV n):=by
 have e1:((Ce m z i o n k).zone z).size=(m.zone z).size:=Fj hz hz
 have hm:((Ce m z i o n k).zone z).mark i=k:=by rw[DT hz];exact CJ<|by have:=q.lm;unfold Ht.Zone.size at hi;lia
 have hw:((Ce m z i o n k).zone z).was i=o:=by rw[DT hz];exact CJ<|by have:=q.lo;unfold Ht.Zone.size at hi;lia
 have ha:((Ce m z i o n k).zone z).at_ i=n:=by rw[DT hz];exact CJ hi
 simp only[want]
 rw[AI ⟨hz,by rw[e1];exact hi⟩,AI ⟨hz,by rw[e1];exact hi⟩,AI ⟨hz,by rw[e1];exact hi⟩,hm,hw,ha]
 refine⟨?_,?_,?_⟩<;>simp only[Pe,and_self,D8]
def Ln(h:Good K W g v m)(hz:z<2)(hi:i<(m.zone z).size):LJ ((m.zone z).at_ i):=by
 unfold Ht.Zone.at_
 rw[Cc,CS hi]
 exact(E1 h hz).now _<|V1 hi
def Fv(h:Good K W g v m)(hz:z<2)(hi:i<(m.zone z).size):LJ ((m.zone z).was i):=by
 have q:=E1 h hz
 have hi':i<(m.zone z).org.length:=by have:=q.lo;unfold Ht.Zone.size at hi;lia
 unfold Ht.Zone.was
 rw[Cc,CS hi']
 exact q.org _<|V1 hi'
def KO(h:Good K W g v m)(hz:z<2)(hi:i<(m.zone z).size):(m.zone z).mark i<8:=by
 have q:=E1 h hz
 have hi':i<(m.zone z).marks.length:=by have:=q.lm;unfold Ht.Zone.size at hi;lia
 unfold Ht.Zone.mark
 rw[Cc,CS hi']
 exact q.marks _<|V1 hi'
def PX:Pe v z i (v.lo z i) (v.ln z i)=v:=by
 unfold Pe
 have e1:(fun z' i'=>if z'=z/\i'=i then v.lo z i else v.lo z' i')=v.lo:=by
  funext z' i';by_cases q:z'=z/\i'=i
  ·rw[AI q,q.1,q.2]
  ·rw[AG q]
 have e2:(fun z' i'=>if z'=z/\i'=i then v.ln z i else v.ln z' i')=v.ln:=by
  funext z' i';by_cases q:z'=z/\i'=i
  ·rw[AI q,q.1,q.2]
  ·rw[AG q]
 rw[e1,e2]
def R.km(h:R K A W g v m H)(hz:z<2)(hi:i<(m.zone z).size)(hk:k<8):R K A W g v (Ce m z i ((m.zone z).was i) ((m.zone z).at_ i) k) (upd H (g.pp z i)<|.ins (A.cl 3) (g.pd z i)<|N0 (v.lo z i) (v.ln z i)<|AD k):=by
 obtain⟨w1,w2,w3⟩:=XD hz hi<|E1 h.good hz
 have gd:=h.good.Ce (i:=i) (a:=v.lo z i) (b:=v.ln z i) hz (Fv h.good hz hi) (Ln h.good hz hi) hk
 have s:=PQ (A:=A) (g:=g) (v:=v) (m:=m) (i:=i) (o:=(m.zone z).was i) (n:=(m.zone z).at_ i) (k:=k) (a:=v.lo z i) (b:=v.ln z i) hz
 rw[PX]at w1 w2 w3 gd
 simp only[PX]at s
 refine h.Ec (.pt z i) (AI ⟨hz,hi⟩) w1 gd fun u hu=>?_
 by_cases e:u= .po z i
 ·subst e;rw[w2];exact(AI ⟨hz,hi⟩).symm
 ·by_cases e':u= .pn z i
  ·subst e';rw[w3];exact(AI ⟨hz,hi⟩).symm
  ·exact s u hu e e'
def R.vp(h:R K A W g v m H)(hz:z<2)(hi:i<(m.zone z).size)(hn:LJ n)(f:H l=none):R K A W g (Pe v z i (v.lo z i) l) (Ce m z i ((m.zone z).was i) n<|(m.zone z).mark i) (upd (upd H l<|.lst<|pV n) (g.pp z i)<|.ins (A.cl 3) (g.pd z i)<|N0 (v.lo z i) l<|AD<|(m.zone z).mark i):=by
 obtain⟨w1,w2,w3⟩:=XD hz hi<|E1 h.good hz
 refine h.cF (.pt z i) (.pn z i) f (AI ⟨hz,hi⟩) w1 w3 (fun u hu hu'=>?_) (by intro z;cases z) (h.good.Ce (i:=i) (a:=v.lo z i) (b:=l) hz (Fv h.good hz hi) hn<|KO h.good hz hi)
 by_cases e:u= .po z i
 ·subst e;rw[w2];exact(AI ⟨hz,hi⟩).symm
 ·exact(PQ (A:=A) (g:=g) (v:=v) (m:=m) (i:=i) (o:=(m.zone z).was i) (n:=n) (k:=(m.zone z).mark i) (a:=v.lo z i) (b:=l) hz) u hu e hu'
def R.pz(h:R K A W g v m H)(hz:z<2)(hi:i<(m.zone z).size)(hn:LJ n):R K A W g v (Ce m z i ((m.zone z).was i) n<|(m.zone z).mark i) (upd H (v.ln z i)<|.lst<|pV n):=by
 obtain⟨w1,w2,w3⟩:=XD hz hi<|E1 h.good hz
 have gd:=h.good.Ce (i:=i) (a:=v.lo z i) (b:=v.ln z i) hz (Fv h.good hz hi) hn<|KO h.good hz hi
 have s:=PQ (A:=A) (g:=g) (v:=v) (m:=m) (i:=i) (o:=(m.zone z).was i) (n:=n) (k:=(m.zone z).mark i) (a:=v.lo z i) (b:=v.ln z i) hz
 rw[PX]at w1 w2 w3 gd
 simp only[PX]at s
 refine h.Ec (.pn z i) (AI ⟨hz,hi⟩) w3 gd fun u hu=>?_
 by_cases e:u= .po z i
 ·subst e;rw[w2];exact(AI ⟨hz,hi⟩).symm
 ·by_cases e':u= .pt z i
  ·subst e';rw[w1];exact(AI ⟨hz,hi⟩).symm
  ·exact s u e' e hu
def R.AEU(h:R K A W g v m H)(hz:z<2)(hi:i<(m.zone z).size)(hn:LJ n)(f:H l=none)(fk:H k=none)(lk:l≠k):
  R K A W g (Pe v z i l k) (Ce m z i n n<|(m.zone z).mark i) (upd (upd (upd H l<|.lst<|pV n) k<|.lst<|pV n) (g.pp z i)<|.ins (A.cl 3) (g.pd z i)<|N0 l k<|AD<|(m.zone z).mark i):=by
 obtain⟨w1,w2,w3⟩:=XD hz hi<|E1 h.good hz
 exact h.zL (.pt z i) (.po z i) (.pn z i) f fk lk (AI ⟨hz,hi⟩) w1 w2 w3 (fun u h1 h2 h3=>(PQ (A:=A) (g:=g) (v:=v) (m:=m) (i:=i) (o:=n) (n:=n) (k:=(m.zone z).mark i) (a:=l) (b:=k) hz) u h1 h2 h3) (by intro z;cases z) (by intro z;cases z) (by intro z;cases z) (h.good.Ce (i:=i) (a:=l) (b:=k) hz hn hn<|KO h.good hz hi)
def YX(touch:Bool)(hk:k<2)(w:Ht.Pos):m.shift touch k p w=Ce m k p ((m.zone k).was p) (Ht.plus ((m.zone k).at_ p) w) (if touch=true then m.touched ((m.zone k).mark p)else(m.zone k).mark p):=by
 unfold Ht.M.shift Ce Ht.Zone.was Ht.Zone.mark
 rw[Hi]
 cases touch
 ·simp only[Wk,FH]
  rw[Hi]
 ·rfl
def wM(q:Ht.Pos):m.put k p q=Ce m k p q q ((m.zone k).mark p):=by
 unfold Ht.M.put Ce Ht.Zone.mark
 rw[Hi]
def WD(f:Nat->Nat):m.mark k p f=Ce m k p ((m.zone k).was p) ((m.zone k).at_ p) (f<|(m.zone k).mark p):=by
 unfold Ht.M.mark Ce Ht.Zone.mark Ht.Zone.was Ht.Zone.at_
 rw[Hi,Hi]
end
section
variable{K:AS}{A:B4}{W W' W0:Hp}{g:B2}{v v':Var}{m m':Ht.M}{H H':Hp}{Q:VK}{E:XK}{st:Nat}{inf:Bool}{n:Nat}
noncomputable def Ex(E:XK)(H:Hp)(n:Nat):Prop:= ∀ d,H d=none->E (.int (AD n) 0) none (upd H d<|.xd<|gW<|AD n)
noncomputable def Fl(K:AS)(A:B4)(W:Hp)(g:B2)(st:Nat)(inf:Bool)(E:XK)(n:Nat):Prop:= ∀ W' v' m' H',Bc W W'->R K A W' g v' m' H'->m'.steps=st->m'.inFont=inf->E (.int (AD n) 0) none H'
def same_refl:Bc W W:=fun _ _ e=>e
def Fl.mono(f:Fl K A W g st inf E n)(s:Bc W W'):Fl K A W' g st inf E n:=fun W' v' m' H' s' h e1 e2=>f W' v' m' H' (fun b o e=>s' b o<|s b o e) h e1 e2
def Fl.ex(f:Fl K A W g m.steps m.inFont E n)(h:R K A W g v m H):Ex E H n:=fun _ hd=>f W v m _ same_refl (h.new hd) rfl rfl
noncomputable def Out(K:AS)(A:B4)(W:Hp)(g:B2)(st:Nat)(inf:Bool)(r:Ht.R Ht.M)(Q:VK)(E:XK):Prop:=match r with
 | .error n=>Fl K A W g st inf E n
 | .ok m'=> ∀ W' v' H',Bc W W'->R K A W' g v' m' H'->m'.steps=st->Q .non H'
inductive VC(K:AS)(A:B4)(bs:Nat->Prop)(f:B2->Ht.M->Ht.R Ht.M)(vs:List V)(H:Hp)(Q:VK)(E:XK):Prop
 | mk: ∀ W g v m,vs= [.ref g.run]->R K A W g v m H->bs g.byte->Out K A W g m.steps m.inFont (f g m) Q E->VC K A bs f vs H Q E
inductive bz(K:AS)(A:B4)(vs:List V)(H:Hp)(Q:VK)(E:XK):Prop
 | mk: ∀ W g v m,vs= [.ref g.run]->R K A W g v m H->((m.stack= []->Fl K A W g m.steps m.inFont E 1))->(∀ a s H',m.stack=a::s->FN a->R K A W g v (Bs m (s)) H'->Q (.int a) H')->bz K A vs H Q E
inductive LY(K:AS)(A:B4)(vs:List V)(H:Hp)(Q:VK)(E:XK):Prop
 | mk: ∀ W g v m,(∃ c,vs= [.ref g.run,.int (AD c)]/\R K A W g v m H/\(m.stack.length<c->Fl K A W g m.steps m.inFont E 1)/\ ∀ l H',c<=m.stack.length->W l=none->R K A (upd W l (.lst (iV (m.stack.take c)))) g v (Bs m (m.stack.drop c)) H'->Q (.ref l) H')->LY K A vs H Q E
inductive MB(K:AS)(A:B4)(vs:List V)(H:Hp)(Q:VK)(E:XK):Prop
 | mk: ∀ W g v m,vs= [.ref g.run]->R K A W g v m H->((m.stack.length<m.loop->Fl K A W g m.steps m.inFont E 1))->(∀ l H',m.loop<=m.stack.length->W l=none->R K A (upd W l (.lst (iV (m.stack.take m.loop)))) g v {m with stack:=m.stack.drop m.loop,loop:=1} H'->Q (.ref l) H')->MB K A vs H Q E
inductive cS(K:AS)(A:B4)(vs:List V)(H:Hp)(Q:VK)(E:XK):Prop
 | mk: ∀ W g v m x,vs= [.ref g.run,.int x]->R K A W g v m H->((m.stack.length=128->Fl K A W g m.steps m.inFont E 2))->(∀ H',m.stack.length<128->R K A W g v (Bs m (Ht.cut x::m.stack)) H'->Q .non H')->cS K A vs H Q E
inductive S8(K:AS)(A:B4)(vs:List V)(H:Hp)(Q:VK)(E:XK):Prop
 | mk: ∀ W g v m x,vs= [.ref g.run,.int x]->R K A W g v m H->Q (.int (m.round x)) H->S8 K A vs H Q E
inductive cQ(K:AS)(A:B4)(vs:List V)(H:Hp)(Q:VK)(E:XK):Prop
 | mk: ∀ W g v m,(∃ z,vs= [.ref g.run,.int (AD z)]/\R K A W g v m H/\z<2/\Q (.ref (g.zl z)) H)->cQ K A vs H Q E
inductive mT(K:AS)(A:B4)(vs:List V)(H:Hp)(Q:VK)(E:XK):Prop
 | mk: ∀ W g v m x,(∃ z,vs= [.ref g.run,.int (AD z),.int x]/\R K A W g v m H/\z<2/\((m.zone z).size<=Ht.unsigned x->Fl K A W g m.steps m.inFont E 3)/\(Ht.unsigned x<(m.zone z).size->Q (.ref (g.pp z (Ht.unsigned x))) H))->mT K A vs H Q E
noncomputable def zp(m:Ht.M)(p:Nat):Nat:=if p=0 then m.z0 else if p=1 then m.z1 else m.z2
noncomputable def rp(m:Ht.M)(p:Nat):Int:=if p=0 then m.r0 else if p=1 then m.r1 else m.r2
inductive Vu(K:AS)(A:B4)(vs:List V)(H:Hp)(Q:VK)(E:XK):Prop
 | mk: ∀ W g v m x,(∃ p,vs= [.ref g.run,.int (AD p),.int x]/\R K A W g v m H/\p<3/\((m.zone (zp m p)).size<=Ht.unsigned x->Fl K A W g m.steps m.inFont E 3)/\(Ht.unsigned x<(m.zone (zp m p)).size->Q (.ref (g.pp (zp m p) (Ht.unsigned x))) H))->Vu K A vs H Q E
inductive Vt(K:AS)(A:B4)(vs:List V)(H:Hp)(Q:VK)(E:XK):Prop
 | mk: ∀ W g v m,(∃ r p,vs= [.ref g.run,.int (AD r),.int (AD p)]/\R K A W g v m H/\r<3/\p<3/\((m.zone (zp m p)).size<=Ht.unsigned (rp m r)->Fl K A W g m.steps m.inFont E 3)/\(Ht.unsigned (rp m r)<(m.zone (zp m p)).size->Q (.ref (g.pp (zp m p) (Ht.unsigned (rp m r)))) H))->Vt K A vs H Q E
inductive SO(vs:List V)(H:Hp)(Q:VK)(E:XK):Prop
 | mk: ∀ x,(∃ c,vs= [.int x,.int (AD c)]/\(c<=Ht.unsigned x->Ex E H 3)/\(Ht.unsigned x<c->Q (.int (AD (Ht.unsigned x))) H))->SO vs H Q E
def Ci(h:Good K W g v m)(p:Nat):zp m p<2:=by
 unfold zp
 split
 ·exact h.z0
 ·split
  ·exact h.z1
  ·exact h.z2
def vX(h:R K A W g v m H)(e:m.stack= []->Fl K A W g m.steps m.inFont E 1)(k: ∀ a s H',m.stack=a::s->FN a->R K A W g v (Bs m<|s) H'->Q (.int a) H'):bz K A [.ref g.run] H Q E:=⟨W,g,v,m,rfl,h,e,k⟩
def jW(h:R K A W g v m H)(e:m.stack.length<c->Fl K A W g m.steps m.inFont E 1)(k: ∀ l H',c<=m.stack.length->W l=none->R K A (upd W l<|.lst<|iV<|m.stack.take c) g v (Bs m<|m.stack.drop c) H'->Q (.ref l) H'):LY K A [.ref g.run,.int<|AD c] H Q E:=⟨W,g,v,m,c,rfl,h,e,k⟩
def rP(h:R K A W g v m H)(e:m.stack.length<m.loop->Fl K A W g m.steps m.inFont E 1)(k: ∀ l H',m.loop<=m.stack.length->W l=none->R K A (upd W l<|.lst<|iV<|m.stack.take m.loop) g v {m with stack:=m.stack.drop m.loop,loop:=1} H'->Q (.ref l) H'):MB K A [.ref g.run] H Q E:=⟨W,g,v,m,rfl,h,e,k⟩
def vA(h:R K A W g v m H)(e:m.stack.length=128->Fl K A W g m.steps m.inFont E 2)(k: ∀ H',m.stack.length<128->R K A W g v (Bs m<|Ht.cut x::m.stack) H'->Q .non H'):cS K A [.ref g.run,.int x] H Q E:=⟨W,g,v,m,x,rfl,h,e,k⟩
def OX(h:R K A W g v m H)(k:Q (.int<|m.round x) H):S8 K A [.ref g.run,.int x] H Q E:=⟨W,g,v,m,x,rfl,h,k⟩
def jF(h:R K A W g v m H)(c:z<2)(k:Q (.ref<|g.zl z) H):cQ K A [.ref g.run,.int<|AD z] H Q E:=⟨W,g,v,m,z,rfl,h,c,k⟩
def qB(h:R K A W g v m H)(c:z<2)(e:(m.zone z).size<=Ht.unsigned x->Fl K A W g m.steps m.inFont E 3)(k:Ht.unsigned x<(m.zone z).size->Q (.ref<|g.pp z<|Ht.unsigned x) H):mT K A [.ref g.run,.int<|AD z,.int x] H Q E:=⟨W,g,v,m,x,z,rfl,h,c,e,k⟩
def Zx(h:R K A W g v m H)(c:p<3)(e:(m.zone<|zp m p).size<=Ht.unsigned x->Fl K A W g m.steps m.inFont E 3)(k:Ht.unsigned x<(m.zone<|zp m p).size->Q (.ref<|g.pp (zp m p)<|Ht.unsigned x) H):Vu K A [.ref g.run,.int<|AD p,.int x] H Q E:=⟨W,g,v,m,x,p,rfl,h,c,e,k⟩
def rZ(h:R K A W g v m H)(c:r<3)(c':p<3)(e:(m.zone<|zp m p).size<=Ht.unsigned (rp m r)->Fl K A W g m.steps m.inFont E 3)(k:Ht.unsigned (rp m r)<(m.zone<|zp m p).size->Q (.ref<|g.pp (zp m p)<|Ht.unsigned<|rp m r) H):Vt K A [.ref g.run,.int<|AD r,.int<|AD p] H Q E:=⟨W,g,v,m,r,p,rfl,h,c,c',e,k⟩
def Yv(e:c<=Ht.unsigned x->Ex E H 3)(k:Ht.unsigned x<c->Q (.int<|AD<|Ht.unsigned x) H):SO [.int x,.int<|AD c] H Q E:=⟨x,c,rfl,e,k⟩
variable{F1:Ht.M->Int->Ht.R Ht.M}{F2:Ht.M->Int->Int->Ht.R Ht.M}{a b x y:Int}{s:List Int}
def ze(e:m.stack= []):Ht.one m F1= .error 1:=by unfold Ht.one Ht.M.take;rw[e];rfl
def vL(e:m.stack=a::s):Ht.one m F1=F1 (Bs m<|s) a:=by unfold Ht.one Ht.M.take;rw[e];rfl
def z5(e:m.stack= []):Ht.two m F2= .error 1:=by unfold Ht.two Ht.M.take;rw[e];rfl
def zD(e:m.stack= [b]):Ht.two m F2= .error 1:=by unfold Ht.two Ht.M.take;rw[e];rfl
def vF(e:m.stack=b::a::s):Ht.two m F2=F2 (Bs m<|s) a b:=by unfold Ht.two Ht.M.take;rw[e];rfl
def lV{f:α->Ht.R β}{r:Ht.R α}(e:r= .error n):Ht.on r f= .error n:=by subst e;rfl
def uu{f:α->Ht.R β}{r:Ht.R α}{a:α}(e:r= .ok a):Ht.on r f=f a:=by subst e;rfl
def Du(x:Int):FN (Ht.cut x):=by
 unfold FN Ht.cut
 lia
end
end GF
end
section
namespace GF
open PySem PySem.Spec PyProof.Rows L2
section
noncomputable def tk(m:Ht.M)(F:Ht.M->Int->Ht.R Ht.M):Ht.R Ht.M:=match m.stack with
 | []=> .error 1
 | a::s=>F (Bs m<|s) a
noncomputable def gv(m:Ht.M)(x:Int)(F:Ht.M->Ht.R Ht.M):Ht.R Ht.M:=if 128<=m.stack.length then .error 2 else F (Bs m<|Ht.cut x::m.stack)
noncomputable def t_(m:Ht.M)(c:Nat)(F:Ht.M->List Int->Ht.R Ht.M):Ht.R Ht.M:=if m.stack.length<c then .error 1 else F (Bs m<|m.stack.drop c) (m.stack.take c)
noncomputable def uE(m:Ht.M)(F:Ht.M->List Int->Ht.R Ht.M):Ht.R Ht.M:=if m.stack.length<m.loop then .error 1 else F {m with stack:=m.stack.drop m.loop,loop:=1} (m.stack.take m.loop)
noncomputable def wi(x:Int)(c:Nat)(F:Nat->Ht.R Ht.M):Ht.R Ht.M:=if Ht.unsigned x<c then F (Ht.unsigned x)else .error 3
noncomputable def Dp(B:Int->Ht.M->(Ht.M->Ht.R Ht.M)->Ht.R Ht.M):List Int->Ht.M->(Ht.M->Ht.R Ht.M)->Ht.R Ht.M
 | [],m,F=>F m
 | x::l,m,F=>B x m fun m=>Dp B l m F
structure Fx where
 W0:Hp
 g:B2
 st:Nat
 inf:Bool
 Q:VK
structure BX(K:AS)(A:B4)(E:XK)(z:Fx)(W:Hp)(v:Var)(m:Ht.M)(H:Hp)(r:Ht.R Ht.M):Prop where
 h:R K A W z.g v m H
 s:Bc z.W0 W
 hs:m.steps=z.st
 hi:m.inFont=z.inf
 q:Out K A z.W0 z.g z.st z.inf r z.Q E
variable{K:AS}{A:B4}{W W' W0:Hp}{g:B2}{v v':Var}{m m':Ht.M}{H H':Hp}{Q:VK}{E:XK}{z:Fx}{n:Nat}{r r':Ht.R Ht.M}
def BX.rn(c:BX K A E z W v m H r):H z.g.run=some (.ins (A.cl 1) z.g.Q9<|DU z.g v m):=c.h.run
def BX.done(c:BX K A E z W v m H (.ok m)):z.Q .non H:=c.q W v H c.s c.h c.hs
def BX.fl(c:BX K A E z W v m H (.error n)):Fl K A W z.g m.steps m.inFont E n:=by
 rw[c.hs,c.hi]
 exact c.q.mono c.s
def BX.raise(c:BX K A E z W v m H (.error n)):Ex E H n:=c.fl.ex c.h
def BX.to(c:BX K A E z W v m H r)(e:r=r'):BX K A E z W v m H r':=e▸c
def BX.go(c:BX K A E z W v m H r)(s:Bc W W')(h:R K A W' z.g v' m' H')(hs:m'.steps=m.steps:=by rfl)(hi:m'.inFont=m.inFont:=by rfl):BX K A E z W' v' m' H' r:=
 ⟨h,fun b o e=>s b o<|c.s b o e,hs.trans c.hs,hi.trans c.hi,c.q⟩
def BX.new(c:BX K A E z W v m H r)(f:H l=none):BX K A E z W v m (upd H l o) r:=⟨c.h.new f,c.s,c.hs,c.hi,c.q⟩
def BX.M_(c:BX K A E z W v m H r)(f:H l=none):BX K A E z (upd W l o) v m (upd H l o) r:=c.go (Bd<|c.h.free f) (c.h.M_ f)
section
variable{p:Prop} [Decidable p]{r1 r2:Ht.R Ht.M}{X Y:Prop}
def BX.ifT(c:BX K A E z W v m H (if p then r1 else r2))(e:p):BX K A E z W v m H r1:=c.to (AI e)
def BX.ifF(c:BX K A E z W v m H (if p then r1 else r2))(e: ¬ p):BX K A E z W v m H r2:=c.to (AG e)
def ER(c:BX K A E z W v m H (if p then r1 else r2))(k1:p->BX K A E z W v m H r1->X)(k2: ¬ p->BX K A E z W v m H r2->Y):if decide p=true then X else Y:=by
 by_cases e:p
 ·rw[AI<|Av e];exact k1 e<|c.ifT e
 ·rw[AG<|by simp[e]];exact k2 e<|c.ifF e
def Ho(c:BX K A E z W v m H (if x=y then r1 else r2))(k1:x=y->BX K A E z W v m H r1->X)(k2: ¬ x=y->BX K A E z W v m H r2->Y):if decide (V.int x=V.int y)=true then X else Y:=by
 by_cases e:x=y
 ·rw[AI<|Av<|BO V.int e];exact k1 e<|c.ifT e
 ·rw[AG<|by simp[e]];exact k2 e<|c.ifF e
def UW(c:BX K A E z W v m H (if x=y then r1 else r2))(k1:x=y->BX K A E z W v m H r1->Y)(k2: ¬ x=y->BX K A E z W v m H r2->X):if(!decide (V.int x=V.int y))=true then X else Y:=by
 by_cases e:x=y
 ·rw[AG<|by simp[e]];exact k1 e<|c.ifT e
 ·rw[AI<|by simp[e]];exact k2 e<|c.ifF e
def AAx(c:BX K A E z W v m H (if x=y then r1 else r2))(k1:x=y->BX K A E z W v m H r1->X)(k2: ¬ x=y->BX K A E z W v m H r2->Y):if decide (V.bl x=V.bl y)=true then X else Y:=by
 by_cases e:x=y
 ·rw[AI<|Av<|BO V.bl e];exact k1 e<|c.ifT e
 ·rw[AG<|by simp[e]];exact k2 e<|c.ifF e
def AAd(c:BX K A E z W v m H (if x=y then r1 else r2))(k1:x=y->BX K A E z W v m H r1->Y)(k2: ¬ x=y->BX K A E z W v m H r2->X):if(!decide (V.bl x=V.bl y))=true then X else Y:=by
 by_cases e:x=y
 ·rw[AG<|by simp[e]];exact k1 e<|c.ifT e
 ·rw[AI<|by simp[e]];exact k2 e<|c.ifF e
end
def Am(c:BX K A E z W v m H (tk m F))(k: ∀ a s H',FN a->BX K A E z W v (Bs m<|s) H' (F (Bs m<|s) a)->Q (.int a) H'):bz K A [.ref z.g.run] H Q E:=by
 refine vX c.h (fun e=>(c.to (show tk m F= .error 1 by unfold tk;rw[e])).fl) fun a s H' e i h=>?_
 ·exact k a s H' i<|(c.to<|by unfold tk;rw[e]).go same_refl h
def Bp(c:BX K A E z W v m H (gv m x F))(k: ∀ H',m.stack.length<128->BX K A E z W v (Bs m<|Ht.cut x::m.stack) H' (F<|Bs m<|Ht.cut x::m.stack)->Q .non H'):cS K A [.ref z.g.run,.int x] H Q E:=by
 exact vA c.h (fun e=>(c.to<|AI<|by lia).fl) fun H' e h=>k H' e<|(c.to<|AG<|by lia).go same_refl h
def wq(c:BX K A E z W v m H (t_ m n F))(k: ∀ l H',n<=m.stack.length->W l=none->BX K A E z (upd W l<|.lst<|iV<|m.stack.take n) v (Bs m<|m.stack.drop n) H' (F (Bs m<|m.stack.drop n)<|m.stack.take n)->Q (.ref l) H'):LY K A [.ref z.g.run,.int<|AD n] H Q E:=by
 exact jW c.h (fun e=>(c.to<|AI e).fl) fun l H' e f h=>k l H' e f<|(c.to<|AG<|by lia).go (Bd f) h
def Rr(c:BX K A E z W v m H (uE m F))(k: ∀ l H',m.loop<=m.stack.length->W l=none->BX K A E z (upd W l<|.lst<|iV<|m.stack.take m.loop) v {m with stack:=m.stack.drop m.loop,loop:=1} H' (F {m with stack:=m.stack.drop m.loop,loop:=1}<|m.stack.take m.loop)->Q (.ref l) H'):MB K A [.ref z.g.run] H Q E:=by
 exact rP c.h (fun e=>(c.to<|AI e).fl) fun l H' e f h=>k l H' e f<|(c.to<|AG<|by lia).go (Bd f) h
def EW(e:Ht.unsigned x<n):wi x n F=F (Ht.unsigned x):=AI e
def Fp(e:n<=Ht.unsigned x):wi x n F= .error 3:=AG (by lia)
def DV(c:BX K A E z W v m H (wi x n F))(k:Ht.unsigned x<n->BX K A E z W v m H (F<|Ht.unsigned x)->Q (.int<|AD<|Ht.unsigned x) H):SO [.int x,.int<|AD n] H Q E:=
 Yv (fun e=>(c.to<|Fp e).raise) (fun e=>k e<|c.to<|EW e)
def ADp(c:BX K A E z W v m H (wi x (m.zone y).size F))(hy:y<2)(k:Ht.unsigned x<(m.zone y).size->BX K A E z W v m H (F<|Ht.unsigned x)->Q (.ref<|z.g.pp y<|Ht.unsigned x) H):mT K A [.ref z.g.run,.int<|AD y,.int x] H Q E:=
 qB c.h hy (fun e=>(c.to<|Fp e).fl) (fun e=>k e<|c.to<|EW e)
def B9(c:BX K A E z W v m H (wi x (m.zone<|zp m p).size F))(hp:p<3)(k:Ht.unsigned x<(m.zone<|zp m p).size->BX K A E z W v m H (F<|Ht.unsigned x)->Q (.ref<|z.g.pp (zp m p)<|Ht.unsigned x) H):Vu K A [.ref z.g.run,.int<|AD p,.int x] H Q E:=
 Zx c.h hp (fun e=>(c.to<|Fp e).fl) (fun e=>k e<|c.to<|EW e)
def HJ(c:BX K A E z W v m H (wi (rp m n) (m.zone<|zp m p).size F))(hn:n<3)(hp:p<3)(k:Ht.unsigned (rp m n)<(m.zone<|zp m p).size->BX K A E z W v m H (F<|Ht.unsigned<|rp m n)->Q (.ref<|z.g.pp (zp m p)<|Ht.unsigned<|rp m n) H):Vt K A [.ref z.g.run,.int<|AD n,.int<|AD p] H Q E:=
 rZ c.h hn hp (fun e=>(c.to<|Fp e).fl) (fun e=>k e<|c.to<|EW e)
def Jt(c:BX K A E z W v m H r)(k:Q (.int<|m.round x) H):S8 K A [.ref z.g.run,.int x] H Q E':=OX c.h k
def AB9(c:BX K A E z W v m H r)(hy:y<2)(k:Q (.ref<|z.g.zl y) H):cQ K A [.ref z.g.run,.int<|AD y] H Q E':=jF c.h hy k
def zd{f:B2->Ht.M->Ht.R Ht.M}(h:R K A W g v m H)(q:Out K A W g m.steps m.inFont (f g m) Q E):BX K A E ⟨W,g,m.steps,m.inFont,Q⟩ W v m H (f g m):=⟨h,same_refl,rfl,rfl,q⟩
theorem _root_.L2.Fun.act{st:Bi}(F:Fun K x qual st f fd)(N:List Str)
  (hbody: ∀{cdv:AN} {Ar:De} {outer:List Env} {s:Az} (H:Hp) (Q:VK) (E:XK) (W:Hp) (g:B2) (v:Var) (m:Ht.M),EE k (Ar.deeper<|GK qual (BZ st) s.heap.objs.size f cdv)->bs g.byte->BX K A E ⟨W,g,m.steps,m.inFont,Q⟩ W v m H (fx g m)->
   ∃ t,dX (NC (Xg P w<|A.cl 0) P w K mg base N qual (BZ st) f cdv Ar outer s H E) (EO st) t/\t {nx:=fun _ H'=>Q .non H',rt:=Q} (start N [.ref g.run]) H)
  (S:zh N ["run"] (BZ st)=true:=by kernel_rfl):ES P w K mg base (Xg P w<|A.cl 0) (k+1) f fd ["run"] (VC K A bs fx):=F.V6 N (fun H vs Q E hr h=>by
 obtain⟨W,g,v,m,rfl,h,hb,q⟩:=h
 exact hbody H Q E W g v m hr hb<|zd h q) (by intro _ _ _ _ h;cases h;subst_vars;rfl) S
noncomputable abbrev OA(P:BH)(w:Ap){K:AS}{mg:Str->Option AN}(base:Ay){A:B4} [T:Txt K mg A](k n:Nat)(f:B2->Ht.M->Ht.R Ht.M)(bs:Nat->Prop:=fun _=>True):Prop:=ES P w K mg base (Xg P w<|A.cl 0) k (A.ad n) (A.fd n) ["run"] (VC K A bs f)
theorem _root_.L2.Fun.ko{st:Bi}(F:Fun K x qual st f fd)(N:List Str)
  (hbody: ∀{cdv:AN} {Ar:De} {outer:List Env} {s:Az} (H:Hp) (Q:VK) (E:XK) (W:Hp) (g:B2) (v:Var) (m:Ht.M),EE k (Ar.deeper<|GK qual (BZ st) s.heap.objs.size f cdv)->bs g.byte->BX K A E ⟨W,g,m.steps,m.inFont,Q⟩ W v m H (fx g m)->
   ∃ t,dX (NC cV P w K mg base N qual (BZ st) f cdv Ar outer s H E).nox (EO st) t/\t {nx:=fun _ H'=>Q .non H',rt:=Q} (start N [.ref g.run]) H)
  (S:zh N ["run"] (BZ st)=true:=by kernel_rfl):ES P w K mg base cV (k+1) f fd ["run"] (VC K A bs fx):=F.DL N (fun H vs Q E hr h=>by
 obtain⟨W,g,v,m,rfl,h,hb,q⟩:=h
 exact hbody H Q E W g v m hr hb<|zd h q) (by intro _ _ _ _ h;cases h;subst_vars;rfl) S
noncomputable abbrev OB(P:BH)(w:Ap){K:AS}{mg:Str->Option AN}(base:Ay){A:B4} [T:Txt K mg A](k n:Nat)(f:B2->Ht.M->Ht.R Ht.M)(bs:Nat->Prop:=fun _=>True):Prop:=ES P w K mg base cV k (A.ad n) (A.fd n) ["run"] (VC K A bs f)
end
end GF
end
section
namespace GF
open PySem L2
section
variable{m:Ht.M}{x y u:Int}{k:Nat}
theorem kU:Ht.one m F=tk m F:=by
 unfold tk
 cases e:m.stack with
 | nil=>exact ze e
 | cons a s=>exact vL e
theorem ABa:Ht.two m F=tk m fun m b=>tk m fun m a=>F m a b:=by
 unfold tk
 cases e:m.stack with
 | nil=>exact z5 e
 | cons b s=>
  cases s with
  | nil=>exact zD e
  | cons a s=>exact vF e
def Of:m.give (x::l)=gv m x fun m=>m.give l:=by
 unfold gv
 by_cases e:128<=m.stack.length
 ·rw[AI e]
  unfold Ht.M.give
  rw[AI<|by show 128<m.stack.length+(l.length+1);lia]
  rfl
 ·rw[AG e]
  by_cases e2:128<m.stack.length+(l.length+1)
  ·have a1:m.give (x::l)= .error Ht.FULL:=AI (show Ht.MOST<m.stack.length+(x::l).length from e2)
   have a2:Ht.M.give (Bs m<|Ht.cut x::m.stack) l= .error Ht.FULL:=AI<|show 128<(m.stack.length+1)+l.length by lia
   exact a1.trans a2.symm
  ·have a1:m.give (x::l)= .ok {m with stack:=((x::l).map Ht.cut).reverse++m.stack}:=AG (show ¬ Ht.MOST<m.stack.length+(x::l).length from e2)
   have a2:Ht.M.give (Bs m<|Ht.cut x::m.stack) l= .ok (Bs m<|(l.map Ht.cut).reverse++(Ht.cut x::m.stack)):=AG<|show ¬ 128<(m.stack.length+1)+l.length by lia
   refine a1.trans<|WM ?_ a2.symm
   simp
def uH:gv m x (fun m=>m.give [])=gv m x .ok:=by
 unfold gv
 by_cases e:128<=m.stack.length
 ·rw[AI e,AI e]
 ·rw[AG e,AG e]
  exact(AG<|show ¬ 128<(m.stack.length+1)+0 by lia)
def Js:m.give [x]=gv m x .ok:=by rw[Of,uH]
def JA:m.give [x,y]=gv m x fun m=>gv m y .ok:=by rw[Of];simp only[Js]
def XM:m.give [x,y,u]=gv m x fun m=>gv m y fun m=>gv m u .ok:=by rw[Of];simp only[JA]
def EZ:Ht.on (Ht.below x n) F=wi x n F:=by
 unfold Ht.below wi
 by_cases e:Ht.unsigned x<n
 ·rw[AI e,AI e];rfl
 ·rw[AG e,AG e];rfl
def Cf:Ht.on (m.point k x) F=wi x (m.zone k).size F:=EZ
def Sh:Ht.on m.ref0 F=wi (rp m 0) (m.zone<|zp m 0).size F:=EZ
def Wa:Ht.on m.ref1 F=wi (rp m 1) (m.zone<|zp m 0).size F:=EZ
def WY:Ht.on m.ref2 F=wi (rp m 2) (m.zone<|zp m 1).size F:=EZ
def Su:Ht.on (m.take n) F=t_ m n fun m l=>F (l,m):=by
 unfold Ht.M.take t_
 by_cases e:m.stack.length<n
 ·rw[AI e,AI e];rfl
 ·rw[AG e,AG e];rfl
theorem pB(h: ∀ x m F,C x m F=Ht.on (B x m) F): ∀ l m F,Dp C l m F=Ht.on (Ht.eachOne B l m) F
 | [],m,F=>rfl
 | x::l,m,F=>by
  show C x m (fun m=>Dp C l m F)=Ht.on (Ht.on (B x m) fun y=>Ht.eachOne B l y) F
  rw[h]
  cases B x m with
  | error e=>rfl
  | ok a=>exact pB h l a F
def xV{r:Ht.R Ht.M}:Ht.on r .ok=r:=by cases r<;>rfl
def mn(h: ∀ x m F,C x m F=Ht.on (B x m) F)(l:List Int)(m:Ht.M):Dp C l m .ok=Ht.eachOne B l m:=(pB h l m .ok).trans xV
def jM:Ht.on (wi x n F) G=wi x n fun i=>Ht.on (F i) G:=by
 unfold wi
 by_cases e:Ht.unsigned x<n
 ·rw[AI e,AI e]
 ·rw[AG e,AG e];rfl
def Rn:Ht.loopPoints m 0 f=uE m fun m l=>Ht.on (f [] m) fun g=>Ht.eachOne g l m:=by
 unfold Ht.loopPoints uE Ht.M.take
 by_cases e:m.stack.length<m.loop
 ·rw[AI<|by lia,AI e];rfl
 ·rw[AG<|by lia,AG e]
  simp only[L0,List.take_zero,G0]
  rfl
end
section
variable{K:AS}{A:B4}{W W' W0:Hp}{g:B2}{v v':Var}{m m':Ht.M}{H H':Hp}{Q:VK}{E:XK}{z:Fx}{n:Nat}{r r':Ht.R Ht.M}
theorem jK(a ss:Nat): ∀(l:List Nat) n,l.foldl (fun n i=>let k:=n+2^(14-i);if(2*k-1)*(2*k-1)*ss<=32768*a*(32768*a)then k else n) n<=n+(l.map fun i=>2^(14-i)).sum
 | [],n=>by simp
 | i::l,n=>by
  rw[Wj,Fs,List.sum_cons]
  refine CC (jK a ss l _) ?_
  dsimp only
  generalize 2^(14-i)=t
  split<;>lia
def rB(a ss:Nat):Ht.part a ss<=32767:=by
 refine CC (jK a ss (BM 15) 0) ?_
 decide
def vf(t:Nat)(c:Int)(h:t<=32767):(if c<0 then-(AD t)else AD t).natAbs<=32768:=by
 split
 ·rw[mK];exact CC h<|by decide
 ·exact CC h<|by decide
def cD(v:Ht.Pos):Sm (Ht.unit v):=by
 unfold Ht.unit Sm
 split
 ·decide
 ·exact⟨vf _ _<|rB _ _,vf _ _<|rB _ _⟩
def uM:Sm Ht.X:=by unfold Sm;decide
def wY:Sm Ht.Y:=by unfold Sm;decide
def AA3{X Y:Prop}(c:BX K A E z W v m H (if b=true then r1 else r2))(k1:b=true->BX K A E z W v m H r1->X)(k2: ¬ b=true->BX K A E z W v m H r2->Y):if b=true then X else Y:=by
 by_cases e:b=true
 ·rw[AI e];exact k1 e<|c.ifT e
 ·rw[AG e];exact k2 e<|c.ifF e
inductive gF(K:AS)(A:B4)(vs:List V)(H:Hp)(Q':VK)(E:XK):Prop
 | mk: ∀ z W v m b F,vs= [.ref z.g.run,.bl b]->BX K A E z W v m H (gv m (bI b) F)->(∀ H',m.stack.length<128->BX K A E z W v (Bs m (Ht.cut (bI b)::m.stack)) H' (F (Bs m (Ht.cut (bI b)::m.stack)))->Q' .non H')->gF K A vs H Q' E
noncomputable def fL(K:AS)(A:B4):Sp:=gF K A
def Mb(c:BX K A E z W v m H (gv m (bI b) F))(k: ∀ H',m.stack.length<128->BX K A E z W v (Bs m<|Ht.cut (bI b)::m.stack) H' (F<|Bs m<|Ht.cut (bI b)::m.stack)->Q .non H'):fL K A [.ref z.g.run,.bl b] H Q E:=⟨z,W,v,m,b,F,rfl,c,k⟩
noncomputable def depth(m:Ht.M)(F:Ht.M->Int->Ht.R Ht.M):Ht.R Ht.M:=tk m fun m a=>if a<1 then .error 3 else if AD (iV m.stack.reverse).length<a then .error 3 else F m a
inductive gP(K:AS)(A:B4)(vs:List V)(H:Hp)(Q':VK)(E:XK):Prop
 | mk: ∀ z W v m F,vs= [.ref z.g.run]->BX K A E z W v m H (depth m F)->(∀ a s H',(1<=a/\a<=AD (iV s.reverse).length)->BX K A E z W v (Bs m (s)) H' (F (Bs m (s)) a)->Q' (.int (AD (iV s.reverse).length-a)) H')->gP K A vs H Q' E
noncomputable def ba(K:AS)(A:B4):Sp:=gP K A
def oo(c:BX K A E z W v m H (depth m F))(k: ∀ a s H',(1<=a/\a<=AD (iV s.reverse).length)->BX K A E z W v (Bs m<|s) H' (F (Bs m<|s) a)->Q (.int<|AD (iV s.reverse).length-a) H'):ba K A [.ref z.g.run] H Q E:=⟨z,W,v,m,F,rfl,c,k⟩
inductive mF(K:AS)(A:B4)(vs:List V)(H:Hp)(Q':VK)(E:XK):Prop
 | mk: ∀ z W v m r E' a x,vs= [.ref z.g.run,.ref a]->BX K A E' z W v m H r->Dh K W a (pV x)->Sm x->(∀ H',BX K A E' z W {v with tP:=a,tQ:=a} {m with P:=x,Q:=x} H' r->Q' .non H')->mF K A vs H Q' E
noncomputable def lK(K:AS)(A:B4):Sp:=mF K A
def d9(c:BX K A E z W v m H r)(t:Dh K W a (pV x))(s:Sm x)(k: ∀ H',BX K A E z W {v with tP:=a,tQ:=a} {m with P:=x,Q:=x} H' r->Q .non H'):lK K A [.ref z.g.run,.ref a] H Q E':=⟨z,W,v,m,r,E,a,x,rfl,c,t,s,k⟩
def scl(h:Good K W g v m):(0<=AD m.dots/\AD m.dots<=1000)/\16<=AD m.units/\AD m.units<=16384:=by
 have h2:=h.units
 exact⟨⟨FG _,(Bf.mpr h.dots)⟩,(Bf.mpr h2.1),(Bf.mpr h2.2)⟩
def eY:(iV l).set j (.int x)=iV (l.set j x):=by
 unfold iV
 rw[List.map_set]
noncomputable def Lg(b x y:Int):Bool:=if b=80 then decide (x<y)else if b=81 then decide (x<=y)else if b=82 then decide (y<x)else if b=83 then decide (y<=x)else if b=84 then decide (V.int x=V.int y)else !decide (V.int x=V.int y)
def Jy:decide (V.int x=V.int y)=decide (x=y):=by
 by_cases e:x=y
 ·subst e;simp
 ·simp[e]
def AA1:decide (V.bl x=V.bl y)=decide (x=y):=by
 by_cases e:x=y
 ·subst e;simp
 ·simp[e]
def tX{s:List Int}(h1:1<=n)(h2:n<=s.length):s.reverse.eraseIdx (s.length-n)=(s.eraseIdx<|n-1).reverse:=by
 rw[Wq,Wq,List.reverse_append,List.take_reverse,List.drop_reverse]
 congr 2
 ·congr 1;lia
 ·congr 1;lia
def sx:(iV s).eraseIdx n=iV (s.eraseIdx n):=by
 unfold iV
 rw[Wq,Wq,FF,qA,oE]
def mem_erase{s:List Int}(h:x∈s.eraseIdx n):x∈s:=List.mem_of_mem_eraseIdx h
def wy(h:k ∣ 4294967296)(hk:0<k):a%AD k=AD (Ht.unsigned a%k):=by
 unfold Ht.unsigned
 have h0:0<=a%4294967296:=fK _<|by decide
 obtain⟨n,hn⟩:=O6 h0
 rw[hn]
 show a%(k:Int)=((n%k:Nat):Int)
 obtain⟨c,hc⟩:=h
 have e:a%(k:Int)=(a%4294967296)%(k:Int):=by
  rw[Int.emod_emod_of_dvd]
  exact⟨(c:Int),by have:=BO (fun x:Nat=>(x:Int)) hc;simpa using this⟩
 rw[e,hn]
 exact(Int.natCast_emod n k).symm
def ACa(h:0<=a): ∃ n,a=AD n:=O6 h
def WO(x:Int):(Ht.half x).natAbs<2^40:=by
 unfold Ht.half
 have:(2:Nat)^40=1099511627776:=by decide
 rw[this]
 lia
end
section
variable{K:AS}{A:B4}{W W' W0:Hp}{g:B2}{v v':Var}{m m':Ht.M}{H H':Hp}{Q:VK}{E E':XK}{z:Fx}{n:Nat}{r r':Ht.R Ht.M}{y i y' i' k p:Nat}{d:Int}{w:Ht.Pos}{t:Bool}
def Fg{o n:Ht.Pos}:(Ce m k p o n q).steps=m.steps:=by unfold Ce Ht.M.setZone;split<;>rfl
def EY{o n:Ht.Pos}:(Ce m k p o n q).inFont=m.inFont:=by unfold Ce Ht.M.setZone;split<;>rfl
def aQ:(m.setZone k q).steps=m.steps:=by unfold Ht.M.setZone;split<;>rfl
def YI:(m.setZone k q).inFont=m.inFont:=by unfold Ht.M.setZone;split<;>rfl
def Qi(hk:k<2)(hy:y<2):((m.shift t k p w).zone y).size=(m.zone y).size:=by rw[YX t hk];exact Fj hk hy
def bD(hk:k<2)(hy:y<2):((m.move k p d).zone y).size=(m.zone y).size:=Qi hk hy
def Yg(hk:k<2)(hy:y<2):((m.put k p w).zone y).size=(m.zone y).size:=by rw[wM];exact Fj hk hy
def bO(hk:k<2)(hy:y<2):((m.mark k p f).zone y).size=(m.zone y).size:=by rw[WD];exact Fj hk hy
noncomputable def OO(m:Ht.M):Int:=if m.F.1=0 then(if m.F.2=0 then 0 else 4)else(if m.F.2=0 then 2 else 6)
inductive js(K:AS)(A:B4)(vs:List V)(H:Hp)(Q:VK)(E:XK):Prop
 | mk: ∀ W g v m y i,vs= [.ref g.run,.ref (g.pp y i)]->R K A W g v m H->y<2->i<(m.zone y).size->Q (.int (m.now1 y i)) H->js K A vs H Q E
inductive k6(K:AS)(A:B4)(vs:List V)(H:Hp)(Q:VK)(E:XK):Prop
 | mk: ∀ W g v m y i,vs= [.ref g.run,.ref (g.pp y i)]->R K A W g v m H->y<2->i<(m.zone y).size->Q (.int (m.old1 y i)) H->k6 K A vs H Q E
inductive kC(K:AS)(A:B4)(vs:List V)(H:Hp)(Q:VK)(E:XK):Prop
 | mk: ∀ W g v m y i y' i',vs= [.ref g.run,.ref (g.pp y i),.ref (g.pp y' i')]->R K A W g v m H->(y<2/\i<(m.zone y).size)->(y'<2/\i'<(m.zone y').size)->(∀ H',R K A W g v m H'->Q (.int (m.now2 y i y' i')) H')->kC K A vs H Q E
inductive lU(K:AS)(A:B4)(vs:List V)(H:Hp)(Q:VK)(E:XK):Prop
 | mk: ∀ W g v m y i y' i',vs= [.ref g.run,.ref (g.pp y i),.ref (g.pp y' i')]->R K A W g v m H->(y<2/\i<(m.zone y).size)->(y'<2/\i'<(m.zone y').size)->(∀ H',R K A W g v m H'->Q (.int (m.old2 y i y' i')) H')->lU K A vs H Q E
inductive WW(K:AS)(A:B4)(vs:List V)(H:Hp)(Q:VK)(E:XK):Prop
 | mk: ∀ W g v m d,vs= [.ref g.run,.int d]->R K A W g v m H->(∀ a H',W a=none->R K A (upd W a (.tup (pV (m.way_ d)))) g v m H'->Q (.ref a) H')->WW K A vs H Q E
inductive fJ(K:AS)(A:B4)(vs:List V)(H:Hp)(Q:VK)(E:XK):Prop
 | mk: ∀ W g v m,vs= [.ref g.run]->R K A W g v m H->Q (.int (OO m)) H->fJ K A vs H Q E
inductive i6(K:AS)(A:B4)(vs:List V)(H:Hp)(Q:VK)(E:XK):Prop
 | mk: ∀ W g v m y i a w,vs= [.ref g.run,.ref (g.pp y i),.ref a]->R K A W g v m H->(y<2/\i<(m.zone y).size)->Dh K W a (pV w)->(∀ v' H',R K A W g v' (m.shift true y i w) H'->Q .non H')->i6 K A vs H Q E
inductive c9(K:AS)(A:B4)(vs:List V)(H:Hp)(Q:VK)(E:XK):Prop
 | mk: ∀ W g v m y i d,vs= [.ref g.run,.ref (g.pp y i),.int d]->R K A W g v m H->(y<2/\i<(m.zone y).size)->(∀ W' v' H',Bc W W'->R K A W' g v' (m.move y i d) H'->Q .non H')->c9 K A vs H Q E
def X6(c:BX K A E z W v m H r)(hy:y<2)(hi:i<(m.zone y).size)(k:Q (.int<|m.now1 y i) H):js K A [.ref z.g.run,.ref<|z.g.pp y i] H Q E':=⟨W,z.g,v,m,y,i,rfl,c.h,hy,hi,k⟩
def AC4(c:BX K A E z W v m H r)(hy:y<2)(hi:i<(m.zone y).size)(k:Q (.int<|m.old1 y i) H):k6 K A [.ref z.g.run,.ref<|z.g.pp y i] H Q E':=⟨W,z.g,v,m,y,i,rfl,c.h,hy,hi,k⟩
def MA(c:BX K A E z W v m H r)(hy:y<2)(hi:i<(m.zone y).size)(hy':y'<2)(hi':i'<(m.zone y').size)(k: ∀ H',BX K A E z W v m H' r->Q (.int<|m.now2 y i y' i') H'):kC K A [.ref z.g.run,.ref<|z.g.pp y i,.ref<|z.g.pp y' i'] H Q E':=
 ⟨W,z.g,v,m,y,i,y',i',rfl,c.h,⟨hy,hi⟩,⟨hy',hi'⟩,fun H' h=>k H'<|c.go same_refl h⟩
def Uh(c:BX K A E z W v m H r)(hy:y<2)(hi:i<(m.zone y).size)(hy':y'<2)(hi':i'<(m.zone y').size)(k: ∀ H',BX K A E z W v m H' r->Q (.int<|m.old2 y i y' i') H'):lU K A [.ref z.g.run,.ref<|z.g.pp y i,.ref<|z.g.pp y' i'] H Q E':=
 ⟨W,z.g,v,m,y,i,y',i',rfl,c.h,⟨hy,hi⟩,⟨hy',hi'⟩,fun H' h=>k H'<|c.go same_refl h⟩
def wX(c:BX K A E z W v m H r)(k: ∀ a H',W a=none->BX K A E z (upd W a<|.tup<|pV<|m.way_ d) v m H' r->Q (.ref a) H'):WW K A [.ref z.g.run,.int d] H Q E':=
 ⟨W,z.g,v,m,d,rfl,c.h,fun a H' f h=>k a H' f<|c.go (Bd f) h⟩
def ACN(c:BX K A E z W v m H r)(k:Q (.int<|OO m) H):fJ K A [.ref z.g.run] H Q E':=⟨W,z.g,v,m,rfl,c.h,k⟩
def AER(c:BX K A E z W v m H r)(hy:y<2)(hi:i<(m.zone y).size)(t:Dh K W a (pV w))(k: ∀ v' H',BX K A E z W v' (m.shift true y i w) H' r->Q .non H'):i6 K A [.ref z.g.run,.ref<|z.g.pp y i,.ref a] H Q E':=
 ⟨W,z.g,v,m,y,i,a,w,rfl,c.h,⟨hy,hi⟩,t,fun v' H' h=>k v' H'<|c.go same_refl h aQ YI⟩
def ACw(c:BX K A E z W v m H r)(hy:y<2)(hi:i<(m.zone y).size)(k: ∀ W' v' H',Bc W W'->BX K A E z W' v' (m.move y i d) H' r->Q .non H'):c9 K A [.ref z.g.run,.ref<|z.g.pp y i,.int d] H Q E':=
 ⟨W,z.g,v,m,y,i,d,rfl,c.h,⟨hy,hi⟩,fun W' v' H' s h=>k W' v' H' s<|c.go s h aQ YI⟩
def j2(h:x<8):m.touched x<8:=by
 unfold Ht.M.touched Ht.give Ht.has Ht.INX Ht.INY
 have:=xg<|by assumption
 rcases this with rfl | rfl | rfl | rfl | rfl | rfl | rfl | rfl<;>by_cases a:m.F.1=0<;>by_cases b:m.F.2=0<;>simp[a,b]
def fy(h:x<8):m.untouched x<8:=by
 unfold Ht.M.untouched Ht.lose Ht.has Ht.INX Ht.INY
 have:=xg<|by assumption
 rcases this with rfl | rfl | rfl | rfl | rfl | rfl | rfl | rfl<;>by_cases a:m.F.1=0<;>by_cases b:m.F.2=0<;>simp[a,b]
end
end GF
end
section
namespace GF
open PySem PySem.Spec PyProof.Rows L2
variable{P:BH}{w:Ap}{K:AS}{mg:Str->Option AN}{base:Ay}{A:B4}[T:Txt K mg A]
def Al:(DU g v m).lookup ("take":Str)=none:=rfl
def OD:(DU g v m).lookup ("take_many":Str)=none:=rfl
def Hm:(DU g v m).lookup ("take_loop":Str)=none:=rfl
def B1:(DU g v m).lookup ("give":Str)=none:=rfl
def CB:(DU g v m).lookup ("round_number":Str)=none:=rfl
def xD:(DU g v m).lookup ("zone":Str)=none:=rfl
def Mx:(DU g v m).lookup ("point_of_zone":Str)=none:=rfl
def B5:(DU g v m).lookup ("point":Str)=none:=rfl
def DF:(DU g v m).lookup ("reference":Str)=none:=rfl
def Bq:(iV l).length=l.length:=A8 ..
def NX:iV (a::s).reverse=iV s.reverse++ [V.int a]:=by simp[iV]
def iK:(iV (a::s).reverse)[(iV (a::s).reverse).length-1]?=some (.int a):=by
 rw[NX]
 simp
def iu:(iV (a::s).reverse).dropLast=iV s.reverse:=by
 rw[NX]
 exact mS
def AM :OF P w base 3 18 ["self"] (bz K A):=by
 refine T.AZ.F.V6 ["self"] @fun _ _ _ s H vs Q E hr h=>?_
 obtain⟨W,g,v,m,rfl,h,he,k⟩:=h
 refine⟨_,(AB (Aq (A0 BD (Dc T.k.CD<|Af<|AR AH) AE) (AF<|CI T.c.fault BK (hr.mono<|by decide) outF rfl<|Af AE) AX)<|AF<|AY<|eU FK WB Vq kN<|AR AH),h.run,AL,E9,.inl<|BF.of h.C2,rfl,A7 (fun e=>?_) fun e=>?_⟩
 ·have e':m.stack= []:=by
   have q:=V.int.inj<|An e
   rw[Bq,Ek]at q
   exact List.eq_nil_of_length_eq_zero<|by lia
  exact⟨_,rfl,(he e').ex h⟩
 ·cases e':m.stack with
  | nil=>exact absurd (by rw[e'];rfl) e
  | cons a s=>
   have hs:=h.C2
   rw[e']at hs
   refine⟨h.run,AL,E9,.inl ⟨rfl,_,BF.of hs⟩,_,_,_,rfl,rfl,hs,iK,?_⟩
   rw[iu]
   have b:=h.good.st
   have i:=h.good.sti
   rw[e']at b i
   exact k a s _ e' (i a<|D0 ..)<|h.setStack (MW b) fun x hx=>i x<|C0 _ hx
def A1 :OF P w base 3 21 ["self","number"] (cS K A):=by
 refine T.BW.F.V6 ["self","number"] fun H vs Q E hr h=>?_
 obtain⟨W,g,v,m,x,rfl,h,he,k⟩:=h
 refine⟨_,(AB (Aq (A0 BD (Dc T.k.CD<|Af<|AR AH)<|Bt T.k.Za) (AF<|CI T.c.fault BK (hr.mono<|by decide) outF rfl<|Af AE) AX)<|AF<|Ad<|VD FK RX TN LU (AR AH)<|Af<|Ah Dx T.cut<|Af AV),h.run,AL,E9,.inl<|BF.of h.C2,rfl,A7 (fun e=>?_) fun e=>?_⟩
 ·have e':m.stack.length=128:=by
   have q:=V.int.inj<|An e
   rw[Bq,Ek]at q
   lia
  exact⟨_,rfl,(he e').ex h⟩
 ·have e':m.stack.length<128:=by
   have q: ¬(((iV m.stack.reverse).length:Int)=128):=fun z=>Ew (Eu.mpr e)<|BO V.int z
   rw[Bq,Ek]at q
   have:=h.good.st
   lia
  refine⟨h.run,AL,E9,.inl ⟨rfl,_,BF.of h.C2⟩,_,rfl,trivial,h.C2,(by rw[Bq,Ek];exact HH e'<|by decide),?_⟩
  rw[<-NX]
  refine k _ e'<|h.setStack e' fun y hy=>?_
  rcases Cd.mp hy with q | q
  ·exact q▸Du x
  ·exact h.good.sti y q
def Fn(x:Int):x%4294967296=AD (Ht.unsigned x):=by
 unfold Ht.unsigned
 have h:0<=x%4294967296:=fK _<|by decide
 exact(Lv h).symm
def Cn :OF P w base 3 27 ["number","count"] SO:=by
 refine T.within.F.V6 ["number","count"] fun H vs Q E hr h=>?_
 obtain⟨x,cc,rfl,he,k⟩:=h
 refine⟨_,(AB (Aq (A0 Ut (Ah E6 T.GY<|Af AH) AV) (AF<|CI T.c.fault BK (hr.mono<|by decide) outF rfl<|Af AE) AX)<|AF<|AY<|Ah E6 T.GY<|Af AH),_,rfl,trivial,A7 (fun e=>?_) fun e=>?_⟩
 ·have e':=An e
  rw[Fn]at e'
  exact⟨_,rfl,he<|Bf.mp e'⟩
 ·have e':=Ew (Eu.mpr e)
  rw[Fn]at e'
  refine⟨_,rfl,trivial,?_⟩
  rw[Fn]
  exact k<|fH fun z=>e'<|Bf.mpr z
def Ux :O0 P w base 1 23 ["self","number"] (cQ K A):=by
 refine T.Yl.F.DL ["self","number"] fun H vs Q E hr h=>?_
 obtain⟨W,g,v,m,z,rfl,h,hz,k⟩:=h
 refine⟨_,(AB (Aq (A0 BD AV AE) (AF<|AY<|AR<|AR AH) AX)<|AF<|AY<|AR<|AR AH),rfl,A7 (fun e=>?_) fun e=>?_⟩
 ·have e':z=0:=by have q:=V.int.inj<|An e;exact B6 q
  subst e'
  exact⟨h.run,AL,A_,h.gr,AW,gw,k⟩
 ·have e':z=1:=by
   have:z≠0:=fun y=>e<|by rw[y];rfl
   lia
  subst e'
  exact⟨h.run,AL,A_,h.gr,AW,HA,k⟩
def Kd{l:List V}{j:Nat}{x:V}(h:l[j]?=some x):Wz l (AD j)=some x:=En h
def aO{g:B2}(h:i<n):((BM n).map fun i=>V.ref<|g.pp z i)[i]?=some (.ref<|g.pp z i):=by
 rw[CY,Gr h]
 rfl
def ke{g:B2}:(((BM n).map fun i=>V.ref<|g.pp z i).length:Int)=AD n:=by
 rw[A8,CO]
 rfl
def Hf :OF P w base 4 24 ["self","zone_number","number"] (mT K A):=by
 refine T.Ga.F.V6 ["self","zone_number","number","zone"] fun H vs Q E hr h=>?_
 obtain⟨W,g,v,m,x,z,rfl,h,hz,he,k⟩:=h
 refine⟨_,(AB (AO 3<|Be AH Ux T.Yl<|Af AV)<|AF<|AY<|A9 Ab A6<|Ah Cn T.within<|Ax Aj<|Dc T.k.CD<|Af A6),h.run,xD,jF h hz<|⟨.inl<|BF.of<|h.zl hz,?_⟩⟩
 rw[ke]
 exact Yv (fun e=>(he e).ex h) fun e=>⟨BF.of<|h.zl hz,Kd<|aO e,k e⟩
def wg(h:p<3):Wz [V.int<|AD m.z0,.int<|AD m.z1,.int<|AD m.z2] (AD p)=some (.int<|AD<|zp m p):=by
 rcases p with _ | _ | _ | p
 ·rfl
 ·rfl
 ·rfl
 ·lia
def uN(h:p<3):Wz [V.int m.r0,.int m.r1,.int m.r2] (AD p)=some (.int<|rp m p):=by
 rcases p with _ | _ | _ | p
 ·rfl
 ·rfl
 ·rfl
 ·lia
def A5 :OF P w base 5 25 ["self","pointer","number"] (Vu K A):=by
 refine T.BV.F.V6 ["self","pointer","number"] fun H vs Q E hr h=>?_
 obtain⟨W,g,v,m,x,p,rfl,h,hp,he,k⟩:=h
 exact⟨_,(AF<|AY<|Be AH Hf T.Ga<|Ax (A9 Ab (AR AH) AV) Aj),h.run,Mx,h.run,AL,C8,BF.of h.Bj,wg hp,qB h (Ci h.good p) he k⟩
def CN :OF P w base 6 26 ["self","which","pointer"] (Vt K A):=by
 refine T.Cw.F.V6 ["self","which","pointer"] fun H vs Q E hr h=>?_
 obtain⟨W,g,v,m,r,p,rfl,h,hr',hp,he,k⟩:=h
 exact⟨_,(AF<|AY<|Be AH A5 T.BV<|Ax Aj<|A9 Ab (AR AH) AV),h.run,B5,h.run,AL,CK,BF.of h.refs,uN hr',Zx h hp he k⟩
def AA5(b k:Nat):BN (AD b) (AD k)=AD (b/k):=by
 show BN (b:Int) (k:Int)=_
 rw[Fq _<|FG k]
 rfl
def AB5(w b:Nat)(hw:w=6\/w=7):Ca (AD w) (AD b)=(if b/64%4=0 then Ht.down (if w=6 then 16384 else 11585) 2 else if b/64%4=2 then 2*(if w=6 then 16384 else 11585)else if w=6 then 16384 else 11585):=by
 unfold Ca Ht.down
 have e1:BN (AD b) 64%4=AD (b/64%4):=by rw[show(64:Int)=AD 64 from rfl,AA5];rfl
 rw[e1]
 generalize b/64%4=q
 have e2:(AD q=0)=(q=0):=L4 ⟨fun h=>B6 h,fun h=>by rw[h];rfl⟩
 have e3:(AD q=2)=(q=2):=L4 ⟨fun h=>B6 h,fun h=>by rw[h];rfl⟩
 have e4:(AD w=6)=(w=6):=L4 ⟨fun h=>B6 h,fun h=>by rw[h];rfl⟩
 simp only[e2,e3,e4]
def ACe(p:Int)(b:Nat):Og p (AD b)=(if b%16=0 then Ht.down (p-1) 256 else Ht.down (Ht.down (p*(AD (b%16)-4)) 8) 256):=by
 unfold Og Ht.down
 have e1:AD b%16=AD (b%16):=rfl
 rw[e1]
 generalize b%16=q
 have e2:(AD q=0)=(q=0):=L4 ⟨fun h=>B6 h,fun h=>by rw[h];rfl⟩
 simp only[e2]
def AAs(w b:Nat)(hw:w=6\/w=7)(d:Int):PN (AD w) (AD b) d=Ht.roundedSize w b d:=by
 unfold PN fT Ht.roundedSize
 have e1:BN (AD b) 16%4=AD (b/16%4):=by rw[show(16:Int)=AD 16 from rfl,AA5];rfl
 rw[AB5 w b hw,ACe,e1]
 rcases hw with rfl | rfl
 ·rfl
 ·rfl
def size_eq(w b:Nat)(hw:w<=7)(d:Int):jL (AD w) (AD b) d=Ht.roundedSize w b d:=by
 have:=xg (x:=w)<|by lia
 rcases this with rfl | rfl | rfl | rfl | rfl | rfl | rfl | rfl
 ·rfl
 ·rfl
 ·rfl
 ·rfl
 ·rfl
 ·rfl
 ·exact AAs 6 b (.inl rfl) d
 ·exact AAs 7 b (.inr rfl) d
def Yr(w b:Nat)(hw:w<=7)(d:Int):Tz (AD w) (AD b) d=Ht.rounded w b d:=by
 unfold Tz Ht.rounded
 rw[size_eq w b hw]
 by_cases h:d<0
 ·simp only[AI h]
 ·simp only[AG h]
def Cb :O0 P w base 5 22 ["self","number"] (S8 K A):=by
 refine T.Cm.F.DL ["self","number"] fun H vs Q E hr h=>?_
 obtain⟨W,g,v,m,x,rfl,h,k⟩:=h
 refine⟨_,(AF<|AY<|Ah Y4 T.rounded<|CH (AR AH) (AR AH) AV),h.run,AL,kO,h.run,AL,VS,_,_,_,rfl,trivial,?_⟩
 rw[Yr _ _ h.good.way]
 exact k
structure RL(K:AS)(A:B4)(W:Hp)(g:B2)(v:Var)(m:Ht.M)(H:Hp)(l:AK)(o:HO):Prop where
 r:R K A W g v m H
 at_:H l=some o
 w:W l=none
 ne: ∀ t a o',want A g v m t=some (a,o')->a≠l
section
variable{W:Hp}{g:B2}{v:Var}{m:Ht.M}{H:Hp}{l:AK}{o o':HO}
def RL.lG(h:R K A W g v m H)(f:H l=none):RL K A W g v m (upd H l o) l o:=⟨h.new f,AJ,h.free f,fun t a o' e z=>by rw[z]at e;rw[h.at_ e]at f;cases f⟩
def RL.ACh(h:RL K A W g v m H l o):RL K A W g v m (upd H l o') l o':=by
 refine⟨h.r.core (fun _=>none) (fun t a o e=>⟨by rw[AQ<|h.ne t a o e];exact h.r.at_ e,.inr ⟨rfl,_,e⟩⟩) (fun a o e=>?_) h.r.good,AJ,h.w,h.ne⟩
 ·have n:a≠l:=fun z=>by rw[z,h.w]at e;cases e
  exact⟨by rw[AQ n];exact h.r.sub _ _ e,.inr ⟨rfl,_,e⟩⟩
def RL.lB(h:RL K A W g v m H l o):R K A (upd W l o) g v m H:=by
 refine h.r.core (fun b=>if b=l then some .rest else none) (fun t a o e=>⟨h.r.at_ e,.inr ⟨AG<|h.ne t a o e,_,e⟩⟩) (fun a oa e=>?_)<|h.r.good.mono<|Bd h.w
 ·by_cases n:a=l
  ·subst n
   rw[AJ]at e
   cases e
   exact⟨h.at_,.inl<|AI rfl⟩
  ·rw[AQ n]at e
   exact⟨h.r.sub _ _ e,.inr ⟨AG n,_,e⟩⟩
def RL.setStack(h:RL K A W g v m H l o)(hl:s.length<=128)(hi: ∀ x∈s,FN x):RL K A W g v (Bs m<|s) (upd H g.C2<|.lst<|iV s.reverse) l o:=by
 have n:=h.ne .C2 _ _ rfl
 refine⟨h.r.setStack hl hi,by rw[AQ n.symm];exact h.at_,h.w,fun t a o' e=>?_⟩
 by_cases ht:t= .C2
 ·subst ht;cases e;exact n
 ·have s:want A g v (Bs m<|s) t=want A g v m t:=by cases t<;>first | rfl | exact absurd rfl ht
  rw[s]at e
  exact h.ne t a o' e
end
def take_snoc{s:List Int}(e:s.drop i=a::r):s.take (i+1)=s.take i++ [a]:=by
 rw[lX]
 have h:s[i]?=some a:=by
  have q:=BO (fun l:List Int=>l[0]?) e
  simpa using q
 rw[h]
 rfl
def sd{s:List Int}(e:s.drop i=a::r):s.drop (i+1)=r:=by
 rw[<-FJ,e]
 rfl
def aD:iV (a++b)=iV a++iV b:=FF
noncomputable def iH(H:Hp)(l:AK):Nat:=match H l with
 | some (.lst xs)=>xs.length
 | _=>0
def G1 :OF P w base 3 19 ["self","count"] (LY K A):=by
 refine T.HL.F.V6 ["self","count","taken"] @fun _ _ _ s H vs Q E hr h=>?_
 obtain⟨W,g,v,m,n,rfl,h,he,k⟩:=h
 refine⟨_,(AB (Aq (A0 DE AV<|Dc T.k.CD<|Af<|AR AH) (AF<|CI T.c.fault BK (hr.mono<|by decide) outF rfl<|Af AE) AX)<|AB (AO 2<|Ba Ez)<|AB (JH PassesOwn.leaving (A0 Dq (Dc T.k.CD<|Af Aj) AV)<|AF<|Ad<|VD FK RX TN LU Aj<|Af<|eU FK WB Vq kN<|AR AH)<|AF<|AY Aj),h.run,AL,E9,.inl<|BF.of h.C2,A7 (fun e=>?_) fun e=>?_⟩
 ·have e':=An e
  rw[Bq,Ek]at e'
  exact⟨_,rfl,(he<|BQ.mp e').ex h⟩
 ·have e':=Ew (Eu.mpr e)
  rw[Bq,Ek]at e'
  have e2:=Ej fun z=>e'<|BQ.mpr z
  refine⟨by decide,fun l hl=>?_⟩
  have h0:RL K A W g v (Bs m<|m.stack.drop 0) (upd H l<|.lst []) l (.lst<|iV<|m.stack.take 0):=RL.lG h hl
  refine NP (fun σ H'=> ∃ i,i<=n/\σ= [some<|.ref g.run,some<|.int<|AD n,some<|.ref l]/\RL K A W g v (Bs m<|m.stack.drop i) H' l (.lst<|iV<|m.stack.take i)) (fun σ H'=>n-iH H' l) ⟨0,B7 _,rfl,h0⟩ ?_ fun σ H1 Q1 Q2 hq h=>Jg.mono h fun x h=>QL.mono h fun p ⟨e,h⟩=>⟨e,Jg.mono h fun y h=>RI.mono h fun i h=>RI.mono h fun j h=>hq _ _ h⟩
  ·rintro σ H1 ⟨i,hi,rfl,hL⟩
   have hl1:(iV<|m.stack.take i).length=i:=by rw[Bq,HP];lia
   refine⟨.inl<|BF.of hL.at_,A7 (fun e=>?_) fun e=>?_⟩
   ·have ei:i<n:=by
     have q:=An e
     rw[hl1]at q
     exact BQ.mp q
    cases ed:m.stack.drop i with
    | nil=>have q:=BO XB ed;rw[Gs]at q;simp at q;lia
    | cons a s=>
     have hs:=hL.r.C2
     rw[show((Bs m<|m.stack.drop i):Ht.M).stack=a::s from ed]at hs
     have b1:=hL.r.good.st
     have b2:=hL.r.good.sti
     rw[ed]at b1 b2
     have hN:=(hL.setStack (MW b1) fun x hx=>b2 x<|C0 _ hx)
     refine⟨.inl ⟨rfl,_,BF.of hL.at_⟩,hL.r.run,AL,E9,.inl ⟨rfl,_,BF.of hs⟩,_,_,_,rfl,rfl,hs,iK,?_⟩
     rw[iu]
     refine⟨hN.at_,(by rw[hl1];exact HH ei<|Er e2<|Er h.good.st<|by decide),?_⟩
     have hF:=hN.ACh (o':= .lst<|iV<|m.stack.take<|i+1)
     rw[take_snoc ed,aD]at hF
     refine⟨⟨i+1,ei,rfl,?_⟩,?_⟩
     ·rw[take_snoc ed,aD,sd ed]
      exact hF
     ·have c1:iH H1 l=i:=by unfold iH;rw[hL.at_];exact hl1
      have c2:iH (upd (upd H1 g.C2<|.lst<|iV s.reverse) l<|.lst<|iV (m.stack.take i)++ [V.int a]) l=i+1:=by unfold iH;rw[AJ];show(iV (m.stack.take i)++ [V.int a]).length=i+1;rw[E8,hl1];rfl
      rw[c1,c2]
      lia
   ·have ei:i=n:=by
     have q:=Ew<|Eu.mpr e
     rw[hl1]at q
     have:=fun z=>q<|BQ.mpr z
     exact qP hi<|Ej this
    subst ei
    exact k l H1 e2 hL.w hL.lB
def D5 :OF P w base 4 20 ["self"] (MB K A):=by
 refine T.EL.F.V6 ["self","numbers"] fun H vs Q E hr h=>?_
 obtain⟨W,g,v,m,rfl,h,he,k⟩:=h
 exact⟨_,(AB (AO 1<|Be AH G1 T.HL<|Af<|AR AH)<|AB (BC AH AE)<|AF<|AY AV),h.run,OD,h.run,AL,ABd,jW h he fun l H1 e f h1=>⟨h1.run,AL,(B8 rfl),k l _ e f<|h1.setLoop 1<|by decide⟩⟩
end GF
end
section
namespace GF
open PySem PySem.Spec PyProof.Rows L2
noncomputable def KD(P:BH)(w:Ap)(K:AS)(a:AK)(BU:List (Key×V)):Prop:=(a==Gy)=false/\ ∃ vs,KV BU vs/\ ∀ h,K.In h->h.DictOf (DW P w) a vs
noncomputable def AD9(P:BH)(w:Ap)(K:AS)(td ty:TE):TE:=fun σ H Q=>td σ H fun x H1=>ty σ H1 fun y H2=> ∃ a BU k v,x= .ref a/\KD P w K a BU/\y=kV k/\E2 BU k=some v/\Q v H2
noncomputable def kz(P:BH)(w:Ap)(K:AS)(td ty:TE):TE:=fun σ H Q=>td σ H fun x H1=> ∃ a BU,x= .ref a/\KD P w K a BU/\ty σ H1 fun y H2=> ∃ k,y=kV k/\Q ((E2 BU k).getD .non) H2
section
variable{X:Cx}{o i e:Expr}{pos apos cpos:Pos}{td ty:TE}
def bT(ho:PE X o td)(hi:PE X i ty)(hs:AEH i):PE X (.Subscript o i pos) (AD9 X.prog X.w X.K td ty):=by
 intro pins s σ H Q I h
 refine yZ PySem.F.slot_dict_getitem.lookup hs<|HV (ho pins s σ H _ I h) fun u s1 x H1 I1 rx q1=>HV (hi pins s1 σ H1 _ I1 q1) fun iv s2 y H2 I2 ry q_=>?_
 obtain⟨a,BU,k,v,ex,kd,ey,l,q2⟩:=q_
 subst ex ey
 obtain rfl:u=CL a:=rx
 obtain⟨hd,vs,rel,dd⟩:=kd
 have dd:=dd _ I2.Qs
 obtain⟨w',hw,rw'⟩:=Ph.some_of<|by rw[<-l];exact rel.val k
 exact⟨dd.typeIs,wpAny_getItem_of (iJ ry) dd.mapOf hw ⟨v,H2,I2.tok _,rw',q2⟩⟩
def N_(ho:PE X o td)(he:PE X e ty)(m:M1 X o "get" apos e cpos):PE X (.Call (.Attribute o "get" apos) [e] [] cpos) (kz X.prog X.w X.K td ty):=by
 intro pins s σ H Q I h
 refine rL m.base m.ZA m.line mV Sy oH<|HV (ho pins s σ H _ I h) fun u s1 x H1 I1 rx q_=>?_
 obtain⟨a,BU,ex,kd,q1⟩:=q_
 subst ex
 obtain rfl:u=CL a:=rx
 obtain⟨hd,vs,rel,dds⟩:=kd
 have d1:=dds _ I1.Qs
 obtain⟨ob,_,_,h1,h2,_⟩:=d1
 refine⟨(dds _ I1.Qs).typeIs,fun b q=>by cases q;exact⟨ob,h1,h2.2.1⟩,?_⟩
 rw[m.trees]
 refine WL rfl<|eB<|cW<|HV (he pins s1 σ H1 _ I1 q1) fun iv s2 y H2 I2 ry ⟨k,ey,q2⟩=>fP ?_
 subst ey
 have dd:=dds _ I2.Qs
 refine bb Sy dd.typeIs bR (dI _ _) (lY (DW X.prog X.w) a (iJ ry) hd) ⟨_,dd.mapOf,_,H2,I2.tok _,(rel.val k).getD<|show L2.RelV V.non Sd from rfl,q2⟩
end
end GF
end
section
namespace GF
open PySem PySem.Spec PyProof.Rows L2
variable{P:BH}{w:Ap}{K:AS}{mg:Str->Option AN}{base:Ay}{A:B4}[T:Txt K mg A]
def vo(h:j<(iV l).length):Wz (iV l) (AD j)=some (.int<|l.getD j 0):=by
 rw[Bq]at h
 refine En ?_
 unfold iV
 rw[CY,CS h,Cc,CS h]
 rfl
def ixn(h:j<n):uA n (AD j)=some j:=by
 unfold uA
 rw[AI<|show(0:Int)<=AD j from FG j,AI<|show AD j<(n:Int)from BQ.mpr h]
 rfl
def i5{s:List Int}(h:1<=a/\a<=AD (iV s.reverse).length):AD (iV s.reverse).length-a=AD (s.length-a.toNat)/\s.length-a.toNat<s.length/\s.length-1- (s.length-a.toNat)=a.toNat-1:=by
 have e:(iV s.reverse).length=s.length:=by rw[Bq,Ek]
 rw[e]at h ⊢
 have h1:a=AD a.toNat:=(Lv<|by lia).symm
 have h2:a.toNat<=s.length:=by
  have:=h.2
  rw[h1]at this
  exact Bf.mp this
 have h3:1<=a.toNat:=by lia
 refine⟨?_,by lia,by lia⟩
 lia
def wV{s:List Int}(h:1<=a/\a<=AD (iV s.reverse).length):(iV s.reverse)[s.length-a.toNat]?=some (.int<|s.getD (a.toNat-1) 0):=by
 obtain⟨h1,h2,h3⟩:=i5 h
 unfold iV
 rw[CY,pO h2,h3,Cc,CS<|by lia]
 rfl
def AGL{s:List Int}(h:1<=a/\a<=AD (iV s.reverse).length):Wz (iV s.reverse) (AD (iV s.reverse).length-a)=some (.int<|s.getD (a.toNat-1) 0):=by
 rw[(i5 h).1]
 exact En<|wV h
def yw{s:List Int}(h:1<=a/\a<=AD (iV s.reverse).length):W5 (AD (iV s.reverse).length-a) (iV s.reverse).length=some (s.length-a.toNat):=by
 rw[(i5 h).1]
 exact(d4<|ixn<|by rw[Bq,Ek];exact(i5 h).2.1).1
def ACn{s:List Int}(h:1<=a/\a<=AD (iV s.reverse).length): -(2^63)<=AD (iV s.reverse).length-a:=by
 rw[(i5 h).1]
 exact Int.le_trans (by decide)<|FG _
def ACY{s:List Int}(h:1<=a/\a<=AD (iV s.reverse).length)(b:s.length<=128):AD (iV s.reverse).length-a<2^63:=by
 rw[Bq,Ek]
 have:=Bf.mpr b
 lia
def sU{s:List Int}(h:1<=a/\a<=AD (iV s.reverse).length):(iV s.reverse).eraseIdx (s.length-a.toNat)=iV (s.eraseIdx<|a.toNat-1).reverse:=by
 have e:(iV s.reverse).length=s.length:=by rw[Bq,Ek]
 rw[sx,tX (by lia) (by
  have:=h.2
  rw[e]at this
  have q:a=AD a.toNat:=(Lv<|by lia).symm
  rw[q]at this
  exact Bf.mp this)]
def E3 :OF P w base 4 122 ["run","truth"] (fL K A):=by
 refine T.Gq.F.V6 ["run","truth"] fun H vs Q E hr h=>?_
 unfold fL at h
 obtain⟨z,W,v,m,b,F,rfl,c,k⟩:=h
 refine⟨_,(AF<|Ad<|Be AH A1 T.BW<|Af<|Bm (MN AV) AE AE),c.rn,B1,?_⟩
 cases b
 ·exact(Bp c k)
 ·exact(Bp c k)
def KQ :OF P w base 4 114 ["run"] (ba K A):=by
 refine T.JP.F.V6 ["run","from_top"] @fun _ _ _ s H vs Q E hr h=>?_
 unfold ba at h
 obtain⟨z,W,v,m,F,rfl,c,k⟩:=h
 refine⟨_,(AB (AO 1<|BI AH AM T.AZ)<|AB (Aq (PW.pt<|Fy (A0 Dq AV AE)<|GL<|A0 DE AV<|Dc T.k.CD<|Af<|AR AH) (AF<|CI T.c.fault BK (hr.mono<|by decide) outF rfl<|Af AE) AX)<|AF<|AY<|AU B3 (Dc T.k.CD<|Af<|AR AH) AV),c.rn,Al,Am c fun a s H1 i c=>ER c (fun e1 c=>?_) fun e1 c=>?_⟩
 ·exact(⟨_,rfl,fun d hd=>c.raise d hd⟩)
 ·exact⟨c.rn,AL,E9,.inl<|BF.of c.h.C2,ER c (fun e2 c=>⟨_,rfl,fun d hd=>c.raise d hd⟩) fun e2 c=>⟨c.rn,AL,E9,.inl<|BF.of c.h.C2,k a s _ ⟨by lia,dh.mp e2⟩ c⟩⟩
inductive mB(vs:List V)(H:Hp)(Q:VK)(E_:XK):Prop
 | mk: ∀ b x y,vs= [.int b,.int x,.int y]->Q (.bl (Lg b x y)) H->mB vs H Q E_
def xW :O0 P w base 1 123 ["byte","first","second"] mB:=by
 refine T.holds.F.DL ["byte","first","second"] fun H vs Q E hr h=>?_
 obtain⟨b,x,y,rfl,q⟩:=h
 refine⟨_,(AB (Aq (A0 BD AH AE) (AF<|AY<|IG Dq AV Aj) AX)<|AB (Aq (A0 BD AH AE) (AF<|AY<|IG IT AV Aj) AX)<|AB (Aq (A0 BD AH AE) (AF<|AY<|IG DE AV Aj) AX)<|AB (Aq (A0 BD AH AE) (AF<|AY<|IG Ut AV Aj) AX)<|AB (Aq (A0 BD AH AE) (AF<|AY<|IG BD AV Aj) AX)<|AF<|AY<|IG Ep AV Aj),?_⟩
 unfold Lg at q
 refine⟨rfl,A7 (fun e=>?_) fun e=>?_⟩
 ·rw[AI<|V.int.inj<|An e]at q;exact q
 rw[AG fun z=>e<|Av<|BO V.int z]at q
 refine⟨rfl,A7 (fun e=>?_) fun e=>?_⟩
 ·rw[AI<|V.int.inj<|An e]at q;exact q
 rw[AG fun z=>e<|Av<|BO V.int z]at q
 refine⟨rfl,A7 (fun e=>?_) fun e=>?_⟩
 ·rw[AI<|V.int.inj<|An e]at q;exact q
 rw[AG fun z=>e<|Av<|BO V.int z]at q
 refine⟨rfl,A7 (fun e=>?_) fun e=>?_⟩
 ·rw[AI<|V.int.inj<|An e]at q;exact q
 rw[AG fun z=>e<|Av<|BO V.int z]at q
 refine⟨rfl,A7 (fun e=>?_) fun e=>?_⟩
 ·rw[AI<|V.int.inj<|An e]at q;exact⟨rfl,q⟩
 rw[AG fun z=>e<|Av<|BO V.int z]at q
 exact⟨rfl,q⟩
def AAc(h:FN x): -(2^64)<x/\x<2^64:=by unfold FN at h;lia
def AC3(h: ¬ x=0):(if x<0 then-x else x)≠0:=by split<;>lia
def ABO(h:FN x):(if x<0 then-x else x).natAbs<2^200:=by
 unfold FN at h
 have:(if x<0 then-x else x).natAbs<=4294967296:=by split<;>lia
 exact Er this<|by decide
noncomputable def OE(g:B2)(m:Ht.M):Ht.R Ht.M:=tk m fun m1 a1=>gv m1 a1 fun m2=>gv m2 a1 fun m3=> .ok m3
def dv :OA P w base 4 109 OE:=by
 exact T.bM.F.act ["run","number"] fun H Q E W g v m hr hb c=>⟨_,(AB (AO 1<|BI AH AM T.AZ)<|AB (Ad<|Be AH A1 T.BW<|Af AV)<|AF<|Ad<|Be AH A1 T.BW<|Af AV),c.rn,Al,Am c fun a1 s2 H3 i4 c=>⟨c.rn,B1,Bp c fun H5 e6 c=>⟨c.rn,B1,Bp c fun H7 e8 c=>c.done⟩⟩⟩
noncomputable def Jc(g:B2)(m:Ht.M):Ht.R Ht.M:=tk m fun m1 a1=> .ok m1
def Rk :OA P w base 4 110 Jc:=by
 exact T.drop.F.act ["run"] fun H Q E W g v m hr hb c=>⟨_,(AF<|Ad<|BI AH AM T.AZ),c.rn,Al,Am c fun a1 s2 H3 i4 c=>c.done⟩
noncomputable def lj(g:B2)(m:Ht.M):Ht.R Ht.M:=let m1:Ht.M:=(Bs m<|[]);.ok m1
def u7 :OB P w base 1 111 lj:=by
 refine T.empty.F.ko ["run"] @fun _ _ _ s H Q E W g v m hr hb c=>⟨_,(AF<|Ad<|eU FK PySem.F.slot_list_clear PySem.F.type_list_clear uU<|AR AH),c.rn,AL,E9,.inl ⟨rfl,_,BF.of c.h.C2⟩,_,_,rfl,rfl,c.h.C2,?_⟩
 replace c:=c.go same_refl<|c.h.setStack (by decide) fun x hx=>absurd hx<|Ia
 exact c.done
noncomputable def kc(g:B2)(m:Ht.M):Ht.R Ht.M:=tk m fun m1 a1=>tk m1 fun m2 a5=>gv m2 a1 fun m3=>gv m3 a5 fun m4=> .ok m4
def zA :OA P w base 4 112 kc:=by
 exact T.swap.F.act ["run","top","below"] fun H Q E W g v m hr hb c=>⟨_,(AB (AO 1<|BI AH AM T.AZ)<|AB (AO 2<|BI AH AM T.AZ)<|AB (Ad<|Be AH A1 T.BW<|Af AV)<|AF<|Ad<|Be AH A1 T.BW<|Af Aj),c.rn,Al,Am c fun a1 s2 H3 i4 c=>⟨c.rn,Al,Am c fun a5 s6 H7 i8 c=>⟨c.rn,B1,Bp c fun H9 e10 c=>⟨c.rn,B1,Bp c fun H11 e12 c=>c.done⟩⟩⟩⟩
noncomputable def Ma(g:B2)(m:Ht.M):Ht.R Ht.M:=gv m (AD (iV m.stack.reverse).length) fun m1=> .ok m1
def ZY :OA P w base 4 113 Ma:=by
 exact T.YJ.F.act ["run"] fun H Q E W g v m hr hb c=>⟨_,(AF<|Ad<|Be AH A1 T.BW<|Af<|Dc T.k.CD<|Af<|AR AH),c.rn,B1,c.rn,AL,E9,.inl<|BF.of c.h.C2,Bp c fun H1 e2 c=>c.done⟩
noncomputable def GV(g:B2)(m:Ht.M):Ht.R Ht.M:=depth m fun m1 a1=>gv m1 (m1.stack.getD (HS a1-1) 0) fun m2=> .ok m2
def QU :OA P w base 5 115 GV:=by
 exact T.Mi.F.act ["run","place"] fun H Q E W g v m hr hb c=>⟨_,(AB (AO 1<|Ah KQ T.JP<|Af AH)<|AF<|Ad<|Be AH A1 T.BW<|Af<|A9 Ab (AR AH) AV),oo c fun a1 s2 H3 e4 c=>⟨c.rn,B1,c.rn,AL,E9,BF.of c.h.C2,AGL e4,Bp c fun H6 e7 c=>c.done⟩⟩
noncomputable def Fu(g:B2)(m:Ht.M):Ht.R Ht.M:=depth m fun m1 a1=>let m2:Ht.M:=(Bs m1<|m1.stack.eraseIdx<|HS a1-1);gv m2 (m1.stack.getD (HS a1-1) 0) fun m3=> .ok m3
def Qg :OA P w base 5 116 Fu:=by
 refine T.Mw.F.act ["run","place"] @fun _ _ _ s H Q E W g v m hr hb c=>⟨_,(AB (AO 1<|Ah KQ T.JP<|Af AH)<|AF<|Ad<|Be AH A1 T.BW<|Af<|VD FK WB Vq uw (AR AH)<|Af AV),oo c fun a1 s2 H3 e4 c=>⟨c.rn,B1,c.rn,AL,E9,.inl ⟨rfl,_,BF.of c.h.C2⟩,_,_,_,_,_,rfl,rfl,c.h.C2,ACn e4,ACY e4 c.h.good.st,yw e4,wV e4,?_⟩⟩
 rw[sU e4]
 replace c:=c.go same_refl<|c.h.setStack (s:=s2.eraseIdx<|HS a1-1) (CC (UC _ _) c.h.good.st) fun x hx=>c.h.good.sti x<|mem_erase hx
 exact Bp c fun H6 e7 c=>c.done
noncomputable def lO(g:B2)(m:Ht.M):Ht.R Ht.M:=tk m fun m1 a1=>tk m1 fun m2 a5=>tk m2 fun m3 a9=>gv m3 a5 fun m4=>gv m4 a1 fun m5=>gv m5 a9 fun m6=> .ok m6
def yC :OA P w base 4 117 lO:=by
 exact T.roll.F.act ["run","third","second","first"] fun H Q E W g v m hr hb c=>⟨_,(AB (AO 1<|BI AH AM T.AZ)<|AB (AO 2<|BI AH AM T.AZ)<|AB (AO 3<|BI AH AM T.AZ)<|AB (Ad<|Be AH A1 T.BW<|Af Aj)<|AB (Ad<|Be AH A1 T.BW<|Af AV)<|AF<|Ad<|Be AH A1 T.BW<|Af A6),c.rn,Al,Am c fun a1 s2 H3 i4 c=>⟨c.rn,Al,Am c fun a5 s6 H7 i8 c=>⟨c.rn,Al,Am c fun a9 s10 H11 i12 c=>⟨c.rn,B1,Bp c fun H13 e14 c=>⟨c.rn,B1,Bp c fun H15 e16 c=>⟨c.rn,B1,Bp c fun H17 e18 c=>c.done⟩⟩⟩⟩⟩⟩
noncomputable def MU(g:B2)(m:Ht.M):Ht.R Ht.M:=tk m fun m1 a1=>tk m1 fun m2 a5=>wi a5 (iV m1.cells).length fun j10=>let m3:Ht.M:={m2 with cells:=m2.cells.set j10 a1};.ok m3
def Zj :OA P w base 4 118 MU:=by
 refine T.Y7.F.act ["run","number","cells"] fun H Q E W g v m hr hb c=>⟨_,(AB (AO 1<|BI AH AM T.AZ)<|AB (AO 2<|AR<|AR AH)<|AF<|Hz AV<|Hx Aj (Ah Cn T.within<|Ax (BI AH AM T.AZ)<|Dc T.k.CD<|Af Aj) set_list),c.rn,Al,Am c fun a1 s2 H3 i4 c=>⟨c.rn,AL,A_,c.h.gr,AW,iL,c.rn,Al,Am c fun a5 s6 H7 i8 c=>⟨.inl<|BF.of c.h.cells,DV c fun w9 c=>⟨_,_,_,_,rfl,rfl,c.h.cells,ixn w9,?_⟩⟩⟩⟩
 rw[eY]
 replace c:=c.go same_refl<|c.h.rl (i:=Ht.unsigned a5) (x:=a1) i4
 exact c.done
noncomputable def OH(g:B2)(m:Ht.M):Ht.R Ht.M:=tk m fun m1 a1=>wi a1 (iV m.cells).length fun j6=>gv m1 (m.cells.getD j6 0) fun m2=> .ok m2
def dZ :OA P w base 4 119 OH:=by
 exact T.bK.F.act ["run","cells"] fun H Q E W g v m hr hb c=>⟨_,(AB (AO 1<|AR<|AR AH)<|AF<|Ad<|Be AH A1 T.BW<|Af<|A9 Ab AV<|Ah Cn T.within<|Ax (BI AH AM T.AZ)<|Dc T.k.CD<|Af AV),c.rn,AL,A_,c.h.gr,AW,iL,c.rn,B1,c.rn,Al,Am c fun a1 s2 H3 i4 c=>⟨.inl<|BF.of c.h.cells,DV c fun w5 c=>⟨BF.of c.h.cells,vo w5,Bp c fun H7 e8 c=>c.done⟩⟩⟩
noncomputable def EI(g:B2)(m:Ht.M):Ht.R Ht.M:=tk m fun m1 a1=>(if(AD g.byte)=112 then tk m1 fun m2 a6=>wi a6 (iV m1.values).length fun j11=>let m3:Ht.M:={m2 with values:=m2.values.set j11<|Ht.cut<|Ht.near (64*a1*(AD m1.dots))<|AD m1.units};.ok m3 else tk m1 fun m4 a12=>wi a12 (iV m1.values).length fun j17=>let m5:Ht.M:={m4 with values:=m4.values.set j17 a1};.ok m5)
def K7 :OA P w base 4 120 EI:=by
 refine T.Kh.F.act ["run","number","controls"] fun H Q E W g v m hr hb c=>⟨_,(AB (AO 1<|BI AH AM T.AZ)<|AB (Aq (A0 BD (AR AH) AE) (AF<|AO 1<|Ah Kn T.scaled<|CH AV (AR<|AR AH)<|AR<|AR AH) AX)<|AB (AO 2<|AR<|AR AH)<|AF<|Hz AV<|Hx Aj (Ah Cn T.within<|Ax (BI AH AM T.AZ)<|Dc T.k.CD<|Af Aj) set_list),c.rn,Al,Am c fun a1 s2 H3 i4 c=>⟨c.rn,AL,BL,rfl,Ho c (fun e5 c=>?_) fun e5 c=>?_⟩⟩
 ·refine⟨c.rn,AL,A_,c.h.gr,AW,Vy,c.rn,AL,A_,c.h.gr,AW,jS,_,_,_,rfl,scl c.h.good,c.rn,AL,A_,c.h.gr,AW,Hj,c.rn,Al,Am c fun a6 s7 H8 i9 c=>⟨.inl<|BF.of c.h.Cq,DV c fun w10 c=>⟨_,_,_,_,rfl,rfl,c.h.Cq,ixn w10,?_⟩⟩⟩
  rw[eY]
  replace c:=c.go same_refl<|c.h.QW (i:=Ht.unsigned a6) (x:=(Ht.cut<|Ht.near (64*a1*(AD m.dots))<|AD m.units))<|Du _
  exact c.done
 ·refine⟨c.rn,AL,A_,c.h.gr,AW,Hj,c.rn,Al,Am c fun a12 s13 H14 i15 c=>⟨.inl<|BF.of c.h.Cq,DV c fun w16 c=>⟨_,_,_,_,rfl,rfl,c.h.Cq,ixn w16,?_⟩⟩⟩
  rw[eY]
  replace c:=c.go same_refl<|c.h.QW (i:=Ht.unsigned a12) (x:=a1) i4
  exact c.done
noncomputable def JJ(g:B2)(m:Ht.M):Ht.R Ht.M:=tk m fun m1 a1=>wi a1 (iV m.values).length fun j6=>gv m1 (m.values.getD j6 0) fun m2=> .ok m2
def VU :OA P w base 4 121 JJ:=by
 exact T.R0.F.act ["run","controls"] fun H Q E W g v m hr hb c=>⟨_,(AB (AO 1<|AR<|AR AH)<|AF<|Ad<|Be AH A1 T.BW<|Af<|A9 Ab AV<|Ah Cn T.within<|Ax (BI AH AM T.AZ)<|Dc T.k.CD<|Af AV),c.rn,AL,A_,c.h.gr,AW,Hj,c.rn,B1,c.rn,Al,Am c fun a1 s2 H3 i4 c=>⟨.inl<|BF.of c.h.Cq,DV c fun w5 c=>⟨BF.of c.h.Cq,vo w5,Bp c fun H7 e8 c=>c.done⟩⟩⟩
noncomputable def DJ(g:B2)(m:Ht.M):Ht.R Ht.M:=tk m fun m1 a1=>tk m1 fun m2 a5=>gv m2 (bI<|Lg (AD g.byte) a5 a1) fun m3=> .ok m3
def G8 :OA P w base 5 124 DJ:=by
 exact T.compare.F.act ["run","second","first"] fun H Q E W g v m hr hb c=>⟨_,(AB (AO 1<|BI AH AM T.AZ)<|AB (AO 2<|BI AH AM T.AZ)<|AF<|Ad<|Ah E3 T.Gq<|Ax AH<|Ah xW T.holds<|CH (AR AH) Aj AV),c.rn,Al,Am c fun a1 s2 H3 i4 c=>⟨c.rn,Al,Am c fun a5 s6 H7 i8 c=>⟨c.rn,AL,BL,_,_,_,rfl,Mb c fun H9 e10 c=>c.done⟩⟩⟩
noncomputable def F3(g:B2)(m:Ht.M):Ht.R Ht.M:=tk m fun m1 a1=>gv m1 (bI<|decide (V.bl (decide (V.int (((BN (m1.round a1) 64)%2))=V.int (1)))=V.bl (decide (V.int ((AD g.byte))=V.int (86))))) fun m2=> .ok m2
def QB :OA P w base 6 125 F3:=by
 exact T.Qu.F.act ["run","odd"] fun H Q E W g v m hr hb c=>⟨_,(AB (AO 1<|IG BD (AU Dz (AU Bn (Be AH Cb T.Cm<|Af<|BI AH AM T.AZ) AE) AE) AE)<|AF<|Ad<|Ah E3 T.Gq<|Ax AH<|IG BD AV<|IG BD (AR AH) AE),c.rn,CB,c.rn,Al,Am c fun a1 s2 H3 i4 c=>Jt c<|⟨⟨by decide,by decide⟩,(by show(0:Int)<_;decide),rfl,c.rn,AL,BL,rfl,rfl,Mb c fun H5 e6 c=>c.done⟩⟩
noncomputable def Qw(g:B2)(m:Ht.M):Ht.R Ht.M:=tk m fun m1 a1=>tk m1 fun m2 a5=>(if a5=0 then gv m2 (bI<|false) fun m3=> .ok m3 else gv m2 (bI<|!decide (V.int (a1)=V.int (0))) fun m4=> .ok m4)
def iG :OA P w base 5 126 Qw:=by
 refine T.gh.F.act ["run","second","first"] fun H Q E W g v m hr hb c=>⟨_,(AB (AO 1<|BI AH AM T.AZ)<|AB (AO 2<|BI AH AM T.AZ)<|AF<|Ad<|Ah E3 T.Gq<|Ax AH<|ACZ (IG Ep Aj AE)<|wC<|IG Ep AV AE),c.rn,Al,Am c fun a1 s2 H3 i4 c=>⟨c.rn,Al,Am c fun a5 s6 H7 i8 c=>⟨rfl,UW c (fun e9 c=>?_) fun e9 c=>?_⟩⟩⟩
 ·exact Mb c fun H10 e11 c=>c.done
 ·exact⟨rfl,Mb c fun H12 e13 c=>c.done⟩
noncomputable def Lw(g:B2)(m:Ht.M):Ht.R Ht.M:=tk m fun m1 a1=>tk m1 fun m2 a5=>(if a5=0 then gv m2 (bI<|!decide (V.int (a1)=V.int (0))) fun m3=> .ok m3 else gv m2 (bI<|true) fun m4=> .ok m4)
def Zm :OA P w base 5 127 Lw:=by
 refine T.X4.F.act ["run","second","first"] fun H Q E W g v m hr hb c=>⟨_,(AB (AO 1<|BI AH AM T.AZ)<|AB (AO 2<|BI AH AM T.AZ)<|AF<|Ad<|Ah E3 T.Gq<|Ax AH<|ADc (IG Ep Aj AE)<|wC<|IG Ep AV AE),c.rn,Al,Am c fun a1 s2 H3 i4 c=>⟨c.rn,Al,Am c fun a5 s6 H7 i8 c=>⟨rfl,UW c (fun e9 c=>?_) fun e9 c=>?_⟩⟩⟩
 ·exact⟨rfl,Mb c fun H10 e11 c=>c.done⟩
 ·exact Mb c fun H12 e13 c=>c.done
noncomputable def Ql(g:B2)(m:Ht.M):Ht.R Ht.M:=tk m fun m1 a1=>gv m1 (bI<|decide (V.int (a1)=V.int (0))) fun m2=> .ok m2
def h_ :OA P w base 5 128 Ql:=by
 exact T.iT.F.act ["run"] fun H Q E W g v m hr hb c=>⟨_,(AF<|Ad<|Ah E3 T.Gq<|Ax AH<|IG BD (BI AH AM T.AZ) AE),c.rn,Al,Am c fun a1 s2 H3 i4 c=>⟨rfl,Mb c fun H5 e6 c=>c.done⟩⟩
noncomputable def UQ(g:B2)(m:Ht.M):Ht.R Ht.M:=tk m fun m1 a1=>tk m1 fun m2 a5=>gv m2 (a5+a1) fun m3=> .ok m3
def k_ :OA P w base 4 129 UQ:=by
 exact T.nW.F.act ["run","second"] fun H Q E W g v m hr hb c=>⟨_,(AB (AO 1<|BI AH AM T.AZ)<|AF<|Ad<|Be AH A1 T.BW<|Af<|AU BJ (BI AH AM T.AZ) AV),c.rn,Al,Am c fun a1 s2 H3 i4 c=>⟨c.rn,B1,c.rn,Al,Am c fun a5 s6 H7 i8 c=>Bp c fun H9 e10 c=>c.done⟩⟩
noncomputable def NZ(g:B2)(m:Ht.M):Ht.R Ht.M:=tk m fun m1 a1=>tk m1 fun m2 a5=>gv m2 (a5-a1) fun m3=> .ok m3
def dG :OA P w base 4 130 NZ:=by
 exact T.aN.F.act ["run","second"] fun H Q E W g v m hr hb c=>⟨_,(AB (AO 1<|BI AH AM T.AZ)<|AF<|Ad<|Be AH A1 T.BW<|Af<|AU B3 (BI AH AM T.AZ) AV),c.rn,Al,Am c fun a1 s2 H3 i4 c=>⟨c.rn,B1,c.rn,Al,Am c fun a5 s6 H7 i8 c=>Bp c fun H9 e10 c=>c.done⟩⟩
noncomputable def X5(g:B2)(m:Ht.M):Ht.R Ht.M:=tk m fun m1 a1=>tk m1 fun m2 a5=>(if a1=0 then .error 8 else(if(decide (a5<0))=(decide (a1<0))then gv m2 (BN (64*(if a5<0 then-a5 else a5))<|if a1<0 then-a1 else a1) fun m3=> .ok m3 else gv m2 (-(BN (64*(if a5<0 then-a5 else a5))<|if a1<0 then-a1 else a1)) fun m4=> .ok m4))
def rR :OA P w base 4 131 X5:=by
 refine T.divide.F.act ["run","below","above","size"] fun H Q E W g v m hr hb c=>⟨_,(AB (AO 1<|BI AH AM T.AZ)<|AB (AO 2<|BI AH AM T.AZ)<|AB (Aq (A0 BD AV AE) (AF<|CI T.c.fault BK (hr.mono<|by decide) outF rfl<|Af AE) AX)<|AB (AO 3<|AU Bn (AU Bb AE<|EU Hq rfl T.k.Uo OT<|Af Aj)<|EU Hq rfl T.k.Uo OT<|Af AV)<|AF<|Ad<|Be AH A1 T.BW<|Af<|Bm (A0 BD (IG Dq Aj AE)<|IG Dq AV AE) A6<|LG G2 A6),c.rn,Al,Am c fun a1 s2 H3 i4 c=>⟨c.rn,Al,Am c fun a5 s6 H7 i8 c=>⟨rfl,Ho c (fun e9 c=>⟨_,rfl,fun d hd=>c.raise d hd⟩) fun e9 c=>?_⟩⟩⟩
 ·refine⟨_,rfl,.inl ⟨by decide,by decide⟩,_,rfl,⟨AC3 e9,ABO i4⟩,c.rn,B1,rfl,AAx c (fun e10 c=>?_) fun e10 c=>?_⟩
  ·exact Bp c fun H11 e12 c=>c.done
  ·exact Bp c fun H13 e14 c=>c.done
noncomputable def Qy(g:B2)(m:Ht.M):Ht.R Ht.M:=tk m fun m1 a1=>tk m1 fun m2 a5=>gv m2 (Ht.near (a5*a1) 64) fun m3=> .ok m3
def gm :OA P w base 4 132 Qy:=by
 exact T.multiply.F.act ["run","second"] fun H Q E W g v m hr hb c=>⟨_,(AB (AO 1<|BI AH AM T.AZ)<|AF<|Ad<|Be AH A1 T.BW<|Af<|Ah GU T.near<|Ax (AU Bb (BI AH AM T.AZ) AV) AE),c.rn,Al,Am c fun a1 s2 H3 i4 c=>⟨c.rn,B1,c.rn,Al,Am c fun a5 s6 H7 i8 c=>⟨.inl<|AAc i8,_,_,rfl,⟨by decide,by decide⟩,Bp c fun H9 e10 c=>c.done⟩⟩⟩
noncomputable def OC(g:B2)(m:Ht.M):Ht.R Ht.M:=tk m fun m1 a1=>gv m1 (if a1<0 then-a1 else a1) fun m2=> .ok m2
def bf :OA P w base 4 133 OC:=by
 exact T.Zy.F.act ["run"] fun H Q E W g v m hr hb c=>⟨_,(AF<|Ad<|Be AH A1 T.BW<|Af<|EU Hq rfl T.k.Uo OT<|Af<|BI AH AM T.AZ),c.rn,B1,c.rn,Al,Am c fun a1 s2 H3 i4 c=>⟨_,rfl,Bp c fun H5 e6 c=>c.done⟩⟩
noncomputable def X_(g:B2)(m:Ht.M):Ht.R Ht.M:=tk m fun m1 a1=>gv m1 (-a1) fun m2=> .ok m2
def sr :OA P w base 4 134 X_:=by
 exact T.negate.F.act ["run"] fun H Q E W g v m hr hb c=>⟨_,(AF<|Ad<|Be AH A1 T.BW<|Af<|LG G2<|BI AH AM T.AZ),c.rn,B1,c.rn,Al,Am c fun a1 s2 H3 i4 c=>Bp c fun H5 e6 c=>c.done⟩
noncomputable def UN(g:B2)(m:Ht.M):Ht.R Ht.M:=tk m fun m1 a1=>gv m1 (64*(BN a1 64)) fun m2=> .ok m2
def jr :OA P w base 4 135 UN:=by
 exact T.qy.F.act ["run"] fun H Q E W g v m hr hb c=>⟨_,(AF<|Ad<|Be AH A1 T.BW<|Af<|AU Bb AE<|AU Bn (BI AH AM T.AZ) AE),c.rn,B1,c.rn,Al,Am c fun a1 s2 H3 i4 c=>⟨⟨by decide,by decide⟩,.inl ⟨by decide,by decide⟩,Bp c fun H5 e6 c=>c.done⟩⟩
noncomputable def fW(g:B2)(m:Ht.M):Ht.R Ht.M:=tk m fun m1 a1=>gv m1 (64*(BN (a1+63) 64)) fun m2=> .ok m2
def vh :OA P w base 4 136 fW:=by
 exact T.AAa.F.act ["run"] fun H Q E W g v m hr hb c=>⟨_,(AF<|Ad<|Be AH A1 T.BW<|Af<|AU Bb AE<|AU Bn (AU BJ (BI AH AM T.AZ) AE) AE),c.rn,B1,c.rn,Al,Am c fun a1 s2 H3 i4 c=>⟨⟨by decide,by decide⟩,.inl ⟨by decide,by decide⟩,Bp c fun H5 e6 c=>c.done⟩⟩
noncomputable def Je(g:B2)(m:Ht.M):Ht.R Ht.M:=tk m fun m1 a1=>tk m1 fun m2 a5=>gv m2 (if a1>a5 then a1 else a5) fun m3=> .ok m3
def Vf :OA P w base 4 137 Je:=by
 exact T.RN.F.act ["run","second"] fun H Q E W g v m hr hb c=>⟨_,(AB (AO 1<|BI AH AM T.AZ)<|AF<|Ad<|Be AH A1 T.BW<|Af<|EU (r9 rfl) rfl T.k.ADZ ACf<|Ax (BI AH AM T.AZ) AV),c.rn,Al,Am c fun a1 s2 H3 i4 c=>⟨c.rn,B1,c.rn,Al,Am c fun a5 s6 H7 i8 c=>⟨_,_,rfl,Bp c fun H9 e10 c=>c.done⟩⟩⟩
noncomputable def Kj(g:B2)(m:Ht.M):Ht.R Ht.M:=tk m fun m1 a1=>tk m1 fun m2 a5=>gv m2 (if a1<a5 then a1 else a5) fun m3=> .ok m3
def X7 :OA P w base 4 138 Kj:=by
 exact T.U1.F.act ["run","second"] fun H Q E W g v m hr hb c=>⟨_,(AB (AO 1<|BI AH AM T.AZ)<|AF<|Ad<|Be AH A1 T.BW<|Af<|EU (rQ rfl) rfl T.k.AE4 ABX<|Ax (BI AH AM T.AZ) AV),c.rn,Al,Am c fun a1 s2 H3 i4 c=>⟨c.rn,B1,c.rn,Al,Am c fun a5 s6 H7 i8 c=>⟨_,_,rfl,Bp c fun H9 e10 c=>c.done⟩⟩⟩
noncomputable def CU(g:B2)(m:Ht.M):Ht.R Ht.M:=tk m fun m1 a1=>gv m1 (m1.round a1) fun m2=> .ok m2
def FO :OA P w base 6 139 CU:=by
 exact T.Gg.F.act ["run"] fun H Q E W g v m hr hb c=>⟨_,(AF<|Ad<|Be AH A1 T.BW<|Af<|Be AH Cb T.Cm<|Af<|BI AH AM T.AZ),c.rn,B1,c.rn,CB,c.rn,Al,Am c fun a1 s2 H3 i4 c=>Jt c<|Bp c fun H5 e6 c=>c.done⟩
noncomputable def Dj(g:B2)(m:Ht.M):Ht.R Ht.M:=tk m fun m1 a1=>gv m1 a1 fun m2=> .ok m2
def IX :OA P w base 4 140 Dj:=by
 exact T.LP.F.act ["run"] fun H Q E W g v m hr hb c=>⟨_,(AF<|Ad<|Be AH A1 T.BW<|Af<|BI AH AM T.AZ),c.rn,B1,c.rn,Al,Am c fun a1 s2 H3 i4 c=>Bp c fun H5 e6 c=>c.done⟩
noncomputable def Hh(g:B2)(m:Ht.M):Ht.R Ht.M:=gv m (AD m.dots) fun m1=> .ok m1
def R1 :OA P w base 4 141 Hh:=by
 exact T.Ti.F.act ["run"] fun H Q E W g v m hr hb c=>⟨_,(AF<|Ad<|Be AH A1 T.BW<|Af<|AR<|AR AH),c.rn,B1,c.rn,AL,A_,c.h.gr,AW,Vy,Bp c fun H1 e2 c=>c.done⟩
noncomputable def NI(g:B2)(m:Ht.M):Ht.R Ht.M:=tk m fun m1 a1=>(if(a1%2)=1 then gv m1 40 fun m2=> .ok m2 else gv m1 0 fun m3=> .ok m3)
def cP :OA P w base 4 142 NI:=by
 refine T.a_.F.act ["run"] fun H Q E W g v m hr hb c=>⟨_,(AF<|Ad<|Be AH A1 T.BW<|Af<|Bm (A0 BD (AU Dz (BI AH AM T.AZ) AE) AE) AE AE),c.rn,B1,c.rn,Al,Am c fun a1 s2 H3 i4 c=>⟨(by show(0:Int)<_;decide),rfl,Ho c (fun e5 c=>?_) fun e5 c=>?_⟩⟩
 ·exact Bp c fun H6 e7 c=>c.done
 ·exact Bp c fun H8 e9 c=>c.done
def qQ(h:0<=a): ∃ n:Nat,a=(n:Int):=O6 h
section
variable{W:Hp}{v:Var}{m:Ht.M}{H:Hp}{Q:VK}{E E':XK}{z:Fx}{r:Ht.R Ht.M}{a b:AK}{x y:Ht.Pos}{i j d:Int}
def xX(c:BX K A E z W v m H r)(b:i.natAbs<2^40/\j.natAbs<2^40)(k: ∀ p H',BX K A E z (upd W p<|.tup<|pV<|Ht.unit (i,j)) v m H' r->Q (.ref p) H'):bg [.int i,.int j] H Q E':=⟨i,j,rfl,b,fun p hp=>k p _<|c.M_ hp⟩
def T_(c:BX K A E z W v m H r)(ha:H a=some (.lst<|pV x))(hb:H b=some (.lst<|pV y))(k: ∀ p H',W p=none->BX K A E z (upd W p<|.tup<|pV<|Ht.less x y) v m H' r->Q (.ref p) H'):fj K [.ref a,.ref b] H Q E':=⟨a,b,x,y,rfl,BF.of ha,BF.of hb,fun p hp=>k p _ (c.h.free hp)<|c.M_ hp⟩
def kL(c:BX K A E z W v m H r)(ha:Dh K W a (pV x))(s:Sm x)(k: ∀ p H',W p=none->BX K A E z (upd W p<|.tup<|pV<|Ht.times d x) v m H' r->Q (.ref p) H'):lT K [.ref a,.int d] H Q E':=⟨a,x.1,x.2,d,rfl,BY c.h.sub ha,s,fun p hp=>k p _ (c.h.free hp)<|c.M_ hp⟩
end
noncomputable def tbA(A:B4)(l:List (Int×Nat)):List (Key×V):=l.map fun x=>(.inl x.1,.ref<|A.ad x.2)
noncomputable def QD(A:B4):List (Key×V):=tbA A Dv.VB
noncomputable def IA(A:B4):List (Key×V):=tbA A Dv.QC
noncomputable def K9(A:B4):List (Key×V):= [(.inl 93,.int 0),(.inl 113,.int 16),(.inl 114,.int 32),(.inl 115,.int 0),(.inl 116,.int 16),(.inl 117,.int 32)]
noncomputable def Jo(A:B4):List (Key×V):=tbA A Dv.My
noncomputable def JV(A:B4):List (Key×V):=tbA A Dv.IW
noncomputable def gM(A:B4):List (Key×V):= [(.inl 24,.int 1),(.inl 25,.int 0),(.inl 61,.int 2),(.inl 125,.int 3),(.inl 124,.int 4),(.inl 122,.int 5)]
noncomputable def OS(A:B4):List (Key×V):=tbA A Dv.Gj
noncomputable def aF(A:B4):List (Key×V):=tbA A Dv.rH
structure K1(P:BH)(w:Ap)(K:AS)(A:B4):Prop where
 rT:KD P w K (A.tg 2) (QD A)
 Ur:KD P w K (A.tg 3) (IA A)
 cf:KD P w K (A.tg 4) (K9 A)
 ZS:KD P w K (A.tg 5) (Jo A)
 YU:KD P w K (A.tg 6) (JV A)
 AF5:KD P w K (A.tg 7) (gM A)
 ji:KD P w K (A.tg 8) (OS A)
 AEm:KD P w K (A.tg 9) (aF A)
def G5 :O0 P w base 1 144 ["run","vector"] (lK K A):=by
 refine T.HX.F.DL ["run","vector"] fun H vs Q E hr h=>?_
 unfold lK at h
 obtain⟨z,W,v,m,r,E',a,x,rfl,c,t,sm,k⟩:=h
 refine⟨_,(AB (BC AH AV)<|AF<|BC AH AV),c.rn,AL,(B8 rfl),?_⟩
 replace c:=c.go same_refl<|c.h.ADl t sm
 refine⟨c.rn,AL,(B8 rfl),?_⟩
 replace c:=c.go same_refl<|c.h.ADT t sm
 exact k _ c
noncomputable def Cj(g:B2)(m:Ht.M):Ht.R Ht.M:=(if((AD g.byte)%2)=1 then(if(AD g.byte)<4 then let m1:Ht.M:={m with P:=Ht.X,Q:=Ht.X};(if(AD g.byte)<2 then let m2:Ht.M:={m1 with F:=Ht.X};.ok m2 else(if 3<(AD g.byte)then let m3:Ht.M:={m1 with F:=Ht.X};.ok m3 else .ok m1))else(if(AD g.byte)<2 then let m4:Ht.M:={m with F:=Ht.X};.ok m4 else(if 3<(AD g.byte)then let m5:Ht.M:={m with F:=Ht.X};.ok m5 else .ok m)))else(if(AD g.byte)<4 then let m6:Ht.M:={m with P:=Ht.Y,Q:=Ht.Y};(if(AD g.byte)<2 then let m7:Ht.M:={m6 with F:=Ht.Y};.ok m7 else(if 3<(AD g.byte)then let m8:Ht.M:={m6 with F:=Ht.Y};.ok m8 else .ok m6))else(if(AD g.byte)<2 then let m9:Ht.M:={m with F:=Ht.Y};.ok m9 else(if 3<(AD g.byte)then let US:Ht.M:={m with F:=Ht.Y};.ok US else .ok m))))
def Fm :OB P w base 2 145 Cj:=by
 refine T.JM.F.ko ["run","axis"] fun H Q E W g v m hr hb c=>⟨_,(AB (AO 1<|Bm (A0 BD (AU Dz (AR AH) AE) AE) (DZ rfl T.k.RT<|show L2.RelV (.ref<|A.tg 0) _ from rfl)<|DZ rfl T.k.xG<|show L2.RelV (.ref<|A.tg 1) _ from rfl)<|AB (Aq (A0 Dq (AR AH) AE) (AF<|Ad<|Ah G5 T.HX<|Ax AH AV) AX)<|AF<|Aq (PW.pt<|Fy (A0 Dq (AR AH) AE)<|GL<|A0 DE (AR AH) AE) (AF<|BC AH AV) AX),?_⟩
 refine⟨c.rn,AL,BL,(by show(0:Int)<_;decide),rfl,Ho c (fun e1 c=>?_) fun e1 c=>?_⟩
 ·refine⟨c.rn,AL,BL,ER c (fun e2 c=>?_) fun e2 c=>?_⟩
  ·refine d9 c (T.k.Hn _) (uM) fun H3 c=>⟨c.rn,AL,BL,ER c (fun e4 c=>?_) fun e4 c=>?_⟩
   ·refine(⟨c.rn,AL,(B8 rfl),?_⟩)
    replace c:=c.go same_refl<|c.h.Xz (T.k.Hn _)<|uM
    exact c.done
   ·refine⟨c.rn,AL,BL,ER c (fun e5 c=>?_) fun e5 c=>c.done⟩
    ·refine⟨c.rn,AL,(B8 rfl),?_⟩
     replace c:=c.go same_refl<|c.h.Xz (T.k.Hn _)<|uM
     exact c.done
  ·refine⟨c.rn,AL,BL,ER c (fun e6 c=>?_) fun e6 c=>?_⟩
   ·refine(⟨c.rn,AL,(B8 rfl),?_⟩)
    replace c:=c.go same_refl<|c.h.Xz (T.k.Hn _)<|uM
    exact c.done
   ·refine⟨c.rn,AL,BL,ER c (fun e7 c=>?_) fun e7 c=>c.done⟩
    ·refine⟨c.rn,AL,(B8 rfl),?_⟩
     replace c:=c.go same_refl<|c.h.Xz (T.k.Hn _)<|uM
     exact c.done
 ·refine⟨c.rn,AL,BL,ER c (fun e8 c=>?_) fun e8 c=>?_⟩
  ·refine d9 c (T.k.N3 _) (wY) fun H9 c=>⟨c.rn,AL,BL,ER c (fun e10 c=>?_) fun e10 c=>?_⟩
   ·refine(⟨c.rn,AL,(B8 rfl),?_⟩)
    replace c:=c.go same_refl<|c.h.Xz (T.k.N3 _)<|wY
    exact c.done
   ·refine⟨c.rn,AL,BL,ER c (fun e11 c=>?_) fun e11 c=>c.done⟩
    ·refine⟨c.rn,AL,(B8 rfl),?_⟩
     replace c:=c.go same_refl<|c.h.Xz (T.k.N3 _)<|wY
     exact c.done
  ·refine⟨c.rn,AL,BL,ER c (fun e12 c=>?_) fun e12 c=>?_⟩
   ·refine(⟨c.rn,AL,(B8 rfl),?_⟩)
    replace c:=c.go same_refl<|c.h.Xz (T.k.N3 _)<|wY
    exact c.done
   ·refine⟨c.rn,AL,BL,ER c (fun e13 c=>?_) fun e13 c=>c.done⟩
    ·refine⟨c.rn,AL,(B8 rfl),?_⟩
     replace c:=c.go same_refl<|c.h.Xz (T.k.N3 _)<|wY
     exact c.done
noncomputable def D3(g:B2)(m:Ht.M):Ht.R Ht.M:=tk m fun m1 a1=>tk m1 fun m2 a5=>(if(AD g.byte)=10 then let m3:Ht.M:={m2 with P:=(Ht.unit ((Ht.half a5),(Ht.half a1))),Q:=(Ht.unit ((Ht.half a5),(Ht.half a1)))};.ok m3 else let m4:Ht.M:={m2 with F:=(Ht.unit ((Ht.half a5),(Ht.half a1)))};.ok m4)
def Jq :OA P w base 4 149 D3:=by
 refine T.JZ.F.act ["run","y","x"] fun H Q E W g v m hr hb c=>⟨_,(AB (AO 1<|Ah MK T.PB<|Af<|BI AH AM T.AZ)<|AB (AO 2<|Ah MK T.PB<|Af<|BI AH AM T.AZ)<|AF<|Aq (A0 BD (AR AH) AE) (AF<|Ad<|Ah G5 T.HX<|Ax AH<|Ah R5 T.unit<|Ax Aj AV)<|AF<|BC AH<|Ah R5 T.unit<|Ax Aj AV),c.rn,Al,Am c fun a1 s2 H3 i4 c=>⟨_,rfl,trivial,c.rn,Al,Am c fun a5 s6 H7 i8 c=>⟨_,rfl,trivial,c.rn,AL,BL,rfl,Ho c (fun e9 c=>?_) fun e9 c=>?_⟩⟩⟩
 ·exact xX c ⟨WO _,WO _⟩ fun t10 H11 c=>d9 c (Dh.of AJ) (cD _) fun H12 c=>c.done
 ·refine xX c ⟨WO _,WO _⟩ fun t13 H14 c=>⟨c.rn,AL,(B8 rfl),?_⟩
  replace c:=c.go same_refl<|c.h.Xz (Dh.of AJ)<|cD _
  exact c.done
noncomputable def E4(g:B2)(m:Ht.M):Ht.R Ht.M:=(if(AD g.byte)=12 then gv m m.P.1 fun m1=>gv m1 m.P.2 fun m2=> .ok m2 else gv m m.F.1 fun m3=>gv m3 m.F.2 fun m4=> .ok m4)
def Nm :OA P w base 4 150 E4:=by
 refine T.NU.F.act ["run","vector"] fun H Q E W g v m hr hb c=>⟨_,(AB (AO 1<|Bm (A0 BD (AR AH) AE) (AR AH)<|AR AH)<|AB (Ad<|Be AH A1 T.BW<|Af<|A9 By AV AE)<|AF<|Ad<|Be AH A1 T.BW<|Af<|A9 By AV AE),c.rn,AL,BL,rfl,Ho c (fun e1 c=>?_) fun e1 c=>?_⟩
 ·exact⟨c.rn,AL,ED,c.rn,B1,c.h.tP,rfl,Bp c fun H2 e3 c=>⟨c.rn,B1,c.h.tP,rfl,Bp c fun H4 e5 c=>c.done⟩⟩
 ·exact⟨c.rn,AL,Fh,c.rn,B1,c.h.tF,rfl,Bp c fun H6 e7 c=>⟨c.rn,B1,c.h.tF,rfl,Bp c fun H8 e9 c=>c.done⟩⟩
noncomputable def IU(g:B2)(m:Ht.M):Ht.R Ht.M:=let m1:Ht.M:={m with F:=m.P};.ok m1
def NR :OB P w base 1 151 IU:=by
 refine T.Jv.F.ko ["run"] fun H Q E W g v m hr hb c=>⟨_,(AF<|BC AH<|AR AH),c.rn,AL,ED,c.rn,AL,(B8 rfl),?_⟩
 replace c:=c.go same_refl<|c.h.Xz (c.h.good.tP)<|c.h.good.sP
 exact c.done
noncomputable def QS(g:B2)(m:Ht.M):Ht.R Ht.M:=tk m fun m1 a1=>(if a1<1 then .error 3 else(if 65535<a1 then .error 3 else let m2:Ht.M:={m1 with loop:=HS a1};.ok m2))
def gN :OA P w base 4 155 QS:=by
 refine T.gO.F.act ["run","number"] fun H Q E W g v m hr hb c=>⟨_,(AB (AO 1<|BI AH AM T.AZ)<|AB (Aq (PW.pt<|Fy (A0 Dq AV AE)<|GL<|A0 DE AV<|Bt T.k.d_) (AF<|CI T.c.fault BK (hr.mono<|by decide) outF rfl<|Af AE) AX)<|AF<|BC AH AV),c.rn,Al,Am c fun a1 s2 H3 i4 c=>ER c (fun e5 c=>?_) fun e5 c=>?_⟩
 ·exact(⟨_,rfl,fun d hd=>c.raise d hd⟩)
 ·refine ER c (fun e6 c=>⟨_,rfl,fun d hd=>c.raise d hd⟩) (fun e6 c=>?_)
  ·refine⟨c.rn,AL,(B8 rfl),?_⟩
   obtain⟨n,rfl⟩:=qQ<|show 0<=a1 by lia
   replace c:=c.go same_refl<|c.h.setLoop n<|by lia
   exact c.done
noncomputable def CV(g:B2)(m:Ht.M):Ht.R Ht.M:=tk m fun m1 a1=>let m2:Ht.M:={m1 with byte:=Ht.unsigned a1%256};(if(AD g.byte)=118 then let m3:Ht.M:={m2 with way:=HS 6};.ok m3 else let m4:Ht.M:={m2 with way:=HS 7};.ok m4)
def Fo :OA P w base 4 157 CV:=by
 refine T.EX.F.act ["run"] fun H Q E W g v m hr hb c=>⟨_,(AB (BC AH<|AU Dz (BI AH AM T.AZ) AE)<|AF<|BC AH<|Bm (A0 BD (AR AH) AE) (Bt T.k.ax)<|Bt T.k.LB),c.rn,Al,Am c fun a1 s2 H3 i4 c=>⟨(by show(0:Int)<_;decide),c.rn,AL,(B8 rfl),?_⟩⟩
 replace c:=c.go same_refl<|by have q:=c.h.AAO (Ht.unsigned a1%256) (FD _<|by decide);rw[<-show a1%256=AD (Ht.unsigned a1%256)from wy ⟨16777216,rfl⟩<|by decide]at q;exact q
 refine⟨c.rn,AL,BL,rfl,Ho c (fun e5 c=>?_) fun e5 c=>?_⟩
 ·refine⟨c.rn,AL,(B8 rfl),?_⟩
  replace c:=c.go same_refl<|c.h.lC (HS 6)<|by decide
  exact c.done
 ·refine⟨c.rn,AL,(B8 rfl),?_⟩
  replace c:=c.go same_refl<|c.h.lC (HS 7)<|by decide
  exact c.done
noncomputable def NJ(g:B2)(m:Ht.M):Ht.R Ht.M:=tk m fun m1 a1=>let m2:Ht.M:={m1 with kept:={m1.kept with least:=a1}};.ok m2
def fO :OA P w base 4 158 NJ:=by
 refine T.ah.F.act ["run"] fun H Q E W g v m hr hb c=>⟨_,(AF<|BC (AR<|AR AH)<|BI AH AM T.AZ),c.rn,Al,Am c fun a1 s2 H3 i4 c=>⟨c.rn,AL,A_,c.h.gr,AW,DX,c.h.kp,BG,(B8 rfl),?_⟩⟩
 replace c:=c.go same_refl<|c.h.kf i4
 exact c.done
noncomputable def Lq(g:B2)(m:Ht.M):Ht.R Ht.M:=tk m fun m1 a1=>let m2:Ht.M:={m1 with kept:={m1.kept with cutin:=a1}};.ok m2
def ZU :OA P w base 4 159 Lq:=by
 refine T.YO.F.act ["run"] fun H Q E W g v m hr hb c=>⟨_,(AF<|BC (AR<|AR AH)<|BI AH AM T.AZ),c.rn,Al,Am c fun a1 s2 H3 i4 c=>⟨c.rn,AL,A_,c.h.gr,AW,DX,c.h.kp,BG,(B8 rfl),?_⟩⟩
 replace c:=c.go same_refl<|c.h.gx i4
 exact c.done
noncomputable def Fb(g:B2)(m:Ht.M):Ht.R Ht.M:=tk m fun m1 a1=>let m2:Ht.M:={m1 with kept:={m1.kept with widthcut:=a1}};.ok m2
def Pg :OA P w base 4 160 Fb:=by
 refine T.Ky.F.act ["run"] fun H Q E W g v m hr hb c=>⟨_,(AF<|BC (AR<|AR AH)<|BI AH AM T.AZ),c.rn,Al,Am c fun a1 s2 H3 i4 c=>⟨c.rn,AL,A_,c.h.gr,AW,DX,c.h.kp,BG,(B8 rfl),?_⟩⟩
 replace c:=c.go same_refl<|c.h.RU i4
 exact c.done
noncomputable def Nj(g:B2)(m:Ht.M):Ht.R Ht.M:=tk m fun m1 a1=>let m2:Ht.M:={m1 with kept:={m1.kept with width:=(Ht.cut<|Ht.near (64*a1*(AD m1.dots))<|AD m1.units)}};.ok m2
def cj :OA P w base 4 161 Nj:=by
 refine T.Zv.F.act ["run"] fun H Q E W g v m hr hb c=>⟨_,(AF<|BC (AR<|AR AH)<|Ah Kn T.scaled<|CH (BI AH AM T.AZ) (AR<|AR AH)<|AR<|AR AH),c.rn,Al,Am c fun a1 s2 H3 i4 c=>⟨c.rn,AL,A_,c.h.gr,AW,Vy,c.rn,AL,A_,c.h.gr,AW,jS,_,_,_,rfl,scl c.h.good,c.rn,AL,A_,c.h.gr,AW,DX,c.h.kp,BG,(B8 rfl),?_⟩⟩
 replace c:=c.go same_refl<|c.h.kG (x:=(Ht.cut<|Ht.near (64*a1*(AD m.dots))<|AD m.units))<|Du _
 exact c.done
noncomputable def JB(g:B2)(m:Ht.M):Ht.R Ht.M:=(if(AD g.byte)=77 then let m1:Ht.M:={m with kept:={m.kept with flip:=decide (1=1)}};.ok m1 else let m2:Ht.M:={m with kept:={m.kept with flip:=decide (0=1)}};.ok m2)
def VA :OB P w base 1 162 JB:=by
 refine T.Yz.F.ko ["run"] fun H Q E W g v m hr hb c=>⟨_,(AF<|BC (AR<|AR AH)<|Bm (A0 BD (AR AH) AE) AE AE),c.rn,AL,BL,rfl,Ho c (fun e1 c=>?_) fun e1 c=>?_⟩
 ·refine⟨c.rn,AL,A_,c.h.gr,AW,DX,c.h.kp,BG,(B8 rfl),?_⟩
  replace c:=c.go same_refl<|c.h.Z6<|decide ((1:Int)=1)
  exact c.done
 ·refine⟨c.rn,AL,A_,c.h.gr,AW,DX,c.h.kp,BG,(B8 rfl),?_⟩
  replace c:=c.go same_refl<|c.h.Z6<|decide ((0:Int)=1)
  exact c.done
noncomputable def G9(g:B2)(m:Ht.M):Ht.R Ht.M:=tk m fun m1 a1=>let m2:Ht.M:={m1 with kept:={m1.kept with base:=Ht.unsigned a1%65536}};.ok m2
def SU :OA P w base 4 163 G9:=by
 refine T.Nv.F.act ["run"] fun H Q E W g v m hr hb c=>⟨_,(AF<|BC (AR<|AR AH)<|AU Dz (BI AH AM T.AZ) AE),c.rn,Al,Am c fun a1 s2 H3 i4 c=>⟨(by show(0:Int)<_;decide),c.rn,AL,A_,c.h.gr,AW,DX,c.h.kp,BG,(B8 rfl),?_⟩⟩
 replace c:=c.go same_refl<|by have q:=c.h.Vg (Ht.unsigned a1%65536) (FD _<|by decide);rw[<-show a1%65536=AD (Ht.unsigned a1%65536)from wy ⟨65536,rfl⟩<|by decide]at q;exact q
 exact c.done
noncomputable def GJ(g:B2)(m:Ht.M):Ht.R Ht.M:=tk m fun m1 a1=>(if a1<0 then .error 3 else(if 6<a1 then .error 3 else let m2:Ht.M:={m1 with kept:={m1.kept with shift:=HS a1}};.ok m2))
def RF :OA P w base 4 164 GJ:=by
 refine T.Mv.F.act ["run","number"] fun H Q E W g v m hr hb c=>⟨_,(AB (AO 1<|BI AH AM T.AZ)<|AB (Aq (PW.pt<|Fy (A0 Dq AV AE)<|GL<|A0 DE AV<|Bt T.k.Zi) (AF<|CI T.c.fault BK (hr.mono<|by decide) outF rfl<|Af AE) AX)<|AF<|BC (AR<|AR AH) AV),c.rn,Al,Am c fun a1 s2 H3 i4 c=>ER c (fun e5 c=>?_) fun e5 c=>?_⟩
 ·exact(⟨_,rfl,fun d hd=>c.raise d hd⟩)
 ·refine ER c (fun e6 c=>⟨_,rfl,fun d hd=>c.raise d hd⟩) (fun e6 c=>?_)
  ·refine⟨c.rn,AL,A_,c.h.gr,AW,DX,c.h.kp,BG,(B8 rfl),?_⟩
   obtain⟨n,rfl⟩:=qQ<|show 0<=a1 by lia
   replace c:=c.go same_refl<|c.h.T4 n<|by lia
   exact c.done
noncomputable def HD(g:B2)(m:Ht.M):Ht.R Ht.M:=tk m fun m1 a1=>tk m1 fun m2 a5=>(if a5=0 then(if(kI g.kind)=1 then(if a1=1 then let m3:Ht.M:={m2 with still:=decide (0=1)};.ok m3 else(if a1=2 then let m4:Ht.M:={m2 with plain:=decide (0=1)};.ok m4 else .ok m2))else .ok m2)else(if(kI g.kind)=1 then(if a1=1 then let m5:Ht.M:={m2 with still:=decide (1=1)};.ok m5 else(if a1=2 then let m6:Ht.M:={m2 with plain:=decide (1=1)};.ok m6 else .ok m2))else .ok m2))
def Ra :OA P w base 4 165 HD:=by
 refine T.NN.F.act ["run","which","said"] fun H Q E W g v m hr hb c=>⟨_,(AB (AO 1<|BI AH AM T.AZ)<|AB (AO 2<|Bm (A0 BD (BI AH AM T.AZ) AE) AE AE)<|AB (Aq (A0 Ep (AR AH)<|Bt T.k.ug) (AF f6) AX)<|AF<|Aq (A0 BD AV AE) (AF<|BC (AR AH) Aj)<|AF<|Aq (A0 BD AV AE) (AF<|BC (AR AH) Aj) AX),c.rn,Al,Am c fun a1 s2 H3 i4 c=>⟨c.rn,Al,Am c fun a5 s6 H7 i8 c=>⟨rfl,Ho c (fun e9 c=>?_) fun e9 c=>?_⟩⟩⟩
 ·refine⟨c.rn,AL,jf,rfl,UW c (fun e10 c=>?_) fun e10 c=>c.done⟩
  ·refine⟨rfl,Ho c (fun e11 c=>?_) fun e11 c=>?_⟩
   ·refine⟨c.rn,AL,A_,c.h.gr,AW,(B8 rfl),?_⟩
    replace c:=c.go same_refl<|c.h.a8<|decide ((0:Int)=1)
    exact c.done
   ·refine⟨rfl,Ho c (fun e12 c=>?_) fun e12 c=>c.done⟩
    ·refine⟨c.rn,AL,A_,c.h.gr,AW,(B8 rfl),?_⟩
     replace c:=c.go same_refl<|c.h.set_plain<|decide ((0:Int)=1)
     exact c.done
 ·refine⟨c.rn,AL,jf,rfl,UW c (fun e13 c=>?_) fun e13 c=>c.done⟩
  ·refine⟨rfl,Ho c (fun e14 c=>?_) fun e14 c=>?_⟩
   ·refine⟨c.rn,AL,A_,c.h.gr,AW,(B8 rfl),?_⟩
    replace c:=c.go same_refl<|c.h.a8<|decide ((1:Int)=1)
    exact c.done
   ·refine⟨rfl,Ho c (fun e15 c=>?_) fun e15 c=>c.done⟩
    ·refine⟨c.rn,AL,A_,c.h.gr,AW,(B8 rfl),?_⟩
     replace c:=c.go same_refl<|c.h.set_plain<|decide ((1:Int)=1)
     exact c.done
noncomputable def uL(b:Nat):Nat:=if b=24 then 1 else if b=25 then 0 else if b=61 then 2 else if b=125 then 3 else if b=124 then 4 else 5
noncomputable def Jk(b:Nat):Prop:=b=24\/b=25\/b=61\/b=125\/b=124\/b=122
def AAL(h:Jk b):E2 (gM A) (.inl<|AD b)=some (.int<|AD<|uL b):=by
 rcases h with rfl | rfl | rfl | rfl | rfl | rfl<;>rfl
def zZ(b:Nat):uL b<=7:=by
 unfold uL
 repeat' split
 all_goals decide
noncomputable def Br(g:B2)(m:Ht.M):Ht.R Ht.M:= .ok {m with way:=uL g.byte}
def Di (TD:K1 P w K A):OB P w base 1 156 Br (Jk):=by
 refine T.EB.F.ko ["run"] fun H Q E W g v m hr hb c=>⟨_,(AF<|BC AH<|bT (DZ rfl T.k.ABU<|show L2.RelV (.ref<|A.tg 7) _ from rfl) (AR AH) fun _ _=>rfl),?_⟩
 refine⟨c.rn,AL,BL,_,_,.inl<|AD g.byte,_,rfl,TD.AF5,rfl,AAL hb,c.rn,AL,(B8 rfl),?_⟩
 replace c:=c.go same_refl<|c.h.lC (uL g.byte)<|zZ _
 exact c.done
noncomputable def C9(g:B2)(m:Ht.M):Ht.R Ht.M:=tk m fun m a=> .ok (if g.byte=16 then{m with r0:=a}else if g.byte=17 then{m with r1:=a}else{m with r2:=a})
noncomputable def D1(g:B2)(m:Ht.M):Ht.R Ht.M:=tk m fun m a=>wi a 2 fun j=> .ok (if g.byte=19 then{m with z0:=j}else if g.byte=20 then{m with z1:=j}else{m with z2:=j})
noncomputable def FY(g:B2)(m:Ht.M):Ht.R Ht.M:=tk m fun m a=>wi a 2 fun j=> .ok {m with z0:=j,z1:=j,z2:=j}
def G7 :OA P w base 4 152 C9 (fun b=>b=16\/b=17\/b=18):=by
 refine T.HZ.F.act ["run"] fun H Q E W g v m hr hb c=>⟨_,(AF<|Hz (BI AH AM T.AZ)<|Hx (AR AH) (AU B3 (AR AH) AE) set_list),c.rn,Al,Am c fun a s1 H1 i1 c=>?_⟩
 rcases hb with hb | hb | hb
 ·refine⟨c.rn,AL,CK,c.rn,AL,BL,_,_,_,0,rfl,rfl,c.h.refs,(by rw[hb];rfl),?_⟩
  replace c:=(c.to<|BO G4<|AI hb).go same_refl<|c.h.dE i1
  exact c.done
 ·refine⟨c.rn,AL,CK,c.rn,AL,BL,_,_,_,1,rfl,rfl,c.h.refs,(by rw[hb];rfl),?_⟩
  replace c:=(c.to<|BO G4<|by rw[AG<|by lia,AI hb]).go same_refl<|c.h.bU i1
  exact c.done
 ·refine⟨c.rn,AL,CK,c.rn,AL,BL,_,_,_,2,rfl,rfl,c.h.refs,(by rw[hb];rfl),?_⟩
  replace c:=(c.to<|BO G4<|by rw[AG<|by lia,AG<|by lia]).go same_refl<|c.h.mH i1
  exact c.done
def JY :OA P w base 4 153 D1 (fun b=>b=19\/b=20\/b=21):=by
 refine T.Jz.F.act ["run"] fun H Q E W g v m hr hb c=>⟨_,(AF<|Hz (Ah Cn T.within<|Ax (BI AH AM T.AZ) AE)<|Hx (AR AH) (AU B3 (AR AH) AE) set_list),c.rn,Al,Am c fun a s1 H1 i1 c=>DV c fun w1 c=>?_⟩
 rcases hb with hb | hb | hb
 ·refine⟨c.rn,AL,C8,c.rn,AL,BL,_,_,_,0,rfl,rfl,c.h.Bj,(by rw[hb];rfl),?_⟩
  replace c:=(c.to<|BO G4<|AI hb).go same_refl<|c.h.zF w1
  exact c.done
 ·refine⟨c.rn,AL,C8,c.rn,AL,BL,_,_,_,1,rfl,rfl,c.h.Bj,(by rw[hb];rfl),?_⟩
  replace c:=(c.to<|BO G4<|by rw[AG<|by lia,AI hb]).go same_refl<|c.h.yV w1
  exact c.done
 ·refine⟨c.rn,AL,C8,c.rn,AL,BL,_,_,_,2,rfl,rfl,c.h.Bj,(by rw[hb];rfl),?_⟩
  replace c:=(c.to<|BO G4<|by rw[AG<|by lia,AG<|by lia]).go same_refl<|c.h.yu w1
  exact c.done
def Po :OA P w base 4 154 FY:=by
 refine T.LO.F.act ["run","zone"] fun H Q E W g v m hr hb c=>⟨_,(AB (AO 1<|Ah Cn T.within<|Ax (BI AH AM T.AZ) AE)<|AF<|BC AH<|Ba<|CH AV AV AV),c.rn,Al,Am c fun a s1 H1 i1 c=>DV c fun w1 c=>⟨(by show 3<=sizeLine;decide),fun l hl=>?_⟩⟩
 refine⟨(c.h.new (o:= .lst [.int<|AD<|Ht.unsigned a,.int<|AD<|Ht.unsigned a,.int<|AD<|Ht.unsigned a]) hl).run,AL,(B8 rfl),?_⟩
 replace c:=c.go same_refl<|c.h.yn w1 hl
 exact c.done
noncomputable def LC(g:B2)(x:Ht.Pos):Ht.Pos:=if AD g.byte%2=1 then Ht.unit (-x.2,x.1)else Ht.unit (x.1,x.2)
noncomputable def xO(x:Ht.Pos):Prop:=x.1.natAbs<2^40/\x.2.natAbs<2^40
def Rc(g:B2)(x:Ht.Pos):Sm (LC g x):=by
 unfold LC
 split<;>exact cD _
def GH(hx:LJ x)(hy:LJ y):xO (Ht.less x y):=by
 unfold xO Ht.less
 obtain⟨⟨a,b⟩,c,d⟩:=hx
 obtain⟨⟨e,f⟩,p,q⟩:=hy
 have:(2:Nat)^40=1099511627776:=by decide
 rw[this]
 constructor<;>dsimp only<;>lia
inductive wK(K:AS)(A:B4)(vs:List V)(H:Hp)(Q:VK)(E:XK):Prop
 | mk: ∀ z W v m r E' a x,vs= [.ref z.g.run,.ref a]->BX K A E' z W v m H r->Dh K W a (pV x)->xO x->(∀ p H',W p=none->BX K A E' z (upd W p (.tup (pV (LC z.g x)))) v m H' r->Q (.ref p) H')->wK K A vs H Q E
def v8(c:BX K A E z W v m H r)(t:Dh K W a (pV x))(b:xO x)(k: ∀ p H',W p=none->BX K A E z (upd W p<|.tup<|pV<|LC z.g x) v m H' r->Q (.ref p) H'):wK K A [.ref z.g.run,.ref a] H Q E':=⟨z,W,v,m,r,E,a,x,rfl,c,t,b,k⟩
def nX(c:BX K A E z W v m H r)(b:i.natAbs<2^40/\j.natAbs<2^40)(k: ∀ p H',W p=none->BX K A E z (upd W p<|.tup<|pV<|Ht.unit (i,j)) v m H' r->Q (.ref p) H'):bg [.int i,.int j] H Q E':=by
 exact⟨i,j,rfl,b,fun p hp=>k p _ (c.h.free hp)<|c.M_ hp⟩
def H_ :O0 P w base 4 146 ["run","line"] (wK K A):=by
 refine T.Ii.F.DL ["run","line"] fun H vs Q E hr h=>?_
 obtain⟨z,W,v,m,r,E',a,x,rfl,c,t,b,k⟩:=h
 refine⟨_,(AB (Aq (A0 BD (AU Dz (AR AH) AE) AE) (AF<|AY<|Ah R5 T.unit<|Ax (LG G2<|A9 By AV AE)<|A9 By AV AE) AX)<|AF<|AY<|Ah R5 T.unit<|Ax (A9 By AV AE)<|A9 By AV AE),?_⟩
 have tH:=BY c.h.sub t
 refine⟨c.rn,AL,BL,(by show(0:Int)<_;decide),rfl,A7 (fun e=>?_) fun e=>?_⟩
 ·have e':=V.int.inj (An e)
  refine⟨tH,rfl,tH,rfl,nX c ⟨by rw[mK];exact b.2,b.1⟩ fun p H1 f c=>k p H1 f ?_⟩
  unfold LC
  rw[AI e']
  exact c
 ·refine⟨tH,rfl,tH,rfl,nX c b fun p H1 f c=>k p H1 f ?_⟩
  unfold LC
  rw[AG fun q=>e<|Av<|BO V.int q]
  exact c
noncomputable def Cv(g:B2)(m:Ht.M):Ht.R Ht.M:=tk m fun m a=>tk m fun m b=>wi b (m.zone<|zp m 1).size fun i=>wi a (m.zone<|zp m 2).size fun j=>
 if AD g.byte<8 then .ok {m with P:=LC g<|Ht.less ((m.zone<|zp m 1).at_ i)<|(m.zone<|zp m 2).at_ j,Q:=LC g<|Ht.less ((m.zone<|zp m 1).at_ i)<|(m.zone<|zp m 2).at_ j}
 else .ok {m with F:=LC g<|Ht.less ((m.zone<|zp m 1).at_ i)<|(m.zone<|zp m 2).at_ j}
noncomputable def Dl(g:B2)(m:Ht.M):Ht.R Ht.M:=tk m fun m a=>tk m fun m b=>wi a (m.zone<|zp m 2).size fun j=>wi b (m.zone<|zp m 1).size fun i=>
 .ok {m with P:=LC g<|Ht.less ((m.zone<|zp m 1).at_ i)<|(m.zone<|zp m 2).at_ j,Q:=LC g<|Ht.less ((m.zone<|zp m 1).was i)<|(m.zone<|zp m 2).was j}
def Ge :OA P w base 6 147 Cv:=by
 refine T.Hv.F.act ["run","second","first","line","vector"] fun H Q E W g v m hr hb c=>⟨_,(AB (AO 1<|BI AH AM T.AZ)<|AB (AO 2<|BI AH AM T.AZ)<|AB (AO 3<|Ah F8 T.less<|Ax (AR<|Be AH A5 T.BV<|Ax AE Aj)<|AR<|Be AH A5 T.BV<|Ax AE AV)<|AB (AO 4<|Ah H_ T.Ii<|Ax AH A6)<|AF<|Aq (A0 Dq (AR AH) AE) (AF<|Ad<|Ah G5 T.HX<|Ax AH CG)<|AF<|BC AH CG),c.rn,Al,Am c fun a s1 H1 i1 c=>⟨c.rn,Al,Am c fun b s2 H2 i2 c=>⟨c.rn,B5,B9 c (by decide) fun p1 c=>?_⟩⟩⟩
 have z1:=Ci c.h.good 1
 have z2:=Ci c.h.good 2
 refine⟨c.h.pt z1 p1,Aa,CF _ _ _,c.rn,B5,B9 c (by decide) fun p2 c=>⟨c.h.pt z2 p2,Aa,CF _ _ _,T_ c (c.h.pn z1 p1) (c.h.pn z2 p2) fun t H3 f c=>v8 c (Dh.of AJ) (GH (Ln c.h.good z1 p1)<|Ln c.h.good z2 p2) fun u H4 f2 c=>⟨c.rn,AL,BL,ER c (fun e c=>?_) fun e c=>?_⟩⟩⟩
 ·exact d9 c (Dh.of AJ) (Rc _ _) fun H5 c=>c.done
 ·refine⟨c.rn,AL,(B8 rfl),?_⟩
  replace c:=c.go same_refl<|c.h.Xz (Dh.of AJ)<|Rc _ _
  exact c.done
def JU :OA P w base 6 148 Dl:=by
 refine T.IH.F.act ["run","second","first","start","end"] fun H Q E W g v m hr hb c=>⟨_,(AB (AO 1<|BI AH AM T.AZ)<|AB (AO 2<|BI AH AM T.AZ)<|AB (AO 3<|Be AH A5 T.BV<|Ax AE AV)<|AB (AO 4<|Be AH A5 T.BV<|Ax AE Aj)<|AB (BC AH<|Ah H_ T.Ii<|Ax AH<|Ah F8 T.less<|Ax (AR CG)<|AR A6)<|AF<|BC AH<|Ah H_ T.Ii<|Ax AH<|Ah F8 T.less<|Ax (AR CG)<|AR A6),c.rn,Al,Am c fun a s1 H1 i1 c=>⟨c.rn,Al,Am c fun b s2 H2 i2 c=>?_⟩⟩
 have z1:=Ci c.h.good 1
 have z2:=Ci c.h.good 2
 refine⟨c.rn,B5,B9 c (by decide) fun p2 c=>⟨c.rn,B5,B9 c (by decide) fun p1 c=>⟨c.h.pt z1 p1,Aa,Bx _ _ _,c.h.pt z2 p2,Aa,Bx _ _ _,T_ c (c.h.po z1 p1) (c.h.po z2 p2) fun t H3 f c=>v8 c (Dh.of AJ) (GH (Fv c.h.good z1 p1)<|Fv c.h.good z2 p2) fun u H4 f2 c=>⟨c.rn,AL,(B8 rfl),?_⟩⟩⟩⟩
 replace c:=c.go same_refl<|c.h.ADT (Dh.of AJ)<|Rc _ _
 refine⟨c.h.pt z1 p1,Aa,CF _ _ _,c.h.pt z2 p2,Aa,CF _ _ _,T_ c (c.h.pn z1 p1) (c.h.pn z2 p2) fun t H3 f c=>v8 c (Dh.of AJ) (GH (Ln c.h.good z1 p1)<|Ln c.h.good z2 p2) fun u H4 f2 c=>⟨c.rn,AL,(B8 rfl),?_⟩⟩
 replace c:=c.go same_refl<|c.h.ADl (Dh.of AJ)<|Rc _ _
 exact c.done
def ifP{c A B:Prop} [Decidable c](h:c)(x:A):if c then A else B:=by rw[AI h];exact x
section
variable{W:Hp}{g:B2}{v:Var}{m:Ht.M}{H:Hp}{Q:VK}{E:XK}{y i:Nat}{o n:Ht.Pos}{k k':Nat}{o' n':Ht.Pos}
def aG(hy:y<2):Ce (Ce m y i o n k) y i o' n' k'=Ce m y i o' n' k':=by
 unfold Ce
 rcases QQ hy with rfl | rfl
 ·simp only[Ht.M.setZone,Ht.M.zone,D8,nF]
 ·simp only[Ht.M.setZone,Ht.M.zone,Nat.one_ne_zero,FH,nF]
def x9(h:Good K W g v m)(hy:y<2)(hi:i<(m.zone y).size):((Ce m y i o n k).zone y).at_ i=n/\((Ce m y i o n k).zone y).was i=o/\((Ce m y i o n k).zone y).mark i=k:=by
 have q:=E1 h hy
 rw[DT hy]
 refine⟨CJ hi,CJ ?_,CJ ?_⟩
 ·have:=q.lo;unfold Ht.Zone.size at hi;lia
 ·have:=q.lm;unfold Ht.Zone.size at hi;lia
def ACd:(Ce m y i o n k).F=m.F:=by unfold Ce Ht.M.setZone;split<;>rfl
def tW:OO (Ce m y i o n k)=OO m:=by unfold OO;rw[ACd]
def uo(h:R K A W g v m H)(k:Q (.int<|OO m) H):fJ K A [.ref g.run] H Q E:=⟨W,g,v,m,rfl,h,k⟩
def tN(h:R K A W g v m H)(k: ∀ a H',W a=none->R K A (upd W a<|.tup<|pV<|m.way_ d) g v m H'->Q (.ref a) H'):WW K A [.ref g.run,.int d] H Q E:=⟨W,g,v,m,d,rfl,h,k⟩
def yl{w:Ht.Pos}(h:R K A W g v m H)(hy:y<2)(hi:i<(m.zone y).size)(t:Dh K W a (pV w))(k: ∀ v' H',R K A W g v' (m.shift true y i w) H'->Q .non H'):i6 K A [.ref g.run,.ref<|g.pp y i,.ref a] H Q E:=⟨W,g,v,m,y,i,a,w,rfl,h,⟨hy,hi⟩,t,k⟩
def yD(h:x<8):S2 (AD x) (OO m)=AD (m.touched x):=by
 unfold OO Ht.M.touched Ht.give Ht.has Ht.INX Ht.INY
 have:=xg<|by assumption
 by_cases a:m.F.1=0<;>by_cases b:m.F.2=0<;>simp only[a,b,D8,FH,ne_eq,qp,my]<;>rcases this with rfl | rfl | rfl | rfl | rfl | rfl | rfl | rfl<;>decide+kernel
def xI(h:x<8):Dg (AD x) (7-OO m)=AD (m.untouched x):=by
 unfold OO Ht.M.untouched Ht.lose Ht.has Ht.INX Ht.INY
 have:=xg<|by assumption
 by_cases a:m.F.1=0<;>by_cases b:m.F.2=0<;>simp only[a,b,D8,FH,ne_eq,qp,my]<;>rcases this with rfl | rfl | rfl | rfl | rfl | rfl | rfl | rfl<;>decide+kernel
end
def Ox :O0 P w base 3 54 ["run","point"] (js K A):=by
 refine T.Yx.F.DL ["run","point"] fun H vs Q E hr h=>?_
 obtain⟨W,g,v,m,y,i,rfl,h,hy,hi,k⟩:=h
 exact⟨_,(AF<|AY<|Ah Kx T.along<|CH (AR AH) (A9 Ab (AR AV) AE)<|A9 Ab (AR AV) AE),h.run,AL,ED,h.pt hy hi,Aa,CF _ _ _,BF.of<|h.pn hy hi,rfl,h.pt hy hi,Aa,CF _ _ _,BF.of<|h.pn hy hi,rfl,_,_,_,_,_,rfl,h.tP,h.good.sP,k⟩
def tG :O0 P w base 3 55 ["run","point"] (k6 K A):=by
 refine T.uK.F.DL ["run","point"] fun H vs Q E hr h=>?_
 obtain⟨W,g,v,m,y,i,rfl,h,hy,hi,k⟩:=h
 exact⟨_,(AF<|AY<|Ah Kx T.along<|CH (AR AH) (A9 Ab (AR AV) AE)<|A9 Ab (AR AV) AE),h.run,AL,LF,h.pt hy hi,Aa,Bx _ _ _,BF.of<|h.po hy hi,rfl,h.pt hy hi,Aa,Bx _ _ _,BF.of<|h.po hy hi,rfl,_,_,_,_,_,rfl,h.tQ,h.good.sQ,k⟩
def DS :O0 P w base 3 56 ["run","point","base"] (kC K A):=by
 refine T.D_.F.DL ["run","point","base","line"] fun H vs Q E hr h=>?_
 obtain⟨W,g,v,m,y,i,y',i',rfl,h,⟨hy,hi⟩,⟨hy',hi'⟩,k⟩:=h
 refine⟨_,(AB (AO 3<|Ah F8 T.less<|Ax (AR AV)<|AR Aj)<|AF<|AY<|Ah Kx T.along<|CH (AR AH) (A9 By A6 AE)<|A9 By A6 AE),h.pt hy hi,Aa,CF _ _ _,h.pt hy' hi',Aa,CF _ _ _,_,_,_,_,rfl,BF.of<|h.pn hy hi,BF.of<|h.pn hy' hi',fun p hp=>?_⟩
 have h1:=h.new (o:= .tup<|pV<|Ht.less ((m.zone y).at_ i)<|(m.zone y').at_ i') hp
 exact⟨h1.run,AL,ED,Dh.of AJ,rfl,Dh.of AJ,rfl,_,_,_,_,_,rfl,h1.tP,h1.good.sP,k _ h1⟩
def EV :O0 P w base 3 57 ["run","point","base"] (lU K A):=by
 refine T.Fi.F.DL ["run","point","base","line"] fun H vs Q E hr h=>?_
 obtain⟨W,g,v,m,y,i,y',i',rfl,h,⟨hy,hi⟩,⟨hy',hi'⟩,k⟩:=h
 refine⟨_,(AB (AO 3<|Ah F8 T.less<|Ax (AR AV)<|AR Aj)<|AF<|AY<|Ah Kx T.along<|CH (AR AH) (A9 By A6 AE)<|A9 By A6 AE),h.pt hy hi,Aa,Bx _ _ _,h.pt hy' hi',Aa,Bx _ _ _,_,_,_,_,rfl,BF.of<|h.po hy hi,BF.of<|h.po hy' hi',fun p hp=>?_⟩
 have h1:=h.new (o:= .tup<|pV<|Ht.less ((m.zone y).was i)<|(m.zone y').was i') hp
 exact⟨h1.run,AL,LF,Dh.of AJ,rfl,Dh.of AJ,rfl,_,_,_,_,_,rfl,h1.tQ,h1.good.sQ,k _ h1⟩
def Ud :O0 P w base 3 58 ["run","distance"] (WW K A):=by
 refine T.bo.F.DL ["run","distance"] fun H vs Q E hr h=>?_
 obtain⟨W,g,v,m,d,rfl,h,k⟩:=h
 exact⟨_,(AF<|AY<|Ah ACG T.way<|CH (AR AH) (AR AH) AV),h.run,AL,Fh,h.run,AL,ED,_,_,_,_,_,_,_,rfl,h.tF,h.tP,⟨h.good.sF,h.good.sP⟩,fun p hp=>k p _ (h.free hp)<|h.M_ hp⟩
def QJ :O0 P w base 1 59 ["run"] (fJ K A):=by
 refine T.Qv.F.DL ["run","marks"] fun H vs Q E hr h=>?_
 obtain⟨W,g,v,m,rfl,h,k⟩:=h
 refine⟨_,(AB (AO 1 AE)<|AB (Aq (A0 Ep (A9 By (AR AH) AE) AE) (AF<|iy 1 (Bt T.k.Nq) cu) AX)<|AB (Aq (A0 Ep (A9 By (AR AH) AE) AE) (AF<|iy 1 (Bt T.k.Nl) cu) AX)<|AF<|AY AV),h.run,AL,Fh,h.tF,rfl,rfl,?_⟩
 unfold OO at k
 by_cases a:m.F.1=0
 ·rw[AI a]at k
  refine v9 (BO V.int a)<|⟨h.run,AL,Fh,h.tF,rfl,rfl,?_⟩
  by_cases b:m.F.2=0
  ·rw[AI b]at k
   exact v9 (BO V.int b)<|k
  ·rw[AG b]at k
   exact ifP (by simp[b])<|⟨_,rfl,_,_,rfl,rfl,k⟩
 ·rw[AG a]at k
  refine ifP (by simp[a])<|⟨_,rfl,_,_,rfl,rfl,h.run,AL,Fh,h.tF,rfl,rfl,?_⟩
  by_cases b:m.F.2=0
  ·rw[AI b]at k
   exact v9 (BO V.int b)<|k
  ·rw[AG b]at k
   exact ifP (by simp[b])<|⟨_,rfl,_,_,rfl,rfl,k⟩
def kq{lo ln:AK}:(N0 lo ln k).lookup ("put":Str)=none:=rfl
def YR{lo ln:AK}:(N0 lo ln k).lookup ("shift":Str)=none:=rfl
def eX{lo ln:AK}:(N0 lo ln k).lookup ("mark":Str)=none:=rfl
def aw{lo ln:AK}:(N0 lo ln k).lookup ("unmark":Str)=none:=rfl
def jH(x w:Ht.Pos):LJ (Ht.plus x w):=⟨Du _,Du _⟩
def EA :O0 P w base 3 60 ["run","point","step"] (i6 K A):=by
 refine T.EJ.F.DL ["run","point","step"] fun H vs Q E hr h=>?_
 obtain⟨W,g,v,m,y,i,a,w,rfl,h,⟨hy,hi⟩,t,k⟩:=h
 refine⟨_,(AB (Ad<|Be AV N5 T.Nz<|Af Aj)<|AF<|Ad<|Be AV Kk T.MD<|Af<|Ah QJ T.Qv<|Af AH),h.pt hy hi,YR,_,_,_,_,_,_,_,w,rfl,h.pt hy hi,h.pn hy hi,BY h.sub t,fun ln hl=>?_⟩
 have h1:=h.vp hy hi (jH ((m.zone y).at_ i) w) hl
 have hi1:i<((Ce m y i ((m.zone y).was i) (Ht.plus ((m.zone y).at_ i) w)<|(m.zone y).mark i).zone y).size:=by rw[Fj hy hy];exact hi
 obtain⟨e1,e2,e3⟩:=x9 h.good hy hi
 refine⟨h1.pt hy hi1,eX,uo h1<|⟨_,_,_,_,_,_,rfl,h1.pt hy hi1,?_⟩⟩
 have h2:=h1.km hy hi1<|j2 (m:=m)<|KO h.good hy hi
 rw[e1,e2,aG hy]at h2
 rw[YX true hy]at k
 rw[e3,tW,yD<|KO h.good hy hi]
 exact k _ _ h2
def HR :O0 P w base 4 61 ["run","point","distance"] (c9 K A):=by
 refine T.move.F.DL ["run","point","distance"] fun H vs Q E hr h=>?_
 obtain⟨W,g,v,m,y,i,d,rfl,h,⟨hy,hi⟩,k⟩:=h
 exact⟨_,(AF<|Ad<|Ah EA T.EJ<|CH AH AV<|Ah Ud T.bo<|Ax AH Aj),tN h fun a H1 f h1=>yl h1 hy hi (Dh.of AJ) fun v2 H2 h2=>k _ _ _ (Bd f) h2⟩
def FI:(Tb c).length=c.length:=A8 ..
def ABb(h:p<c.length):(Tb c)[p]?=some (.int<|AD<|Ht.byteAt c p):=by
 unfold Tb Ht.byteAt
 rw[CY,CS h,Cc,CS h]
 rfl
def Ny(h:p<c.length):Wz (Tb c) (AD p)=some (.int<|AD<|Ht.byteAt c p):=En (ABb h)
def xy(c:Ht.Bytes)(p:Nat):Ht.byteAt c p<256:=by unfold Ht.byteAt;exact UInt8.toNat_lt _
noncomputable def DB(c:Ht.Bytes)(p:Nat):Nat:=if Ht.byteAt c p=64\/Ht.byteAt c p=65 then(if p+1=c.length then 2 else 2+(Ht.byteAt c p-63)*Ht.byteAt c (p+1))else if 176<=Ht.byteAt c p/\Ht.byteAt c p<=183 then 2+(Ht.byteAt c p-176)else if 184<=Ht.byteAt c p/\Ht.byteAt c p<=191 then 3+2*(Ht.byteAt c p-184)else 1
def Yi(c:Ht.Bytes)(p:Nat):1<=DB c p:=by
 unfold DB
 split
 ·split<;>lia
 ·split
  ·lia
  ·split<;>lia
def HC(h:p<c.length):Ht.lengthAt c p=if p+DB c p<=c.length then some (DB c p)else none:=by
 unfold Ht.lengthAt DB
 generalize hb:Ht.byteAt c p=b
 dsimp only
 by_cases e1:b=64
 ·subst e1
  simp only[D8,true_or]
  by_cases e2:p+1=c.length
  ·rw[AG<|by lia,AI e2,AG<|by lia]
  ·rw[AI<|by lia,AG e2]
   simp only[Nat.reduceSub,qE]
 ·by_cases e2:b=65
  ·subst e2
   simp only[D8,or_true,Nat.reduceEqDiff,FH]
   by_cases e3:p+1=c.length
   ·rw[AG<|show ¬ p+1<c.length by lia,AI e3,AG<|show ¬ p+2<=c.length by lia]
   ·rw[AI<|show p+1<c.length by lia,AG e3]
  ·rw[AG e1,AG e2,AG<|show ¬(b=64\/b=65) by lia]
   by_cases e3:176<=b/\b<=183
   ·rw[AI e3,AI e3]
   ·rw[AG e3,AG e3]
    by_cases e4:184<=b/\b<=191
    ·rw[AI e4,AI e4,show 1+2*(b-184+1)=3+2*(b-184) by lia]
    ·rw[AG e4,AG e4]
inductive AAg(K:AS)(vs:List V)(H:Hp)(Q:VK)(E_:XK):Prop
 | mk: ∀ a c p,vs= [.ref a,.int (AD p)]->BF K H a (Tb c)->p<c.length->Q (.int (AD (DB c p))) H->AAg K vs H Q E_
def Zs :O0 P w base 1 29 ["code","place"] (AAg K):=by
 refine T.XY.F.DL ["code","place","byte"] fun H vs Q E hr h=>?_
 obtain⟨a,c,p,rfl,hl,hp,q⟩:=h
 refine⟨_,(AB (AO 2<|A9 Ab AH AV)<|AB (Aq (PW.pt<|Fy (A0 BD Aj AE)<|GL<|A0 BD Aj AE) (AB (Aq (A0 BD (AU BJ AV AE)<|Dc T.k.CD<|Af AH) (AF<|AY AE) AX)<|AF<|AY<|AU BJ AE<|AU Bb (AU B3 Aj AE)<|A9 Ab AH<|AU BJ AV AE) AX)<|AB (Aq (Kw IT IT AE Aj AE) (AF<|AY<|AU BJ AE<|AU B3 Aj AE) AX)<|AB (Aq (Kw IT IT AE Aj AE) (AF<|AY<|AU BJ AE<|AU Bb AE<|AU B3 Aj AE) AX)<|AF<|AY AE),hl,Ny hp,?_⟩
 have fin: ∀ x:Int,x=AD (DB c p)->Q (.int x) H:=fun x e=>e▸q
 unfold DB at fin
 have pair:p+1≠c.length->Wz (Tb c) (AD p+1)=some (.int<|AD<|Ht.byteAt c<|p+1):=fun n=>Ny<|by lia
 generalize hb:Ht.byteAt c p=b at*
 generalize hb2:Ht.byteAt c (p+1)=b2 at*
 have two:(b=64\/b=65)->xR (uJ (Y9<|iX rEq (iX (V3 fun i j=> .int<|i+j) (Jh 1)<|tC<|.int 1)<|tCB (ABJ K)<|J9 (Jh 0) Ua) (dt<|tC<|.int 2) Zw) (dt<|iX (V3 fun i j=> .int<|i+j) (tC<|.int 2)<|iX (rI tR fun i j=> .int<|i*j) (iX (V3 fun i j=> .int<|i-j) (Jh 2)<|tC<|.int 63)<|iX (vi K) (Jh 0)<|iX (V3 fun i j=> .int<|i+j) (Jh 1)<|tC<|.int 1) {nx:=fun _ H'=>Q .non H',rt:=Q} [some<|.ref a,some<|.int<|AD p,some<|.int<|AD b] H:=by
  intro e12
  rw[AI e12]at fin
  refine⟨.inl hl,rfl,A7 (fun e=>?_) fun e=>?_⟩
  ·have e':=V.int.inj (An e)
   rw[FI]at e'
   have e2:=B6 e'
   rw[AI e2]at fin
   exact fin _ rfl
  ·have e2:p+1≠c.length:=fun z=>e (Av<|by rw[FI,<-z];rfl)
   rw[AG e2]at fin
   refine⟨hl,pair e2,.inl<|by lia,fin _ ?_⟩
   have:(AD b-63)=AD (b-63):=by show(b:Int)-63=((b-63:Nat):Int);lia
   rw[this]
   rfl
 refine⟨rfl,A7 (fun e=>(two<|.inl<|B6<|V.int.inj<|An e)) fun e=>?_⟩
 have n1:b≠64:=fun z=>e<|Av<|by rw[z];rfl
 refine⟨rfl,A7 (fun e=>two<|.inr<|B6<|V.int.inj<|An e) fun e=>?_⟩
 have n2:b≠65:=fun z=>e<|Av<|by rw[z];rfl
 rw[AG<|by lia]at fin
 have third: ¬(176<=b/\b<=183)->xR (uJ (Y9<|b6 (V3 fun i j=> .bl<|decide (i<=j)) (V3 fun i j=> .bl<|decide (i<=j)) (tC<|.int 184) (Jh 2)<|tC<|.int 191) (dt<|iX (V3 fun i j=> .int<|i+j) (tC<|.int 3)<|iX (rI tR fun i j=> .int<|i*j) (tC<|.int 2)<|iX (V3 fun i j=> .int<|i-j) (Jh 2)<|tC<|.int 184) Zw) (dt<|tC<|.int 1) {nx:=fun _ H'=>Q .non H',rt:=Q} [some<|.ref a,some<|.int<|AD p,some<|.int<|AD b] H:=by
  intro n3
  rw[AG n3]at fin
  refine⟨_,rfl,A7 (fun e=>?_) fun e=>?_⟩
  ·have e3:=Bf.mp (An e)
   refine A7 (fun e=>?_) fun e=>?_
   ·have e4:=Bf.mp (An e)
    rw[AI ⟨e3,e4⟩]at fin
    refine⟨.inl ⟨by decide,by decide⟩,fin _ ?_⟩
    lia
   ·have e4: ¬ b<=191:=fun z=>e (Av<|Bf.mpr z)
    rw[AG fun z=>e4 z.2]at fin
    exact fin _ rfl
  ·have e3: ¬ 184<=b:=fun z=>e (Av<|Bf.mpr z)
   rw[AG fun z=>e3 z.1]at fin
   exact(fin _ rfl)
 refine⟨_,rfl,A7 (fun e=>?_) fun e=>(third fun z=>e<|Av<|Bf.mpr z.1)⟩
 ·have e3:=Bf.mp (An e)
  refine A7 (fun e=>?_) fun e=>third fun z=>e<|Av<|Bf.mpr z.2
  ·have e4:=Bf.mp (An e)
   rw[AI ⟨e3,e4⟩]at fin
   refine fin _ ?_
   lia
inductive gZ(K:AS)(vs:List V)(H:Hp)(Q:VK)(E:XK):Prop
 | mk: ∀ a c p,vs= [.ref a,.int (AD p)]->BF K H a (Tb c)->p<c.length->((c.length<p+DB c p->Ex E H 4))->((p+DB c p<=c.length->Q (.int (AD (p+DB c p))) H))->gZ K vs H Q E
def UM :OF P w base 3 30 ["code","place"] (gZ K):=by
 refine T.behind.F.V6 ["code","place","after"] fun H vs Q E hr h=>?_
 obtain⟨a,c,p,rfl,hl,hp,he,k⟩:=h
 refine⟨_,(AB (AO 2<|AU BJ AV<|Ah Zs T.XY<|Ax AH AV)<|AB (Aq (A0 DE Aj<|Dc T.k.CD<|Af AH) (AF<|CI T.c.fault BK (hr.mono<|by decide) outF rfl<|Af AE) AX)<|AF<|AY Aj),_,_,_,rfl,hl,hp,.inl hl,A7 (fun e=>?_) fun e=>?_⟩
 ·have e':=An e
  rw[FI]at e'
  exact⟨_,rfl,he<|BQ.mp e'⟩
 ·have e':=Ew (Eu.mpr e)
  rw[FI]at e'
  exact k<|Ej fun z=>e'<|BQ.mpr z
inductive ABe(K:AS)(vs:List V)(H:Hp)(Q:VK)(E:XK):Prop
 | mk: ∀ a c p e,vs= [.ref a,.int (AD p),.bl e]->BF K H a (Tb c)->p<=c.length->((∀ n,Ht.sought c e (c.length+1) p 0= .error n->Ex E H n))->((∀ q,Ht.sought c e (c.length+1) p 0= .ok q->Q (.int (AD q)) H))->ABe K vs H Q E
inductive ABh(K:AS)(vs:List V)(H:Hp)(Q:VK)(E:XK):Prop
 | mk: ∀ a c p,vs= [.ref a,.int (AD p)]->BF K H a (Tb c)->p<=c.length->((∀ n,Ht.ended c (c.length+1) p= .error n->Ex E H n))->((∀ q,Ht.ended c (c.length+1) p= .ok q->Q (.int (AD q)) H))->ABh K vs H Q E
noncomputable def slot1(σ:List (Option V)):Nat:=match σ.getD 1 none with
 | some (V.int i)=>i.toNat
 | _=>0
theorem lM(hn:c.length<p+n)(hp:c.length<=p)(hp2:p<=c.length):Ht.sought c e n p d= .error 4:=by
 cases n with
 | zero=>lia
 | succ n=>unfold Ht.sought;rw[AI hp];rfl
theorem jo(hp:p<c.length)(hn:c.length<p+n)(hk:c.length<p+DB c p):Ht.sought c e n p d= .error 4:=by
 cases n with
 | zero=>lia
 | succ n=>unfold Ht.sought;rw[AG<|by lia,HC hp,AG<|by lia];rfl
def VH(hp:p<c.length)(hk:p+DB c p<=c.length):Ht.sought c e (n+1) p d=
  if Ht.byteAt c p=0x58 then Ht.sought c e n (p+DB c p) (d+1)
  else if Ht.byteAt c p=0x59 then(if d=0 then .ok (p+DB c p)else Ht.sought c e n (p+DB c p) (d-1))
  else if Ht.byteAt c p=0x1B/\d=0/\e=true then .ok (p+DB c p)
  else Ht.sought c e n (p+DB c p) d:=by
 conv=>lhs;unfold Ht.sought
 rw[AG<|by lia,HC hp,AI hk]
theorem tm(hn:c.length<p+n)(hp:c.length<=p)(hp2:p<=c.length):Ht.ended c n p= .error 4:=by
 cases n with
 | zero=>lia
 | succ n=>unfold Ht.ended;rw[AI hp];rfl
theorem si(hp:p<c.length)(hn:c.length<p+n)(hk:c.length<p+DB c p):Ht.ended c n p= .error 4:=by
 cases n with
 | zero=>lia
 | succ n=>unfold Ht.ended;rw[AG<|by lia,HC hp,AG<|by lia];rfl
def Yh(hp:p<c.length)(hk:p+DB c p<=c.length):Ht.ended c (n+1) p=
  if Ht.byteAt c p=0x2C then .error 6 else if Ht.byteAt c p=0x2D then .ok (p+DB c p)else Ht.ended c n (p+DB c p):=by
 conv=>lhs;unfold Ht.ended
 rw[AG<|by lia,HC hp,AI hk]
 rfl
theorem OW: ∀{n p d q:Nat},Ht.sought c e n p d= .ok q->q<=c.length
 | 0,p,d,q,h=>by unfold Ht.sought at h;cases h
 | n+1,p,d,q,h=>by
  by_cases hp:p<c.length
  ·by_cases hk:p+DB c p<=c.length
   ·rw[VH hp hk]at h
    split at h
    ·exact OW h
    ·split at h
     ·split at h
      ·cases h;exact hk
      ·exact OW h
     ·split at h
      ·cases h;exact hk
      ·exact OW h
   ·unfold Ht.sought at h;rw[AG<|by lia,HC hp,AG hk]at h;cases h
  ·unfold Ht.sought at h;rw[AI<|by lia]at h;cases h
theorem hV: ∀{n p q:Nat},Ht.ended c n p= .ok q->q<=c.length
 | 0,p,q,h=>by unfold Ht.ended at h;cases h
 | n+1,p,q,h=>by
  by_cases hp:p<c.length
  ·by_cases hk:p+DB c p<=c.length
   ·rw[Yh hp hk]at h
    split at h
    ·cases h
    ·split at h
     ·cases h;exact hk
     ·exact hV h
   ·unfold Ht.ended at h;rw[AG<|by lia,HC hp,AG hk]at h;cases h
  ·unfold Ht.ended at h;rw[AI<|by lia]at h;cases h
def LM :OF P w base 4 31 ["code","place","else_ends"] (ABe K):=by
 refine T.KU.F.V6 ["code","place","else_ends","nested","byte"] fun H vs Q E hr h=>?_
 obtain⟨a,c,p,e,rfl,hl,hp,he,k⟩:=h
 refine⟨_,(AB (AO 3 AE)<|AB (JH PassesOwn.leaving (A0 Dq AV<|Dc T.k.CD<|Af AH)<|AB (AO 4<|A9 Ab AH AV)<|AB (AO 1<|Ah UM T.behind<|Ax AH AV)<|AF<|Aq (A0 BD CG<|Bt T.k.AGE) (AF<|iy 3 AE cu)<|AF<|Aq (PW.pt<|UP (A0 BD A6 AE)<|Oh<|PW.pt<|Fy (A0 BD CG<|Bt T.k.AAk)<|GL<|PW.pt<|UP (MN Aj)<|Oh<|A0 BD CG<|Bt T.k.ACC) (AF<|AY AV)<|AF<|Aq (A0 BD CG<|Bt T.k.AAk) (AF<|iy 3 AE ABD) AX)<|AF<|CI T.c.fault BK (hr.mono<|by decide) outF rfl<|Af AE),NP (fun σ H'=>H'=H/\ ∃(p' n' d:Nat) (x:Option V),σ= [some<|.ref a,some<|.int<|AD p',some<|.bl e,some<|.int<|AD d,x]/\p'<=c.length/\c.length<p'+n'/\Ht.sought c e n' p' d=Ht.sought c e (c.length+1) p 0) (fun σ _=>c.length-slot1 σ) ⟨rfl,p,c.length+1,0,none,rfl,hp,by lia,rfl⟩ ?_ fun σ H1 Q1 Q2 hq h=>Jg.mono h fun x h=>Jg.mono h fun y h=>QL.mono h fun p ⟨e,h⟩=>⟨e,RI.mono h fun i h=>hq _ _ h⟩⟩
 ·rintro σ H1 ⟨rfl,p',n',d,x,rfl,hp',hn,hs⟩
  refine⟨.inl hl,A7 (fun t=>?_) fun t=>?_⟩
  ·have t':=An t
   rw[FI]at t'
   have hlt:=BQ.mp t'
   refine⟨hl,Ny hlt,⟨_,_,_,rfl,hl,hlt,fun bad=>(he 4<|hs.symm.trans<|jo hlt hn bad),fun hk=>?_⟩⟩
   obtain⟨n'',rfl⟩: ∃ z,n'=z+1:=⟨n'-1,by lia⟩
   rw[VH hlt hk]at hs
   have lp:=Yi c p'
   have μ': ∀(y z u:Option V),c.length-slot1 [some<|.ref a,some<|.int<|AD<|p'+DB c p',y,z,u]<c.length-slot1 [some<|.ref a,some<|.int<|AD p',some<|.bl e,some<|.int<|AD d,x]:=fun y z u=>by
    show c.length- (p'+DB c p')<c.length-p'
    lia
   have fl:c.length<p'+DB c p'+n'':=by lia
   generalize hb:Ht.byteAt c p'=b at hs ⊢
   refine⟨rfl,A7 (fun t=>?_) fun t=>?_⟩
   ·rw[AI<|B6<|V.int.inj<|An t]at hs
    exact⟨_,rfl,_,_,rfl,rfl,⟨rfl,_,n'',d+1,_,rfl,hk,fl,hs⟩,μ' _ _ _⟩
   have n1: ¬ b=88:=fun z=>t<|Av<|by rw[z];rfl
   rw[AG n1]at hs
   refine⟨rfl,A7 (fun t=>?_) fun t=>?_⟩
   ·have d0:=B6 (V.int.inj<|An t)
    subst d0
    refine⟨rfl,A7 (fun t=>?_) fun t=>?_⟩
    ·have e2:=B6 (V.int.inj<|An t)
     rw[AI e2,AI rfl]at hs
     exact(k _ hs.symm)
    have n2: ¬ b=89:=fun z=>t<|Av<|by rw[z];rfl
    rw[AG n2]at hs
    cases e
    ·rw[AG fun z=>D2 z.2.2]at hs
     exact(⟨rfl,A7 (fun t=>absurd (B6<|V.int.inj<|An t) n2) fun t=>⟨⟨rfl,_,n'',0,_,rfl,hk,fl,hs⟩,μ' _ _ _⟩⟩)
    ·refine⟨rfl,A7 (fun t=>?_) fun t=>?_⟩
     ·rw[AI ⟨B6<|V.int.inj<|An t,rfl,rfl⟩]at hs
      exact k _ hs.symm
     ·have n3: ¬ b=27:=fun z=>t (Av<|by rw[z];rfl)
      rw[AG fun z=>n3 z.1]at hs
      exact⟨rfl,A7 (fun t=>absurd (B6<|V.int.inj<|An t) n2) fun t=>⟨⟨rfl,_,n'',0,_,rfl,hk,fl,hs⟩,μ' _ _ _⟩⟩
   ·have d1: ¬ d=0:=fun z=>t (Av<|by rw[z];rfl)
    refine⟨rfl,A7 (fun t=>?_) fun t=>?_⟩
    ·rw[AI<|B6<|V.int.inj<|An t,AG d1]at hs
     obtain⟨d',rfl⟩: ∃ z,d=z+1:=⟨d-1,by lia⟩
     refine⟨_,rfl,_,_,rfl,rfl,⟨rfl,_,n'',d',some<|.int<|AD b,?_,hk,fl,hs⟩,μ' _ _ _⟩
     show [some<|V.ref a,_,_,some<|V.int<|AD (d'+1)-1,_]= [some<|V.ref a,_,_,some<|V.int<|AD d',_]
     rw[show AD (d'+1)-1=AD d' by show((d'+1:Nat):Int)-1=(d':Int);lia]
    ·have n2: ¬ b=89:=fun z=>t (Av<|by rw[z];rfl)
     rw[AG n2,AG fun z=>d1 z.2.1]at hs
     exact⟨⟨rfl,_,n'',d,_,rfl,hk,fl,hs⟩,μ' _ _ _⟩
  ·have t':=Ew (Eu.mpr t)
   rw[FI]at t'
   exact⟨_,rfl,he 4<|hs.symm.trans<|lM hn (Ej fun z=>t'<|BQ.mpr z) hp'⟩
def QY :OF P w base 4 32 ["code","place"] (ABh K):=by
 refine T.Ml.F.V6 ["code","place","byte"] fun H vs Q E hr h=>?_
 obtain⟨a,c,p,rfl,hl,hp,he,k⟩:=h
 refine⟨_,(AB (JH PassesOwn.leaving (A0 Dq AV<|Dc T.k.CD<|Af AH)<|AB (AO 2<|A9 Ab AH AV)<|AB (AO 1<|Ah UM T.behind<|Ax AH AV)<|AB (Aq (A0 BD Aj<|Bt T.k.AB3) (AF<|CI T.c.fault BK (hr.mono<|by decide) outF rfl<|Af AE) AX)<|AF<|Aq (A0 BD Aj<|Bt T.k.ACX) (AF<|AY AV) AX)<|AF<|CI T.c.fault BK (hr.mono<|by decide) outF rfl<|Af AE),NP (fun σ H'=>H'=H/\ ∃(p' n':Nat) (x:Option V),σ= [some<|.ref a,some<|.int<|AD p',x]/\p'<=c.length/\c.length<p'+n'/\Ht.ended c n' p'=Ht.ended c (c.length+1) p) (fun σ _=>c.length-slot1 σ) ⟨rfl,p,c.length+1,none,rfl,hp,by lia,rfl⟩ ?_ fun σ H1 Q1 Q2 hq h=>Jg.mono h fun x h=>Jg.mono h fun y h=>QL.mono h fun p ⟨e,h⟩=>⟨e,RI.mono h fun i h=>hq _ _ h⟩⟩
 ·rintro σ H1 ⟨rfl,p',n',x,rfl,hp',hn,hs⟩
  refine⟨.inl hl,A7 (fun t=>?_) fun t=>?_⟩
  ·have t':=An t
   rw[FI]at t'
   have hlt:=BQ.mp t'
   refine⟨hl,Ny hlt,⟨_,_,_,rfl,hl,hlt,fun bad=>(he 4<|hs.symm.trans<|si hlt hn bad),fun hk=>?_⟩⟩
   obtain⟨n'',rfl⟩: ∃ z,n'=z+1:=⟨n'-1,by lia⟩
   rw[Yh hlt hk]at hs
   have lp:=Yi c p'
   generalize hb:Ht.byteAt c p'=b at hs ⊢
   refine⟨rfl,A7 (fun t=>?_) fun t=>?_⟩
   ·have e1:=B6 (V.int.inj<|An t)
    rw[AI e1]at hs
    exact⟨_,rfl,he 6 hs.symm⟩
   have n1: ¬ b=44:=fun z=>t<|Av<|by rw[z];rfl
   rw[AG n1]at hs
   refine⟨rfl,A7 (fun t=>?_) fun t=>?_⟩
   ·have e2:=B6 (V.int.inj<|An t)
    rw[AI e2]at hs
    exact k _ hs.symm
   ·have n2: ¬ b=45:=fun z=>t (Av<|by rw[z];rfl)
    rw[AG n2]at hs
    refine⟨⟨rfl,_,n'',_,rfl,hk,by lia,hs⟩,?_⟩
    show c.length- (p'+DB c p')<c.length-p'
    lia
  ·have t':=Ew (Eu.mpr t)
   rw[FI]at t'
   exact⟨_,rfl,he 4<|hs.symm.trans<|tm hn (Ej fun z=>t'<|BQ.mpr z) hp'⟩
end GF
end
section
namespace GF
open PySem PySem.Spec PyProof.Rows L2
section
variable{K:AS}{A:B4}{W W':Hp}{g:B2}{v v':Var}{m m':Ht.M}{H H':Hp}{Q:VK}{E:XK}{z:Fx}
def BX.fin(c:BX K A E z W v m H (.ok m'))(s:Bc W W')(h:R K A W' z.g v' m' H')(hs:m'.steps=m.steps:=by rfl):z.Q .non H':=c.q _ _ _ (fun b o e=>s b o<|c.s b o e) h (hs.trans c.hs)
theorem AEA: ∀ n (l:List Nat),l.Nodup->(∀ x∈l,x<n)->l.length<=n
 | 0,l,_,h=>by
  cases l with
  | nil=>exact BS _
  | cons a l=>have:=h a<|D0 ..;lia
 | n+1,l,nd,h=>by
  have:=AEA n (l.erase n) (nd.erase _) (fun x hx=>by
   have hx2:=(AAS nd).mp hx
   have:=h x hx2.2
   have:=hx2.1
   lia)
  rw[List.length_erase]at this
  split at this<;>lia
noncomputable def AFa:Key->Nat
 | .inl i=>i.toNat
 | .inr _=>0
def pig(n:Nat)(l:List Key)(nd:l.Nodup)(h: ∀ x∈l,∃ k,k<n/\x=IP (AD k)):l.length<=n:=by
 have q:=AEA n (l.map AFa) (nA.mpr<|y6 (fun{a b} ha hb ne=>by
  obtain⟨k,_,rfl⟩:=h a ha
  obtain⟨j,_,rfl⟩:=h b hb
  exact fun e=>ne<|BO (fun t:Nat=>(IP (AD t):Key))<|e) nd) (fun x hx=>by
   obtain⟨y,hy,e⟩:=Fd.mp hx
   obtain⟨k,hk,rfl⟩:=h y hy
   rw[<-e]
   exact hk)
 rwa[A8]at q
def vY(BU:List (Key×V))(k:Key)(x:V): ∀ p∈putK BU k x,p=(k,x)\/p∈BU:=by
 intro p hp
 unfold putK at hp
 split at hp
 ·obtain⟨q,hq,e⟩:=Fd.mp hp
  split at e
  ·rename_i e2;exact .inl<|by rw[<-e,e2]
  ·exact .inr<|e▸hq
 ·rcases L7.mp hp with q | q
  ·exact .inr q
  ·exact .inl<|gA.mp q
theorem zK{BU:List (Key×V)}{k:Key}{x:V}(hn:(BU.map (·.1)).Nodup):((putK BU k x).map (·.1)).Nodup:=by
 cases e:E2 BU k with
 | none=>exact zr x hn e
 | some y=>
  have a:(BU.any fun kv=>decide (kv.1=k))=true:=by rw[JX,e];rfl
  have:(putK BU k x).map (·.1)=BU.map (·.1):=by
   unfold putK
   rw[AI a,Oy]
   apply Oi
   intro q _
   show(if q.1=k then(q.1,x)else q).1=q.1
   split<;>rfl
  rw[this]
  exact hn
def Zh.put(h:Zh BU funs)(hn:n<256):Zh (putK BU (.inl<|AD n)<|.int<|AD p) ((n,p)::funs):=by
 obtain⟨h1,h2,h3,h4⟩:=h
 have keys: ∀ q∈putK BU (.inl<|AD n) (.int<|AD p),∃ n k:Nat,n<256/\q=(.inl<|AD n,.int<|AD k):=fun q hq=>by
  rcases vY _ _ _ q hq with e | e
  ·exact⟨n,p,hn,e⟩
  ·exact h3 q e
 have nd:=zK (k:= .inl<|AD n) (x:= .int<|AD p) h2
 refine⟨?_,nd,keys,fun j=>?_⟩
 ·have:=pig 256 _ nd (fun x hx=>by
   obtain⟨q,hq,e⟩:=Fd.mp hx
   obtain⟨a,b,ha,e2⟩:=keys q hq
   exact⟨a,ha,by rw[<-e,e2]⟩)
  rwa[A8]at this
 ·have q:=vG BU (.inl<|AD n) (.inl<|AD j) (V.int<|AD p)
  unfold E2 at q
  rw[q,h4 j,KJ]
  by_cases e:j=n
  ·subst e
   rw[AI rfl]
   simp
  ·rw[AG fun z=>e<|B6<|dA z]
   have:=Il.mpr fun z=>e z.symm
   rw[this]
def R.ACu(h:R K A W g v m H)(hf:g.kind= .font)(hn:n<256)(hp:p<=g.c.font.length):R K A W g {v with BU:=putK v.BU (.inl<|AD n)<|.int<|AD p} {m with funs:=(n,p)::m.funs} (upd H g.fn<|.dK<|putK v.BU (.inl<|AD n)<|.int<|AD p):=
 h.Ec .fn (AI hf) (AI hf) {h.good with
  fns:=fun z=>absurd hf z,Vk:=h.good.Vk.put hn,c6:=fun x hx=>by
                                rcases Cd.mp hx with q | q
                                ·rw[q];exact hp
                                ·exact h.good.c6 x q}
def Wr{y:Ht.Going}{l:List Ht.Going}:l.length<(y::l).length:=O1 _
def Rl{y:Ht.Going}{l:List Ht.Going}{j:Nat}(h:j<l.length):j<(y::l).length:=We h
def Xe{y:Ht.Going}{l:List Ht.Going}{j:Nat}(h: ¬ j<l.length)(ne:j≠l.length): ¬ j<(y::l).length:=by show ¬ j<l.length+1;lia
def fF{y:Ht.Going}{l:List Ht.Going}{d:Ht.Going}:(y::l).reverse.getD l.length d=y:=by
 rw[mr,Cc,V5<|by rw[Ek];exact BS _,Ek,Rp]
 rfl
def cZ{y:Ht.Going}{l:List Ht.Going}{d:Ht.Going}{j:Nat}(h:j<l.length):(y::l).reverse.getD j d=l.reverse.getD j d:=by
 rw[mr,Cc,WE<|by rw[Ek];exact h,Cc]
def R.ADg(h:R K A W g v m H)(e:m.going=y::l):H (v.K6 l.length)=some (.ins (A.cl 2) (v.fN l.length)<|Vo g y):=by
 have q:=h.fr<|by rw[e];exact O1 _
 rw[e,fF]at q
 exact q
def R.ACv(h:R K A W g v m H)(e:m.going=y::l)(x:Int):R K A W g v {m with going:={y with left:=x}::l} (upd H (v.K6 l.length)<|.ins (A.cl 2) (v.fN l.length)<|DI "left" (.int x)<|Vo g y):=by
 refine h.Ec (.fr l.length) (o:= .ins (A.cl 2) (v.fN l.length)<|Vo g y) ?_ ?_ (s:=fun u hu=>?_) {h.good with going:=?_,jV:=?_,br:=?_}
 ·simp only[want]
  rw[e,AI Wr,fF]
 ·show(if l.length<({y with left:=x}::l:List Ht.Going).length then some (v.K6 l.length,HO.ins (A.cl 2) (v.fN l.length)<|Vo g<|({y with left:=x}::l:List Ht.Going).reverse.getD l.length ⟨0,0,0,false⟩)else none)=_
  rw[AI Wr,fF]
  rfl
 ·have:=h.good.going;rw[e]at this;exact this
 ·have q:=h.good.jV;rw[e]at q
  intro z hz
  rcases Cd.mp hz with r | r
  ·rw[r];exact q y<|D0 ..
  ·exact q z<|C0 _ r
 ·have q:=h.good.br;rw[e]at q;exact q
 ·cases u with
  | CM=>simp only[want];rw[e];rfl
  | fr j=>
   have ne:j≠l.length:=fun q=>hu<|by rw[q]
   show(if j<({y with left:=x}::l:List Ht.Going).length then some (v.K6 j,HO.ins (A.cl 2) (v.fN j)<|Vo g<|({y with left:=x}::l:List Ht.Going).reverse.getD j ⟨0,0,0,false⟩)else none)=(if j<m.going.length then some (v.K6 j,HO.ins (A.cl 2) (v.fN j)<|Vo g<|m.going.reverse.getD j ⟨0,0,0,false⟩)else none)
   rw[e]
   by_cases q:j<l.length
   ·rw[AI<|Rl q,AI<|Rl q,cZ q,cZ q]
   ·rw[AG<|Xe q ne,AG<|Xe q ne]
  | _=>rfl
def R.AEy(h:R K A W g v m H)(e:m.going=y::l):R K A W g v {m with going:=l} (upd H g.CM<|.lst<|(BM l.length).map fun j=> .ref<|v.K6 j):=by
 have e0:want A g v m .CM=some (g.CM,.lst<|(BM m.going.length).map fun j=> .ref<|v.K6 j):=rfl
 have gd:=h.good
 refine h.core (fun _=>none) (fun t a o et=>?_) (fun a o ea=>⟨by rw[AQ<|h.Q6 e0 ea];exact h.sub _ _ ea,.inr ⟨rfl,_,ea⟩⟩) {gd with going:=?_,jV:=?_,br:=?_}
 ·by_cases ht:t= .CM
  ·subst ht
   cases et
   exact⟨AJ,.inr ⟨rfl,_,e0⟩⟩
  ·have et2:want A g v m t=some (a,o):=by
    cases t with
    | fr j=>
     have et':(if j<l.length then some (v.K6 j,HO.ins (A.cl 2) (v.fN j)<|Vo g<|l.reverse.getD j ⟨0,0,0,false⟩)else none)=some (a,o):=et
     by_cases q:j<l.length
     ·rw[AI q]at et'
      show(if j<m.going.length then some (v.K6 j,HO.ins (A.cl 2) (v.fN j)<|Vo g<|m.going.reverse.getD j ⟨0,0,0,false⟩)else none)=some (a,o)
      rw[e,AI<|Rl q,cZ q]
      exact et'
     ·rw[AG q]at et';cases et'
    | CM=>exact absurd rfl ht
    | _=>exact et
   exact⟨by rw[AQ<|h.apart e0 et2 ht];exact h.at_ et2,.inr ⟨rfl,_,et2⟩⟩
 ·have:=gd.going;rw[e]at this;exact MW this
 ·have q:=gd.jV;rw[e]at q
  exact fun z hz=>q z<|C0 _ hz
 ·have q:=gd.br;rw[e]at q
  rw[q.1]
  exact q.2.tt
structure RO(A:B4)(W:Hp)(g:B2)(v:Var)(m:Ht.M)(H:Hp):Prop where
 o: ∃ O:AK->Tag,(∀ t a o,want A g v m t=some (a,o)->H a=some o/\O a=t)/\ ∀ a o,W a=some o->H a=some o/\O a= .rest
def R.ro(h:R K A W g v m H):RO A W g v m H:=⟨h.o⟩
def RO.at_(h:RO A W g v m H){t:Tag}{o:HO}(e:want A g v m t=some (a,o)):H a=some o:=by
 obtain⟨O,h1,_⟩:=h.o
 exact(h1 t a o e).1
def RO.run(h:RO A W g v m H):H g.run=some (.ins (A.cl 1) g.Q9<|DU g v m):=h.at_ (t:= .run) rfl
def RO.Ec(h:RO A W g v m H)(t:Tag){a:AK}{o o':HO}(e:want A g v m t=some (a,o))(e':want A g v' m' t=some (a,o'))(s: ∀ u,u≠t->want A g v' m' u=want A g v m u):RO A W g v' m' (upd H a o'):=by
 obtain⟨O,h1,h2⟩:=h.o
 refine⟨O,fun u b ob eb=>?_,fun b ob eb=>?_⟩
 ·by_cases hu:u=t
  ·subst hu
   rw[e']at eb
   cases eb
   exact⟨AJ,(h1 u a o e).2⟩
  ·rw[s u hu]at eb
   have ne:b≠a:=fun q=>hu<|by rw[q]at eb;exact(h1 u a ob eb).2.symm.trans (h1 t a o e).2
   exact⟨by rw[AQ ne];exact(h1 u b ob eb).1,(h1 u b ob eb).2⟩
 ·have ne:b≠a:=fun q=>bQ e (by rw[q]at eb;exact(h1 t a o e).2.symm.trans (h2 a ob eb).2)
  exact⟨by rw[AQ ne];exact(h2 b ob eb).1,(h2 b ob eb).2⟩
def RO.cF(h:RO A W g v m H)(t u:Tag){a l:AK}{o o' ou:HO}(f:H l=none)(e:want A g v m t=some (a,o))(e':want A g v' m' t=some (a,o'))(eu:want A g v' m' u=some (l,ou))
  (s: ∀ x,x≠t->x≠u->want A g v' m' x=want A g v m x) (tu:u≠t):RO A W g v' m' (upd (upd H l ou) a o'):=by
 obtain⟨O,h1,h2⟩:=h.o
 have al:=Ac (h1 t a o e).1 f
 refine⟨fun b=>if b=l then u else O b,fun x b ob eb=>?_,fun b ob eb=>?_⟩
 ·by_cases hx:x=t
  ·subst hx
   rw[e']at eb
   cases eb
   exact⟨AJ,(AG al).trans (h1 x a o e).2⟩
  ·by_cases hu:x=u
   ·subst hu
    rw[eu]at eb
    cases eb
    exact⟨by rw[AQ al.symm];exact AJ,AI rfl⟩
   ·rw[s x hx hu]at eb
    have n:=Ac (h1 x b ob eb).1 f
    have ne:b≠a:=fun q=>hx<|by rw[q]at eb;exact(h1 x a ob eb).2.symm.trans (h1 t a o e).2
    exact⟨by rw[AQ ne,AQ n];exact(h1 x b ob eb).1,(AG n).trans (h1 x b ob eb).2⟩
 ·have n:=Ac (h2 b ob eb).1 f
  have ne:b≠a:=fun q=>bQ e<|by rw[q]at eb;exact(h1 t a o e).2.symm.trans (h2 a ob eb).2
  exact⟨by rw[AQ ne,AQ n];exact(h2 b ob eb).1,(AG n).trans (h2 b ob eb).2⟩
noncomputable def gU(v:Var)(n:Nat)(x dx:AK):Var:={v with K6:=fun j=>if j=n then x else v.K6 j,fN:=fun j=>if j=n then dx else v.fN j}
def AAR:(BM n).map (fun j=>V.ref<|(gU v n x dx).K6 j)=(BM n).map fun j=> .ref (v.K6 j):=by
 apply Oi
 intro j hj
 have:j≠n:=DP<|O_.mp hj
 show V.ref (if j=n then x else v.K6 j)=_
 rw[AG this]
def RO.ABn(h:RO A W g v m H){y:Ht.Going}(f:H x=none):
  RO A W g (gU v m.going.length x dx) {m with going:=y::m.going} (upd (upd H x<|.ins (A.cl 2) dx<|Vo g y) g.CM<|.lst<|(BM m.going.length).map (fun j=>V.ref<|v.K6 j)++ [.ref x]):=by
 refine h.cF .CM (.fr m.going.length) f rfl ?_ ?_ (fun u hu hw=>?_)<|by intro z;cases z
 ·show some (g.CM,HO.lst<|(BM<|m.going.length+1).map fun j=>V.ref<|(gU v m.going.length x dx).K6 j)=_
  rw[Ha,FF,AAR]
  show some (g.CM,HO.lst<|_++ [V.ref<|if m.going.length=m.going.length then x else v.K6 m.going.length])=_
  rw[AI rfl]
 ·show(if m.going.length<(y::m.going).length then some ((gU v m.going.length x dx).K6 m.going.length,HO.ins (A.cl 2) ((gU v m.going.length x dx).fN m.going.length)<|Vo g<|(y::m.going).reverse.getD m.going.length ⟨0,0,0,false⟩)else none)=_
  rw[AI Wr,fF]
  show some ((if m.going.length=m.going.length then x else _),HO.ins (A.cl 2) (if m.going.length=m.going.length then dx else _)<|Vo g y)=_
  rw[AI rfl,AI rfl]
 ·cases u with
  | fr j=>
   have ne:j≠m.going.length:=fun q=>hw<|by rw[q]
   show(if j<(y::m.going).length then some ((if j=m.going.length then x else v.K6 j),HO.ins (A.cl 2) (if j=m.going.length then dx else v.fN j)<|Vo g<|(y::m.going).reverse.getD j ⟨0,0,0,false⟩)else none)=(if j<m.going.length then some (v.K6 j,HO.ins (A.cl 2) (v.fN j)<|Vo g<|m.going.reverse.getD j ⟨0,0,0,false⟩)else none)
   rw[AG ne,AG ne]
   by_cases q:j<m.going.length
   ·rw[AI<|Rl q,AI q,cZ q]
   ·rw[AG<|Xe q ne,AG q]
  | CM=>exact absurd rfl hu
  | _=>rfl
end
end GF
end
section
namespace GF
open PySem PySem.Spec PyProof.Rows L2
variable{P:BH}{w:Ap}{K:AS}{mg:Str->Option AN}{base:Ay}{A:B4}[T:Txt K mg A]
section
variable{W W':Hp}{g:B2}{v:Var}{m:Ht.M}{H:Hp}{Q:VK}{E:XK}{z:Fx}{a:AK}{c:Ht.Bytes}{p:Nat}{e:Bool}
def AEv(k:BX K A E z W v m H (Ht.on (Ht.sought c e (c.length+1) p 0) F))(hl:BF K H a (Tb c))(hp:p<=c.length)(q: ∀ j,j<=c.length->BX K A E z W v m H (F j)->Q (.int<|AD j) H):ABe K [.ref a,.int<|AD p,.bl e] H Q E:=
 ⟨a,c,p,e,rfl,hl,hp,fun n h=>(k.to<|lV h).raise,fun j h=>q j (OW h)<|k.to<|uu h⟩
def AFp(k:BX K A E z W v m H (Ht.on (Ht.ended c (c.length+1) p) F))(hl:BF K H a (Tb c))(hp:p<=c.length)(q: ∀ j,j<=c.length->BX K A E z W v m H (F j)->Q (.int<|AD j) H):ABh K [.ref a,.int<|AD p] H Q E:=
 ⟨a,c,p,rfl,hl,hp,fun n h=>(k.to<|lV h).raise,fun j h=>q j (hV h)<|k.to<|uu h⟩
end
noncomputable def JQ(g:B2)(m:Ht.M):Ht.R Ht.M:=tk m fun m a=>if a=0 then Ht.on (Ht.sought (codeB g m.inFont) true ((codeB g m.inFont).length+1) m.place 0) fun q=> .ok {m with place:=q}else .ok m
noncomputable def JL(g:B2)(m:Ht.M):Ht.R Ht.M:=Ht.on (Ht.sought (codeB g m.inFont) false ((codeB g m.inFont).length+1) m.place 0) fun q=> .ok {m with place:=q}
noncomputable def SG(g:B2)(m:Ht.M):Ht.R Ht.M:= .ok m
def VJ :OA P w base 5 33 JQ:=by
 refine T.Sg.F.act ["run"] fun H Q E W g v m hr hb c=>⟨_,(AF<|Aq (A0 BD (BI AH AM T.AZ) AE) (AF<|BC AH<|Ah LM T.KU<|CH (AR AH) (AR AH) au) AX),c.rn,Al,Am c fun a s1 H1 i1 c=>⟨rfl,Ho c (fun e c=>?_) fun e c=>c.done⟩⟩
 ·refine⟨c.rn,AL,FZ,c.rn,AL,He,AEv c (BF.of<|c.h.codeAt _) c.h.good.place fun q hq c=>⟨c.rn,AL,(B8 rfl),?_⟩⟩
  replace c:=c.go same_refl<|c.h.JW q hq
  exact c.done
def P2 :OA P w base 5 34 JL:=by
 refine T.K5.F.act ["run"] fun H Q E W g v m hr hb c=>⟨_,(AF<|BC AH<|Ah LM T.KU<|CH (AR AH) (AR AH) au),c.rn,AL,FZ,c.rn,AL,He,AEv c (BF.of<|c.h.codeAt _) c.h.good.place fun q hq c=>⟨c.rn,AL,(B8 rfl),?_⟩⟩
 replace c:=c.go same_refl<|c.h.JW q hq
 exact c.done
def Zu :OB P w base 1 35 SG:=by
 exact T.Yj.F.ko ["run"] fun H Q E W g v m hr hb c=>⟨_,(AF AAJ),c.done⟩
noncomputable def xf(g:B2)(m:Ht.M)(t:Int):Ht.R Ht.M:=if t<0 then .error 4 else if AD (Tb<|codeB g m.inFont).length<t then .error 4 else .ok {m with place:=t.toNat}
inductive AAw(K:AS)(A:B4)(vs:List V)(H:Hp)(Q':VK)(E:XK):Prop
 | mk: ∀ z W v m o,vs= [.ref z.g.run,.int o]->BX K A E z W v m H (xf z.g m (AD z.g.place+o))->(∀ H',z.Q .non H'->Q' .non H')->AAw K A vs H Q' E
noncomputable def ABC(K:AS)(A:B4):Sp:=AAw K A
def iY :OF P w base 3 36 ["run","offset"] (ABC K A):=by
 refine T.ue.F.V6 ["run","offset","place"] fun H vs Q E hr h=>?_
 obtain⟨z,W,v,m,o,rfl,c,k⟩:=h
 refine⟨_,(AB (AO 2<|AU BJ (AR AH) AV)<|AB (Aq (PW.pt<|Fy (A0 Dq Aj AE)<|GL<|A0 DE Aj<|Dc T.k.CD<|Af<|AR AH) (AF<|CI T.c.fault BK (hr.mono<|by decide) outF rfl<|Af AE) AX)<|AF<|BC AH Aj),c.rn,AL,HY,ER c (fun e1 c=>⟨_,rfl,fun d hd=>c.raise d hd⟩) fun e1 c=>?_⟩
 ·refine⟨c.rn,AL,FZ,.inl<|BF.of<|c.h.codeAt _,ER c (fun e2 c=>⟨_,rfl,fun d hd=>c.raise d hd⟩) fun e2 c=>?_⟩
  ·obtain⟨n,hn⟩:=ACa (show 0<=AD z.g.place+o by lia)
   rw[hn]at e2 c
   refine⟨c.rn,AL,(B8 rfl),?_⟩
   have e3:n<=(codeB z.g m.inFont).length:=by
    have q:=dh.mp e2
    rw[FI]at q
    exact Bf.mp q
   have h1:=c.h.JW n e3
   rw[<-hn]at h1
   exact k _<|c.fin same_refl h1
def AEY(c:BX K A E z W v m H (xf z.g m<|AD z.g.place+o))(k: ∀ H',z.Q .non H'->Q .non H'):ABC K A [.ref z.g.run,.int o] H Q E:=by
 unfold ABC
 exact⟨z,W,v,m,o,rfl,c,k⟩
noncomputable def k7(g:B2)(m:Ht.M):Ht.R Ht.M:=tk m fun m a=>xf g m (AD g.place+a)
noncomputable def K2(g:B2)(m:Ht.M):Ht.R Ht.M:=tk m fun m a=>tk m fun m o=>if(!decide (V.int a=V.int 0))=decide (V.int (AD g.byte)=V.int 120)then xf g m (AD g.place+o)else .ok m
def zx :OA P w base 4 37 k7:=by
 exact T.ADi.F.act ["run"] fun H Q E W g v m hr hb c=>⟨_,(AF<|Ad<|Ah iY T.ue<|Ax AH<|BI AH AM T.AZ),c.rn,Al,Am c fun a s1 H1 i1 c=>AEY c fun H1 q=>q⟩
def XR :OA P w base 4 38 K2:=by
 exact T.fb.F.act ["run","asked","offset"] fun H Q E W g v m hr hb c=>⟨_,(AB (AO 1<|BI AH AM T.AZ)<|AB (AO 2<|BI AH AM T.AZ)<|AF<|Aq (A0 BD (IG Ep AV AE)<|IG BD (AR AH) AE) (AF<|Ad<|Ah iY T.ue<|Ax AH Aj) AX),c.rn,Al,Am c fun a s1 H1 i1 c=>⟨c.rn,Al,Am c fun o s2 H2 i2 c=>⟨rfl,c.rn,AL,BL,rfl,rfl,AAx c (fun e c=>AEY c fun H1 q=>q) fun e c=>c.done⟩⟩⟩
noncomputable def OL(g:B2)(m:Ht.M):Ht.R Ht.M:=if kI g.kind=0 then(tk m fun m a=>wi a 256 fun j=>if(0:Int)<AD ((BM m.going.length).map fun j=>V.ref j).length then .error 6 else
 Ht.on (Ht.ended (codeB g m.inFont) ((codeB g m.inFont).length+1) m.place) fun q=> .ok {m with funs:=(j,m.place)::m.funs,place:=q})else .error 5
def nI(h:kI k=0):k= .font:=by cases k<;>first | rfl |(exact absurd h<|by decide)
def Z8 :OA P w base 5 39 OL:=by
 refine T.define.F.act ["run","number"] fun H Q E W g v m hr hb c=>⟨_,(AB (Aq (A0 Ep (AR AH)<|Bt T.k.ku) (AF<|CI T.c.fault BK (hr.mono<|by decide) outF rfl<|Af AE) AX)<|AB (AO 1<|Ah Cn T.within<|Ax (BI AH AM T.AZ)<|Bt T.k.LI)<|AB (Aq (A0 DE (Dc T.k.CD<|Af<|AR AH) AE) (AF<|CI T.c.fault BK (hr.mono<|by decide) outF rfl<|Af AE) AX)<|AB (zP (AAm hr) (AR AH) AV (AR AH) rfl)<|AF<|BC AH<|Ah QY T.Ml<|Ax (AR AH)<|AR AH),c.rn,AL,jf,rfl,UW c (fun e c=>?_) fun e c=>⟨_,rfl,fun d hd=>c.raise d hd⟩⟩
 ·have hk:=nI e
  refine⟨c.rn,Al,Am c fun a s1 H1 i1 c=>DV c fun w1 c=>?_⟩
  have le:(((BM m.going.length).map fun j=>V.ref<|v.K6 j).length:Int)=AD ((BM m.going.length).map fun j=>V.ref j).length:=by rw[A8,A8];rfl
  refine⟨c.rn,AL,JN,.inl<|BF.of c.h.CM,?_⟩
  rw[le]
  refine ER c (fun e2 c=>⟨_,rfl,fun d hd=>c.raise d hd⟩) fun e2 c=>?_
  ·have fd:H1 g.fn=some (.dK v.BU):=c.h.at_ (t:= .fn) (AI hk)
   have pl:m.place<=g.c.font.length:=by
    have q:=c.h.good.place
    have e4:codeB g m.inFont=g.c.font:=by
     unfold codeB
     split
     ·rfl
     ·exact(c.h.good.fk hk).2
    rw[e4]at q
    exact q
   refine⟨c.rn,AL,He,c.rn,AL,U8,_,_,rfl,wA.k (k:= .inl<|AD<|Ht.unsigned a) fd<|Er c.h.good.Vk.1<|by decide,?_⟩
   have c2:=c.go same_refl<|c.h.ACu hk w1 pl
   refine⟨c2.h.run,AL,FZ,c2.h.run,AL,He,AFp c2 (BF.of<|c2.h.codeAt _) c2.h.good.place fun q hq c=>⟨c.rn,AL,(B8 rfl),?_⟩⟩
   replace c:=c.go same_refl<|c.h.JW q hq
   exact c.done
inductive AAn(C:AK)(vs:List V)(H:Hp)(Q:VK)(E_:XK):Prop
 | mk: ∀ p dx a b c d e,vs= [.ref p,a,b,c,d,e]->H p=some (.ins C dx [])->Q .non (upd H p (.ins C dx [("code",a),("whose",b),("back",c),("start",d),("left",e)]))->AAn C vs H Q E_
def ZG :O0 P w base 1 28 ["self","code","whose","back","start","left"] (AAn<|A.cl 2):=by
 refine T.Xx.1.DL ["self","code","whose","back","start","left"] fun H vs Q E hr h=>?_
 obtain⟨p,dx,a,b,c,d,e,rfl,hp,q⟩:=h
 refine⟨_,(AB (BC AH AV)<|AB (BC AH Aj)<|AB (BC AH A6)<|AB (BC AH CG)<|AF<|BC AH ET),hp,Eb,(B8 rfl),AJ,Eb,(B8 rfl),AJ,Eb,(B8 rfl),AJ,Eb,(B8 rfl),AJ,Eb,(B8 rfl),?_⟩
 rw[Bk,Bk,Bk,Bk]
 exact q
noncomputable def Eg(g:B2)(m:Ht.M):Ht.R Ht.M:=match m.going with
 | []=> .error 6
 | y::l=>if 0<y.left-1 then .ok {m with going:={y with left:=y.left-1}::l,place:=y.start}else .ok {m with going:=l,place:=y.back,inFont:=y.backFont}
def sX{xs:List V}{a:V}:(xs++ [a])[(xs++ [a]).length-1]?=some a:=by simp
def c_{v:Var}:(((BM n).map fun j=>V.ref<|v.K6 j).length:Int)=AD n:=by
 rw[A8,CO]
 rfl
def vK{v:Var}:((BM<|n+1).map fun j=>V.ref<|v.K6 j)=((BM n).map fun j=>V.ref<|v.K6 j)++ [.ref<|v.K6 n]:=by
 rw[Ha,FF]
 rfl
theorem Vi [T:Txt K mg A]:OA P w base 3 40 Eg:=by
 refine T.Sn.F.act ["run","frame"] fun H Q E W g v m hr hb c=>⟨_,(AB (Aq (A0 BD (Dc T.k.CD<|Af<|AR AH) AE) (AF<|CI T.c.fault BK (hr.mono<|by decide) outF rfl<|Af AE) AX)<|AB (AO 1<|A9 Ab (AR AH)<|LG G2 AE)<|AB (O7 AV AE ABT)<|AB (Aq (A0 DE (AR AV) AE) (AB (BC AH<|AR AV)<|AF f6) AX)<|AB (Ad<|eU FK WB Vq kN<|AR AH)<|AB (BC AH<|AR AV)<|AB (BC AH<|AR AV)<|AF<|BC AH<|AR AV),c.rn,AL,JN,.inl<|BF.of c.h.CM,rfl,?_⟩
 rw[c_]
 cases eg:m.going with
 | nil=>
  have c2:=c.to<|by unfold Eg;rw[eg]
  exact⟨_,rfl,fun d hd=>c2.raise d hd⟩
 | cons y l=>
  have c2:=c.to<|by unfold Eg;rw[eg]
  have hfr:=c.h.ADg eg
  have hfs:=c.h.CM
  rw[eg]at hfs
  have hfs':H g.CM=some (.lst<|((BM l.length).map fun j=>V.ref<|v.K6 j)++ [.ref<|v.K6 l.length]):=by rw[<-vK];exact hfs
  refine⟨c.rn,AL,JN,BF.of hfs',vC _ _,hfr,Eb,ow,_,_,rfl,rfl,hfr,(B8 rfl),?_⟩
  have h1:=c.h.ACv eg<|y.left-1
  have hf1:(upd H (v.K6 l.length)<|.ins (A.cl 2) (v.fN l.length)<|DI "left" (.int<|y.left-1)<|Vo g y) (v.K6 l.length)=some (.ins (A.cl 2) (v.fN l.length)<|Vo g {y with left:=y.left-1}):=AJ
  have go:=c.h.good.jV
  rw[eg]at go
  have gy:=go y<|D0 ..
  have gc:=c.h.good.br
  rw[eg]at gc
  refine⟨hf1,Eb,ow,ER c2 (fun e c=>?_) fun e c=>?_⟩
  ·refine⟨hf1,Eb,xJ,h1.run,AL,(B8 rfl),?_⟩
   have h2:=h1.JW y.start<|by show y.start<=(codeB g m.inFont).length;rw[gc.1];exact gy.1
   exact c.fin same_refl h2
  ·have neS:=aW hfr hfs' (by intro z;cases z)
   have neR:v.K6 l.length≠g.run:=c2.h.apart (t:= .run) (u:= .fr l.length) rfl (AI<|by rw[eg];exact Wr)<|by intro z;cases z
   have hfs1:(upd H (v.K6 l.length)<|.ins (A.cl 2) (v.fN l.length)<|DI "left" (.int<|y.left-1)<|Vo g y) g.CM=some (.lst<|((BM l.length).map fun j=>V.ref<|v.K6 j)++ [.ref<|v.K6 l.length]):=by rw[AQ neS.symm];exact hfs'
   refine⟨h1.run,AL,JN,.inl ⟨rfl,_,BF.of hfs1⟩,_,_,_,rfl,rfl,hfs1,sX,?_⟩
   rw[mS]
   have h2:=h1.AEy rfl
   have hf2:=(AQ (o:= .lst<|(BM l.length).map fun j=> .ref<|v.K6 j) neS).trans hf1
   refine⟨hf2,Eb,AAN,h2.run,AL,(B8 rfl),((AQ neR).trans hf2),Eb,xP,AJ,AL,(B8 rfl),((AQ neR).trans<|(AQ neR).trans hf2),Eb,yi,AJ,AL,(B8 rfl),?_⟩
   rw[Bk,Bk]
   exact c.fin same_refl<|h2.Ec .run rfl rfl<|{h2.good with place:=gy.2,br:=gc.2}
noncomputable def aI(g:B2)(m:Ht.M)(n f:Int):Ht.R Ht.M:=wi f 256 fun j=>match(m.funs.find? fun x=>x.1==j)with
 | none=> .error 3
 | some x=>if n<1 then .ok m else if AD m.going.length=8 then .error 6 else .ok {m with going:=⟨n,x.2,m.place,m.inFont⟩::m.going,place:=x.2,inFont:=true}
inductive iE(K:AS)(A:B4)(vs:List V)(H:Hp)(Q':VK)(E:XK):Prop
 | mk: ∀ z W v m n f,vs= [.ref z.g.run,.int f,.int n]->BX K A E z W v m H (aI z.g m n f)->(∀ H',z.Q .non H'->Q' .non H')->iE K A vs H Q' E
noncomputable def di(K:AS)(A:B4):Sp:=iE K A
def R.fnAt(h:R K A W g v m H):H g.fn=some (.dK v.BU):=by
 by_cases e:g.kind= .font
 ·exact h.at_ (t:= .fn)<|AI e
 ·exact h.sub _ _<|h.good.fns e
theorem iq [T:Txt K mg A]:OF P w base 4 41 ["run","number","times"] (di K A):=by
 refine T.enter.F.V6 ["run","number","times","start"] fun H vs Q E hr h=>?_
 obtain⟨z,W,v,m,n,f,rfl,c,k⟩:=h
 refine⟨_,(AB (AO 3<|vB (AAm hr) (AR AH) (Ah Cn T.within<|Ax AV<|Bt T.k.LI) ⟨rfl,rfl,rfl,rfl⟩)<|AB (Aq (KW<|Kg A6) (AF<|CI T.c.fault BK (hr.mono<|by decide) outF rfl<|Af AE) AX)<|AB (Aq (A0 Dq Aj AE) (AF f6) AX)<|AB (Aq (A0 BD (Dc T.k.CD<|Af<|AR AH)<|Bt T.k.VZ) (AF<|CI T.c.fault BK (hr.mono<|by decide) outF rfl<|Af AE) AX)<|AB (Ad<|VD FK RX TN LU (AR AH)<|Af<|Fw T.c.yc ZG (hr.mono<|by decide) rfl T.c.zY T.Xx.2 .nil Gp<|Cs (AR AH)<|RQ (AR AH) (AR AH) A6 Aj)<|AB (BC AH<|AR AH)<|AB (BC AH AE)<|AF<|BC AH A6),c.rn,AL,U8,_,rfl,.inl ⟨_,.inl c.h.fnAt⟩,DV c fun w1 c=>?_⟩
 have fnf:E2 v.BU (.inl<|AD<|Ht.unsigned f)=(m.funs.find? fun x=>x.1==Ht.unsigned f).map fun x=>V.int (AD x.2):=c.h.good.Vk.2.2.2<|Ht.unsigned f
 refine⟨_,vQ.k (k:= .inl<|AD<|Ht.unsigned f) c.h.fnAt,?_⟩
 rw[fnf]
 cases ef:(m.funs.find? fun x=>x.1==Ht.unsigned f)with
 | none=>
  have c2:=c.to<|show(match(m.funs.find? fun x=>x.1==Ht.unsigned f)with
   | none=> .error 3
   | some x=>if n<1 then .ok m else if AD m.going.length=8 then .error 6 else .ok {m with going:=⟨n,x.2,m.place,m.inFont⟩::m.going,place:=x.2,inFont:=true})=(.error 3:Ht.R Ht.M) by rw[ef]
  exact⟨_,rfl,fun d hd=>c2.raise d hd⟩
 | some x=>
  have c2:=c.to<|show(match(m.funs.find? fun x=>x.1==Ht.unsigned f)with
   | none=> .error 3
   | some x=>if n<1 then .ok m else if AD m.going.length=8 then .error 6 else .ok {m with going:=⟨n,x.2,m.place,m.inFont⟩::m.going,place:=x.2,inFont:=true})=((if n<1 then .ok m else if AD m.going.length=8 then .error 6 else .ok {m with going:=⟨n,x.2,m.place,m.inFont⟩::m.going,place:=x.2,inFont:=true}):Ht.R Ht.M) by rw[ef]
  have xin:=c.h.good.c6 x<|Wd ef
  refine ER c2 (fun e1 c=>k _ c.done) fun e1 c=>?_
  refine⟨c.rn,AL,JN,.inl<|BF.of c.h.CM,rfl,?_⟩
  rw[c_]
  refine Ho c (fun e2 c=>⟨_,rfl,fun d hd=>c.raise d hd⟩) fun e2 c=>?_
  have hl:m.going.length<8:=by
   have q:=c.h.good.going
   have:m.going.length≠8:=fun z=>e2<|by rw[z];rfl
   lia
  refine⟨c.rn,AL,JN,.inl ⟨rfl,_,BF.of c.h.CM⟩,c.rn,AL,FZ,c.rn,AL,qR,c.rn,AL,He,fun p dx np nd ned=>⟨p,dx,_,_,_,_,_,rfl,AJ,rfl,?_⟩⟩
  rw[Bk]
  have h0:=c.h.new (o:= .own p) nd
  have np':(upd H dx<|.own p) p=none:=by rw[AQ ned.symm];exact np
  have hfs:(upd (upd H dx<|.own p) p<|.ins (A.cl 2) dx<|Vo z.g ⟨n,x.2,m.place,m.inFont⟩) z.g.CM=some (.lst<|(BM m.going.length).map fun j=>V.ref<|v.K6 j):=(h0.new np').CM
  refine⟨hfs,(by rw[A8,CO];exact HH hl<|by decide),?_⟩
  have h1:=h0.ro.ABn (y:=⟨n,x.2,m.place,m.inFont⟩) (dx:=dx) np'
  refine⟨h1.run,AL,ABL,h1.run,AL,(B8 rfl),AJ,AL,(B8 rfl),AJ,AL,(B8 rfl),?_⟩
  rw[Bk,Bk]
  exact k _<|c.fin same_refl ⟨(h1.Ec .run rfl rfl fun u hu=>by cases u<;>first | rfl | exact absurd rfl hu).o,{h0.good with going:=hl,jV:=(fun w hw=>(Cd.mp hw).elim (fun r=>by rw[r];exact⟨xin,h0.good.place⟩) fun r=>h0.good.jV w r),br:=⟨rfl,h0.good.br⟩,place:=xin}⟩
def lr(c:BX K A E z W v m H (aI z.g m n f))(k: ∀ H',z.Q .non H'->Q .non H'):di K A [.ref z.g.run,.int f,.int n] H Q E:=by
 unfold di
 exact⟨z,W,v,m,n,f,rfl,c,k⟩
noncomputable def NS(g:B2)(m:Ht.M):Ht.R Ht.M:=tk m fun m f=>aI g m 1 f
noncomputable def MY(g:B2)(m:Ht.M):Ht.R Ht.M:=tk m fun m f=>tk m fun m n=>aI g m n f
def cR :OA P w base 5 42 NS:=by
 exact T.bJ.F.act ["run"] fun H Q E W g v m hr hb c=>⟨_,(AF<|Ad<|Ah iq T.enter<|CH AH (BI AH AM T.AZ) AE),c.rn,Al,Am c fun a s1 H1 i1 c=>lr c fun H1 q=>q⟩
def ZQ :OA P w base 5 43 MY:=by
 exact T.Xy.F.act ["run","number","times"] fun H Q E W g v m hr hb c=>⟨_,(AB (AO 1<|BI AH AM T.AZ)<|AB (AO 2<|BI AH AM T.AZ)<|AF<|Ad<|Ah iq T.enter<|CH AH AV Aj),c.rn,Al,Am c fun a s1 H1 i1 c=>⟨c.rn,Al,Am c fun o s2 H2 i2 c=>lr c fun H1 q=>q⟩⟩
end GF
end
section
namespace GF
open PySem PySem.Spec PyProof.Rows L2
section
variable{K:AS}{A:B4}{W W' Wl:Hp}{g:B2}{v v':Var}{m m':Ht.M}{H H':Hp}{Q:VK}{E E':XK}{z:Fx}{r:Ht.R Ht.M}{y i:Nat}{d:Int}{w x:Ht.Pos}{a:AK}
noncomputable def Kp(m m':Ht.M):Prop:= ∀ y i,y<2->i<(m.zone y).size->i<(m'.zone y).size
def zM(hy:y<2):Kp m (m.move y i d):=fun y' i' h1 h2=>by rw[bD hy h1];exact h2
def gL(hy:y<2):Kp m (m.shift t y i w):=fun y' i' h1 h2=>by rw[Qi hy h1];exact h2
def ABM(hy:y<2):Kp m (m.put y i w):=fun y' i' h1 h2=>by rw[Yg hy h1];exact h2
def ya(hy:y<2):Kp m (m.mark y i f):=fun y' i' h1 h2=>by rw[bO hy h1];exact h2
def DY(c:BX K A E z W v m H r)(hy:y<2)(hi:i<(m.zone y).size)(k: ∀ W' v' H',Bc W W'->Kp m (m.move y i d)->BX K A E z W' v' (m.move y i d) H' r->Q .non H'):c9 K A [.ref z.g.run,.ref<|z.g.pp y i,.int d] H Q E':=
 ACw c hy hi fun W' v' H' s c=>k W' v' H' s (zM hy) c
def cp(c:BX K A E z W v m H r)(hy:y<2)(hi:i<(m.zone y).size)(t:Dh K W a (pV w))(k: ∀ v' H',Kp m (m.shift true y i w)->BX K A E z W v' (m.shift true y i w) H' r->Q .non H'):i6 K A [.ref z.g.run,.ref<|z.g.pp y i,.ref a] H Q E':=
 AER c hy hi t fun v' H' c=>k v' H' (gL hy) c
def xT(c:BX K A E z W v m H r)(hy:y<2)(hi:i<(m.zone y).size)(t:Pair K H a x)(e:c2 x=w)(k: ∀ v' H',Kp m (m.put y i w)->BX K A E z W v' (m.put y i w) H' r->Q .non H'):xE K (A.cl 3) [.ref<|z.g.pp y i,.ref a] H Q E':=by
 refine⟨_,_,_,_,a,_,x,rfl,c.h.pt hy hi,t,fun lo ln h1 h2 ne=>k (Pe v y i lo ln) _ (ABM hy) ?_⟩
 have iw:LJ w:=e▸⟨Du _,Du _⟩
 rw[wM,e]
 exact c.go same_refl (c.h.AEU hy hi iw h1 h2 ne) Fg EY
def oU(c:BX K A E z W v m H r)(hy:y<2)(hi:i<(m.zone y).size)(t:Dh K W a (pV w))(k: ∀ v' H',Kp m (m.shift false y i w)->BX K A E z W v' (m.shift false y i w) H' r->Q .non H'):fm K (A.cl 3) [.ref<|z.g.pp y i,.ref a] H Q E':=by
 refine⟨_,_,_,_,a,_,(m.zone y).at_ i,w,rfl,c.h.pt hy hi,c.h.pn hy hi,BY c.h.sub t,fun ln h1=>k (Pe v y i (v.lo y i) ln) _ (gL hy) ?_⟩
 rw[YX false hy]
 exact c.go same_refl (c.h.vp hy hi (jH ((m.zone y).at_ i) w) h1) Fg EY
def dC(c:BX K A E z W v m H r)(hy:y<2)(hi:i<(m.zone y).size)(e: ∀ x,x<8->f (AD x) q=AD (fn x)/\fn x<8)(k: ∀ H',Kp m (m.mark y i fn)->BX K A E z W v (m.mark y i fn) H' r->Q .non H'):eL (A.cl 3) f [.ref<|z.g.pp y i,.int q] H Q E':=by
 have em:=e _<|KO c.h.good hy hi
 refine⟨_,_,_,_,_,q,rfl,c.h.pt hy hi,?_⟩
 rw[em.1]
 refine k _ (ya hy) ?_
 rw[WD]
 exact c.go same_refl (c.h.km hy hi em.2) Fg EY
def qi(x:Int):Ht.cut (Ht.cut x)=Ht.cut x:=by unfold Ht.cut;lia
def uZ{x:Int}(h:FN x):Ht.cut x=x:=by unfold FN at h;unfold Ht.cut;lia
def ADs(h:LJ x):c2 x=x:=by
 obtain⟨a,b⟩:=x
 show(Ht.cut a,Ht.cut b)=(a,b)
 rw[uZ h.1,uZ h.2]
def uc:c2 (Ht.times c f)=Ht.times c f:=by
 unfold c2 Ht.times
 rw[qi,qi]
noncomputable def Jn(K:AS)(A:B4)(E:XK)(z:Fx)(Wl:Hp)(S:List (Option V)->Prop)(X:Hp->Ht.M->Prop)(B:Int->Ht.M->(Ht.M->Ht.R Ht.M)->Ht.R Ht.M)(F:Ht.M->Ht.R Ht.M)(rest:List Int)(σ:List (Option V))(H:Hp):Prop:=
 S σ/\ ∃ W v m,Bc Wl W/\X W m/\BX K A E z W v m H (Dp B rest m F)
theorem uO{x:V}(h:(iV l)[i]?=some x): ∃ a,x= .int a/\l.drop i=a::l.drop (i+1):=by
 unfold iV at h
 rw[CY]at h
 cases e:l[i]? with
 | none=>rw[e]at h;cases h
 | some a=>
  rw[e]at h
  cases h
  have hi:i<l.length:=by
   rcases Dd i l.length with q | q
   ·exact q
   ·rw[EG q]at e;cases e
  refine⟨a,rfl,?_⟩
  rw[Ws hi]
  rw[CS hi]at e
  cases e
  rfl
def YK{gg:TG}{tb:TS}{D:Ends}(hl:Wl l=some (.lst<|iV nums))
  (S:List (Option V)->Prop) (X:Hp->Ht.M->Prop) (h0:Jn K A E z Wl S X B F nums σ H)
  (hs: ∀ a rest σ W v m H,a∈nums->S σ->Bc Wl W->X W m->BX K A E z W v m H (B a m fun m=>Dp B rest m F)->gg (.int a) σ H fun σ2 H2=>tb {D with nx:=Jn K A E z Wl S X B F rest,ct:=Jn K A E z Wl S X B F rest,bk:=D.nx} σ2 H2)
  (hd: ∀ σ W v m H,S σ->Bc Wl W->X W m->BX K A E z W v m H (F m)->D.nx σ H):
  ∃ W:Nat->Nat->List (Option V)->Hp->Prop,(∃ m,W 0 m σ H)/\ ∀ i m σ H,W i m σ H->
   ((mZ K l).stop i H/\D.nx σ H)\/((mZ K l).go i H/\ ∃ N:List (Option V)->Hp->Prop,(∀ σ' H',N σ' H'-> ∃ m',m'<m/\W (i+1) m' σ' H')/\ ∀ x H',(mZ K l).uC i H x H'->gg x σ H' fun σ2 H2=>tb {D with nx:=N,ct:=N,bk:=D.nx} σ2 H2):=by
 refine SN (K:=K) (a:=l) (xs:=iV nums) (fun i σ H=>Jn K A E z Wl S X B F (nums.drop i) σ H) (by rw[G0];exact h0) ?_ ?_ ?_
 ·rintro i σ H _ ⟨_,W,v,m,s,_,c⟩
  exact BF.of<|c.h.sub _ _<|s _ _ hl
 ·rintro i x σ H hx ⟨hS,W,v,m,s,hX,c⟩
  obtain⟨a,rfl,e⟩:=uO hx
  rw[e]at c
  exact hs a _ σ W v m H (List.mem_of_mem_drop<|by rw[e];exact D0 ..) hS s hX c
 ·rintro σ H ⟨hS,W,v,m,s,hX,c⟩
  rw[show(iV nums).length=nums.length from Bq,bw]at c
  exact hd σ W v m H hS s hX c
end
end GF
end
section
namespace GF
open PySem PySem.Spec PyProof.Rows L2
variable{P:BH}{w:Ap}{K:AS}{mg:Str->Option AN}{base:Ay}{A:B4}[T:Txt K mg A]
inductive Yn(K:AS)(A:B4)(vs:List V)(H:Hp)(Q:VK)(E:XK):Prop
 | mk: ∀ z W v m r E' x,vs= [.ref z.g.run,.int x]->BX K A E' z W v m H r->FN x->(∀ H',BX K A E' z W v {m with r0:=x,r1:=x} H' r->Q .non H')->Yn K A vs H Q E
def Hw(c:BX K A E z W v m H r)(i:FN x)(k: ∀ H',BX K A E z W v {m with r0:=x,r1:=x} H' r->Q .non H'):Yn K A [.ref z.g.run,.int x] H Q E':=⟨z,W,v,m,r,E,x,rfl,c,i,k⟩
inductive Xo(K:AS)(A:B4)(vs:List V)(H:Hp)(Q':VK)(E:XK):Prop
 | mk: ∀ z W v m x F,vs= [.ref z.g.run,.int x]->BX K A E z W v m H (wi x (iV m.values).length F)->((Ht.unsigned x<(iV m.values).length->BX K A E z W v m H (F (Ht.unsigned x))->Q' (.int (m.values.getD (Ht.unsigned x) 0)) H))->Xo K A vs H Q' E
noncomputable def a7(K:AS)(A:B4):Sp:=Xo K A
def aY(c:BX K A E z W v m H (wi x (iV m.values).length F))(k:Ht.unsigned x<(iV m.values).length->BX K A E z W v m H (F<|Ht.unsigned x)->Q (.int<|m.values.getD (Ht.unsigned x) 0) H):a7 K A [.ref z.g.run,.int x] H Q E:=⟨z,W,v,m,x,F,rfl,c,k⟩
inductive Xm(K:AS)(A:B4)(vs:List V)(H:Hp)(Q:VK)(E:XK):Prop
 | mk: ∀ W g v m x,vs= [.ref g.run,.int x]->R K A W g v m H->Q (.int (m.single x)) H->Xm K A vs H Q E
def gK(c:BX K A E z W v m H r)(k:Q (.int<|m.single x) H):Xm K A [.ref z.g.run,.int x] H Q E':=⟨W,z.g,v,m,x,rfl,c.h,k⟩
noncomputable def RY(m:Ht.M)(c o:Int):Int:=m.round (if AD m.z0=AD m.z1 then(if m.kept.cutin<(if c-o<0 then-(c-o)else c-o)then o else c)else c)
inductive wb(K:AS)(A:B4)(vs:List V)(H:Hp)(Q:VK)(E:XK):Prop
 | mk: ∀ W g v m x o,vs= [.ref g.run,.int x,.int o]->R K A W g v m H->Q (.int (RY m x o)) H->wb K A vs H Q E
def bL(c:BX K A E z W v m H r)(k:Q (.int<|RY m x o) H):wb K A [.ref z.g.run,.int x,.int o] H Q E':=⟨W,z.g,v,m,x,o,rfl,c.h,k⟩
noncomputable def jt(l o d:Int):Int:=if 0<=o then(if d<l then l else d)else if-l<d then Ht.cut (-l)else d
inductive Y5(K:AS)(A:B4)(vs:List V)(H:Hp)(Q:VK)(E:XK):Prop
 | mk: ∀ z W v m r E' x b,vs= [.ref z.g.run,.int x,.bl b]->BX K A E' z W v m H r->FN x->(∀ H',BX K A E' z W v (m.after x b) H' r->Q .non H')->Y5 K A vs H Q E
def SQ(c:BX K A E z W v m H r)(i:FN x)(k: ∀ H',BX K A E z W v (m.after x b) H' r->Q .non H'):Y5 K A [.ref z.g.run,.int x,.bl b] H Q E':=⟨z,W,v,m,r,E,x,b,rfl,c,i,k⟩
inductive ud(K:AS)(A:B4)(vs:List V)(H:Hp)(Q:VK)(E:XK):Prop
 | mk: ∀ z W v m r E' y i y' i' a w,vs= [.ref (z.g.pp y i),.ref (z.g.pp y' i'),.ref a]->BX K A E' z W v m H r->(y<2/\i<(m.zone y).size)->(y'<2/\i'<(m.zone y').size)->Dh K W a (pV w)->(∀ v' H',Kp m (m.put y i (Ht.plus ((m.zone y').was i') w))->BX K A E' z W v' (m.put y i (Ht.plus ((m.zone y').was i') w)) H' r->Q .non H')->ud K A vs H Q E
def AAe{w:Ht.Pos}(c:BX K A E z W v m H r)(hy:y<2)(hi:i<(m.zone y).size)(hy':y'<2)(hi':i'<(m.zone y').size)(t:Dh K W a (pV w))
  (k: ∀ v' H',Kp m (m.put y i<|Ht.plus ((m.zone y').was i') w)->BX K A E z W v' (m.put y i<|Ht.plus ((m.zone y').was i') w) H' r->Q .non H'):ud K A [.ref<|z.g.pp y i,.ref<|z.g.pp y' i',.ref a] H Q E':=⟨z,W,v,m,r,E,y,i,y',i',a,w,rfl,c,⟨hy,hi⟩,⟨hy',hi'⟩,t,k⟩
def ae :O0 P w base 1 68 ["run","number"] (Yn K A):=by
 refine T.anchor.F.DL ["run","number"] fun H vs Q E hr h=>?_
 obtain⟨z,W,v,m,r,E',x,rfl,c,i,k⟩:=h
 refine⟨_,(AB (Hz AV<|Hx (AR AH) AE set_list)<|AF<|Hz AV<|Hx (AR AH) AE set_list),c.rn,AL,CK,_,_,_,0,rfl,rfl,c.h.refs,rfl,?_⟩
 replace c:=c.go same_refl<|c.h.dE i
 refine⟨c.rn,AL,CK,_,_,_,1,rfl,rfl,c.h.refs,rfl,?_⟩
 replace c:=c.go same_refl<|c.h.bU i
 exact k _ c
def P_ :OF P w base 4 70 ["run","number"] (a7 K A):=by
 refine T.Q3.F.V6 ["run","number","controls"] fun H vs Q E hr h=>?_
 obtain⟨z,W,v,m,x,F,rfl,c,k⟩:=h
 exact⟨_,(AB (AO 2<|AR<|AR AH)<|AF<|AY<|A9 Ab Aj<|Ah Cn T.within<|Ax AV<|Dc T.k.CD<|Af Aj),c.rn,AL,A_,c.h.gr,AW,Hj,.inl<|BF.of c.h.Cq,DV c fun w1 c=>⟨BF.of c.h.Cq,vo w1,k w1 c⟩⟩
def ACD(x:Int):(if x<0 then-x else x)=AD x.natAbs:=by
 split
 ·show-x=(x.natAbs:Int);lia
 ·show x=(x.natAbs:Int);lia
def JC :O0 P w base 2 72 ["run","distance"] (Xm K A):=by
 refine T.IJ.F.DL ["run","distance","kept"] fun H vs Q E hr h=>?_
 obtain⟨W,g,v,m,x,rfl,h,k⟩:=h
 refine⟨_,(AB (AO 2<|AR<|AR AH)<|AB (Aq (A0 Ut (EU Hq rfl T.k.Uo OT<|Af<|AU B3 AV<|AR Aj)<|AR Aj) (AF<|AY AV) AX)<|AF<|AY<|Bm (A0 Ut AV AE) (AR Aj)<|Ah Dx T.cut<|Af<|LG G2<|AR Aj),?_⟩
 unfold Ht.M.single Ht.nearer at k
 refine⟨h.run,AL,A_,h.gr,AW,DX,h.kp,BG,OR,_,rfl,h.kp,BG,IF,?_⟩
 rw[ACD]
 refine A7 (fun e=>?_) fun e=>?_
 ·rw[AG<|by rw[Lz];lia]at k
  exact k
 ·rw[AI<|Av<|by lia]at k
  refine A7 (fun e2=>?_) fun e2=>?_
  ·rw[AG<|by lia]at k
   exact⟨h.kp,BG,OR,k⟩
  ·rw[AI<|by lia]at k
   exact⟨h.kp,BG,OR,_,rfl,trivial,k⟩
def jC :O0 P w base 2 73 ["least","original","distance"] (kj (fun _ _ _=>True) jt):=by
 refine T.g8.F.DL ["least","original","distance"] fun H vs Q E hr h=>?_
 obtain⟨l,o,d,rfl,_,k⟩:=h
 refine⟨_,(AB (Aq (PW.pt<|UP (A0 Ut AV AE)<|Oh<|A0 Dq Aj AH) (AF<|AY AH) AX)<|AB (Aq (PW.pt<|UP (A0 Dq AV AE)<|Oh<|A0 DE Aj<|LG G2 AH) (AF<|AY<|Ah Dx T.cut<|Af<|LG G2 AH) AX)<|AF<|AY Aj),?_⟩
 unfold jt at k
 refine A7 (fun e=>?_) fun e=>?_
 ·have e1:=An e
  rw[AI e1]at k
  refine A7 (fun e=>?_) fun e=>?_
  ·have e2:=An e
   rw[AI e2]at k
   exact k
  ·have e2:=Ew (Eu.mpr e)
   rw[AG e2]at k
   exact A7 (fun e=>absurd (An e)<|dh.mpr e1) fun e=>k
 ·have e1:=Ew (Eu.mpr e)
  rw[AG e1]at k
  rw[AG D2]
  refine A7 (fun e=>?_) fun e=>absurd (Av<|Int.not_le.mp e1) e
  ·refine A7 (fun e=>?_) (fun e=>?_)
   ·have e2:=An e
    rw[AI e2]at k
    exact⟨_,rfl,trivial,k⟩
   ·rw[AG<|Ew<|Eu.mpr e]at k
    exact k
def bA :O0 P w base 1 74 ["run","number","leads"] (Y5 K A):=by
 refine T.kM.F.DL ["run","number","leads"] fun H vs Q E hr h=>?_
 obtain⟨z,W,v,m,r,E',x,b,rfl,c,i,k⟩:=h
 refine⟨_,(AB (Hz (A9 Ab (AR AH) AE)<|Hx (AR AH) AE set_list)<|AB (Hz AV<|Hx (AR AH) AE set_list)<|AF<|Aq (MN Aj) (AF<|Hz AV<|Hx (AR AH) AE set_list) AX),c.rn,AL,CK,BF.of c.h.refs,rfl,c.rn,AL,CK,_,_,_,1,rfl,rfl,c.h.refs,rfl,?_⟩
 replace c:=c.go same_refl<|c.h.bU c.h.good.r0
 refine⟨c.rn,AL,CK,_,_,_,2,rfl,rfl,c.h.refs,rfl,?_⟩
 replace c:=c.go same_refl<|c.h.mH i
 cases b
 ·exact(k _ c)
 ·refine⟨c.rn,AL,CK,_,_,_,0,rfl,rfl,c.h.refs,rfl,?_⟩
  replace c:=c.go same_refl<|c.h.dE i
  exact k _ c
def Xn :O0 P w base 6 77 ["run","control","original"] (wb K A):=by
 refine T.U2.F.DL ["run","control","original","same_zone"] fun H vs Q E hr h=>?_
 obtain⟨W,g,v,m,x,o,rfl,h,k⟩:=h
 refine⟨_,(AB (AO 3<|IG BD (A9 Ab (AR AH) AE)<|A9 Ab (AR AH) AE)<|AB (Aq (PW.pt<|UP (MN A6)<|Oh<|A0 DE (EU Hq rfl T.k.Uo OT<|Af<|AU B3 AV Aj)<|AR<|AR<|AR AH) (AF<|AO 1 Aj) AX)<|AF<|AY<|Be AH Cb T.Cm<|Af AV),?_⟩
 unfold RY at k
 refine⟨h.run,AL,C8,BF.of h.Bj,rfl,h.run,AL,C8,BF.of h.Bj,rfl,rfl,A7 (fun e=>?_) fun e=>?_⟩
 ·rw[AI<|V.int.inj<|An e]at k
  refine⟨_,rfl,h.run,AL,A_,h.gr,AW,DX,h.kp,BG,K3,A7 (fun e=>?_) fun e=>?_⟩
  ·rw[AI<|An e]at k
   exact⟨h.run,CB,OX h k⟩
  ·rw[AG<|Ew<|Eu.mpr e]at k
   exact⟨h.run,CB,OX h k⟩
 ·rw[AG fun z=>e<|Av<|BO V.int z]at k
  exact⟨h.run,CB,OX h k⟩
def LL :O0 P w base 3 78 ["point","base","step"] (ud K A):=by
 refine T.Kb.F.DL ["point","base","step"] fun H vs Q E hr h=>?_
 obtain⟨z,W,v,m,r,E',y,i,y',i',a,w,rfl,c,⟨hy,hi⟩,⟨hy',hi'⟩,t,k⟩:=h
 refine⟨_,(AF<|Ad<|Be AH Ly T.Om<|Af<|JK<|Ax (AU BJ (A9 Ab (AR AV) AE)<|A9 By Aj AE)<|AU BJ (A9 Ab (AR AV) AE)<|A9 By Aj AE),?_⟩
 have tH:=BY c.h.sub t
 refine⟨c.h.pt hy hi,kq,c.h.pt hy' hi',Aa,Bx _ _ _,BF.of<|c.h.po hy' hi',rfl,tH,rfl,c.h.pt hy' hi',Aa,Bx _ _ _,BF.of<|c.h.po hy' hi',rfl,tH,rfl,(by show 2<=sizeLine;decide),fun p hp=>?_⟩
 replace c:=c.new (o:= .tup<|pV (((m.zone y').was i').1+w.1,((m.zone y').was i').2+w.2)) hp
 exact xT (x:=(((m.zone y').was i').1+w.1,((m.zone y').was i').2+w.2)) (w:=Ht.plus ((m.zone y').was i') w) c hy hi (.inr<|Dh.of AJ) rfl k
noncomputable def Hg(g:B2)(m:Ht.M)(n o d:Int):Ht.R Ht.M:=(if(Dg (AD g.byte) 8)=0 then wi n (m.zone<|zp m 1).size fun j3=>wi (rp m 0) (m.zone<|zp m 0).size fun j6=>let m1:Ht.M:=m.move (zp m 1) j3<|d- (m.now2 (zp m 1) j3 (zp m 0) j6);let m2:Ht.M:=m1.after n<|!decide (V.int ((Dg (AD g.byte) 16))=V.int (0));.ok m2 else wi n (m.zone<|zp m 1).size fun j15=>wi (rp m 0) (m.zone<|zp m 0).size fun j18=>let m3:Ht.M:=m.move (zp m 1) j15<|(jt m.kept.least o d)- (m.now2 (zp m 1) j15 (zp m 0) j18);let m4:Ht.M:=m3.after n<|!decide (V.int ((Dg (AD g.byte) 16))=V.int (0));.ok m4)
inductive nZ(K:AS)(A:B4)(vs:List V)(H:Hp)(Q':VK)(E:XK):Prop
 | mk: ∀ z W v m n o d,vs= [.ref z.g.run,.int n,.int o,.int d]->BX K A E z W v m H (Hg z.g m n o d)->FN n->(∀ H',z.Q .non H'->Q' .non H')->nZ K A vs H Q' E
noncomputable def lN(K:AS)(A:B4):Sp:=nZ K A
def Mr :OF P w base 7 75 ["run","number","original","distance"] (lN K A):=by
 refine T.LV.F.V6 ["run","number","original","distance","point"] fun H vs Q E hr h=>?_
 obtain⟨z,W,v,m,n,o,d,rfl,c,hn,k⟩:=h
 refine⟨_,(AB (Aq (A0 Ep (AU Tf (AR AH) AE) AE) (AF<|AO 3<|Ah jC T.g8<|CH (AR<|AR<|AR AH) Aj A6) AX)<|AB (AO 4<|Be AH A5 T.BV<|Ax AE AV)<|AB (Ad<|Ah HR T.move<|CH AH CG<|AU B3 A6<|Ah DS T.D_<|CH AH CG<|Be AH CN T.Cw<|Ax AE AE)<|AF<|Ad<|Ah bA T.kM<|CH AH AV<|IG Ep (AU Tf (AR AH) AE) AE),c.rn,AL,BL,rfl,UW c (fun e1 c=>?_) fun e1 c=>?_⟩
 ·refine⟨c.rn,B5,B9 c (by decide) fun p2 c=>?_⟩
  have z4:=Ci c.h.good 1
  refine⟨c.rn,DF,HJ c (by decide) (by decide) fun p5 c=>?_⟩
  have z7:=Ci c.h.good 0
  refine MA c z4 p2 z7 p5 fun H8 c=>DY c z4 p2 fun W9 v10 H11 sm12 kp c=>?_
  replace p2:=kp _ _ z4 p2
  replace p5:=kp _ _ z7 p5
  exact⟨c.rn,AL,BL,rfl,SQ c hn fun H13 c=>k _ c.done⟩
 ·refine⟨c.rn,AL,A_,c.h.gr,AW,DX,c.h.kp,BG,YE,_,_,_,rfl,trivial,c.rn,B5,B9 c (by decide) fun p14 c=>?_⟩
  have z16:=Ci c.h.good 1
  refine⟨c.rn,DF,HJ c (by decide) (by decide) fun p17 c=>?_⟩
  have z19:=Ci c.h.good 0
  refine MA c z16 p14 z19 p17 fun H20 c=>DY c z16 p14 fun W21 v22 H23 sm24 kp c=>?_
  replace p14:=kp _ _ z16 p14
  replace p17:=kp _ _ z19 p17
  exact⟨c.rn,AL,BL,rfl,SQ c hn fun H25 c=>k _ c.done⟩
def Fz(c:BX K A E z W v m H (Hg z.g m n o d))(i:FN n)(k: ∀ H',z.Q .non H'->Q .non H'):lN K A [.ref z.g.run,.int n,.int o,.int d] H Q E:=by
 unfold lN
 exact⟨z,W,v,m,n,o,d,rfl,c,i,k⟩
noncomputable def Dn(g:B2)(m:Ht.M):Ht.R Ht.M:=tk m fun m1 a1=>wi a1 (m1.zone<|zp m1 2).size fun j6=>(if(AD g.byte)=70 then gv m1 (m1.now1 (zp m1 2) j6) fun m2=> .ok m2 else gv m1 (m1.old1 (zp m1 2) j6) fun m3=> .ok m3)
def JT :OA P w base 6 62 Dn:=by
 refine T.IL.F.act ["run","point"] fun H Q E W g v m hr hb c=>⟨_,(AB (AO 1<|Be AH A5 T.BV<|Ax AE<|BI AH AM T.AZ)<|AF<|Ad<|Be AH A1 T.BW<|Af<|Bm (A0 BD (AR AH) AE) (Ah Ox T.Yx<|Ax AH AV)<|Ah tG T.uK<|Ax AH AV),c.rn,B5,c.rn,Al,Am c fun a1 s2 H3 i4 c=>B9 c (by decide) fun p5 c=>?_⟩
 have z7:=Ci c.h.good 2
 refine⟨c.rn,B1,c.rn,AL,BL,rfl,Ho c (fun e8 c=>?_) fun e8 c=>?_⟩
 ·exact X6 c z7 p5<|Bp c fun H9 e10 c=>c.done
 ·exact AC4 c z7 p5<|Bp c fun H11 e12 c=>c.done
noncomputable def G6(g:B2)(m:Ht.M):Ht.R Ht.M:=tk m fun m1 a1=>tk m1 fun m2 a5=>wi a5 (m2.zone<|zp m2 2).size fun j10=>let m3:Ht.M:=m2.move (zp m2 2) j10<|a1- (m2.now1 (zp m2 2) j10);(if(AD m3.z2)=0 then let m4:Ht.M:=m3.put (zp m2 2) j10<|(m3.zone<|zp m2 2).at_ j10;.ok m4 else .ok m3)
def TZ :OA P w base 6 63 G6:=by
 refine T.NK.F.act ["run","wanted","point"] fun H Q E W g v m hr hb c=>⟨_,(AB (AO 1<|BI AH AM T.AZ)<|AB (AO 2<|Be AH A5 T.BV<|Ax AE<|BI AH AM T.AZ)<|AB (Ad<|Ah HR T.move<|CH AH Aj<|AU B3 AV<|Ah Ox T.Yx<|Ax AH Aj)<|AF<|Aq (A0 BD (A9 Ab (AR AH) AE) AE) (AF<|Ad<|Be Aj Ly T.Om<|Af<|AR Aj) AX),c.rn,Al,Am c fun a1 s2 H3 i4 c=>⟨c.rn,B5,c.rn,Al,Am c fun a5 s6 H7 i8 c=>B9 c (by decide) fun p9 c=>?_⟩⟩
 have z11:=Ci c.h.good 2
 refine X6 c z11 p9<|DY c z11 p9 fun W12 v13 H14 sm15 kp c=>?_
 replace p9:=kp _ _ z11 p9
 refine⟨c.rn,AL,C8,BF.of c.h.Bj,rfl,rfl,Ho c (fun e16 c=>?_) fun e16 c=>c.done⟩
 ·refine⟨c.h.pt z11 p9,kq,c.h.pt z11 p9,Aa,CF _ _ _,xT c z11 p9 (.inl<|BF.of<|c.h.pn z11 p9) (ADs<|Ln c.h.good z11 p9) fun v17 H18 kp c=>?_⟩
  replace p9:=kp _ _ z11 p9
  exact c.done
noncomputable def EK(g:B2)(m:Ht.M):Ht.R Ht.M:=tk m fun m1 a1=>tk m1 fun m2 a5=>wi a5 (m2.zone<|zp m2 0).size fun j10=>wi a1 (m2.zone<|zp m2 1).size fun j13=>(if(AD g.byte)=73 then gv m2 (m2.now2 (zp m2 0) j10 (zp m2 1) j13) fun m3=> .ok m3 else gv m2 (m2.old2 (zp m2 0) j10 (zp m2 1) j13) fun m4=> .ok m4)
def Kq :OA P w base 6 64 EK:=by
 refine T.KY.F.act ["run","second","point","base"] fun H Q E W g v m hr hb c=>⟨_,(AB (AO 1<|BI AH AM T.AZ)<|AB (AO 2<|Be AH A5 T.BV<|Ax AE<|BI AH AM T.AZ)<|AB (AO 3<|Be AH A5 T.BV<|Ax AE AV)<|AF<|Ad<|Be AH A1 T.BW<|Af<|Bm (A0 BD (AR AH) AE) (Ah DS T.D_<|CH AH Aj A6)<|Ah EV T.Fi<|CH AH Aj A6),c.rn,Al,Am c fun a1 s2 H3 i4 c=>⟨c.rn,B5,c.rn,Al,Am c fun a5 s6 H7 i8 c=>B9 c (by decide) fun p9 c=>?_⟩⟩
 have z11:=Ci c.h.good 0
 refine⟨c.rn,B5,B9 c (by decide) fun p12 c=>?_⟩
 have z14:=Ci c.h.good 1
 refine⟨c.rn,B1,c.rn,AL,BL,rfl,Ho c (fun e15 c=>?_) fun e15 c=>?_⟩
 ·exact MA c z11 p9 z14 p12 fun H16 c=>Bp c fun H17 e18 c=>c.done
 ·exact Uh c z11 p9 z14 p12 fun H19 c=>Bp c fun H20 e21 c=>c.done
noncomputable def UJ(g:B2)(m:Ht.M):Ht.R Ht.M:=tk m fun m1 a1=>wi a1 (m1.zone<|zp m1 0).size fun j6=>let m2:Ht.M:=m1.mark (zp m1 0) j6<|m1.untouched;.ok m2
def lD :OA P w base 6 67 UJ:=by
 refine T.mq.F.act ["run"] fun H Q E W g v m hr hb c=>⟨_,(AF<|Ad<|Be (Be AH A5 T.BV<|Ax AE<|BI AH AM T.AZ) Mu T.MR<|Af<|Ah QJ T.Qv<|Af AH),c.rn,B5,c.rn,Al,Am c fun a1 s2 H3 i4 c=>B9 c (by decide) fun p5 c=>?_⟩
 have z7:=Ci c.h.good 0
 refine⟨c.h.pt z7 p5,aw,ACN c<|dC c z7 p5 (fun x hx=>⟨xI hx,fy hx⟩) fun H9 kp c=>?_⟩
 replace p5:=kp _ _ z7 p5
 exact c.done
noncomputable def D9(g:B2)(m:Ht.M):Ht.R Ht.M:=tk m fun m1 a1=>wi a1 (m1.zone<|zp m1 0).size fun j6=>(if(AD g.byte)=47 then let m2:Ht.M:=m1.move (zp m1 0) j6<|(m1.round<|m1.now1 (zp m1 0) j6)- (m1.now1 (zp m1 0) j6);let m3:Ht.M:={m2 with r0:=a1,r1:=a1};.ok m3 else let m4:Ht.M:=m1.move (zp m1 0) j6<|(m1.now1 (zp m1 0) j6)- (m1.now1 (zp m1 0) j6);let m5:Ht.M:={m4 with r0:=a1,r1:=a1};.ok m5)
def KP :OA P w base 6 69 D9:=by
 refine T.JD.F.act ["run","number","point","place","wanted"] fun H Q E W g v m hr hb c=>⟨_,(AB (AO 1<|BI AH AM T.AZ)<|AB (AO 2<|Be AH A5 T.BV<|Ax AE AV)<|AB (AO 3<|Ah Ox T.Yx<|Ax AH Aj)<|AB (AO 4<|Bm (A0 BD (AR AH) AE) (Be AH Cb T.Cm<|Af A6) A6)<|AB (Ad<|Ah HR T.move<|CH AH Aj<|AU B3 CG A6)<|AF<|Ad<|Ah ae T.anchor<|Ax AH AV),c.rn,Al,Am c fun a1 s2 H3 i4 c=>⟨c.rn,B5,B9 c (by decide) fun p5 c=>?_⟩⟩
 have z7:=Ci c.h.good 0
 refine X6 c z7 p5<|⟨c.rn,AL,BL,rfl,Ho c (fun e8 c=>?_) fun e8 c=>?_⟩
 ·refine⟨c.rn,CB,Jt c<|DY c z7 p5 fun W9 v10 H11 sm12 kp c=>?_⟩
  replace p5:=kp _ _ z7 p5
  exact Hw c i4 fun H13 c=>c.done
 ·refine DY c z7 p5 fun W14 v15 H16 sm17 kp c=>?_
  replace p5:=kp _ _ z7 p5
  exact Hw c i4 fun H18 c=>c.done
noncomputable def Dt(g:B2)(m:Ht.M):Ht.R Ht.M:=tk m fun m1 a1=>tk m1 fun m2 a5=>wi a1 (iV m2.values).length fun j10=>wi a5 (m2.zone<|zp m2 0).size fun j12=>(if(AD m2.z0)=0 then let m3:Ht.M:=m2.put (zp m2 0) j12<|Ht.times (m2.values.getD j10 0) m2.F;(if(AD g.byte)=63 then(if m3.kept.cutin<(if((m2.values.getD j10 0)- (m3.now1 (zp m2 0) j12))<0 then-((m2.values.getD j10 0)- (m3.now1 (zp m2 0) j12))else((m2.values.getD j10 0)- (m3.now1 (zp m2 0) j12)))then let m4:Ht.M:=m3.move (zp m2 0) j12<|(m3.round<|m3.now1 (zp m2 0) j12)- (m3.now1 (zp m2 0) j12);let m5:Ht.M:={m4 with r0:=a5,r1:=a5};.ok m5 else let m6:Ht.M:=m3.move (zp m2 0) j12<|(m3.round<|m2.values.getD j10 0)- (m3.now1 (zp m2 0) j12);let m7:Ht.M:={m6 with r0:=a5,r1:=a5};.ok m7)else let m8:Ht.M:=m3.move (zp m2 0) j12<|(m2.values.getD j10 0)- (m3.now1 (zp m2 0) j12);let m9:Ht.M:={m8 with r0:=a5,r1:=a5};.ok m9)else(if(AD g.byte)=63 then(if m2.kept.cutin<(if((m2.values.getD j10 0)- (m2.now1 (zp m2 0) j12))<0 then-((m2.values.getD j10 0)- (m2.now1 (zp m2 0) j12))else((m2.values.getD j10 0)- (m2.now1 (zp m2 0) j12)))then let US:Ht.M:=m2.move (zp m2 0) j12<|(m2.round<|m2.now1 (zp m2 0) j12)- (m2.now1 (zp m2 0) j12);let m11:Ht.M:={US with r0:=a5,r1:=a5};.ok m11 else let yr:Ht.M:=m2.move (zp m2 0) j12<|(m2.round<|m2.values.getD j10 0)- (m2.now1 (zp m2 0) j12);let Tg:Ht.M:={yr with r0:=a5,r1:=a5};.ok Tg)else let m14:Ht.M:=m2.move (zp m2 0) j12<|(m2.values.getD j10 0)- (m2.now1 (zp m2 0) j12);let m15:Ht.M:={m14 with r0:=a5,r1:=a5};.ok m15))
def JF :OA P w base 6 71 Dt:=by
 refine T.IB.F.act ["run","control_number","number","control","point","place"] fun H Q E W g v m hr hb c=>⟨_,(AB (AO 1<|BI AH AM T.AZ)<|AB (AO 2<|BI AH AM T.AZ)<|AB (AO 3<|Ah P_ T.Q3<|Ax AH AV)<|AB (AO 4<|Be AH A5 T.BV<|Ax AE Aj)<|AB (Aq (A0 BD (A9 Ab (AR AH) AE) AE) (AF<|Ad<|Be CG Ly T.Om<|Af<|Ah Ka T.MM<|Ax (AR AH) A6) AX)<|AB (AO 5<|Ah Ox T.Yx<|Ax AH CG)<|AB (Aq (A0 BD (AR AH) AE) (AB (Aq (A0 DE (EU Hq rfl T.k.Uo OT<|Af<|AU B3 A6 ET)<|AR<|AR<|AR AH) (AF<|AO 3 ET) AX)<|AF<|AO 3<|Be AH Cb T.Cm<|Af A6) AX)<|AB (Ad<|Ah HR T.move<|CH AH CG<|AU B3 A6 ET)<|AF<|Ad<|Ah ae T.anchor<|Ax AH Aj),c.rn,Al,Am c fun a1 s2 H3 i4 c=>⟨c.rn,Al,Am c fun a5 s6 H7 i8 c=>aY c fun w9 c=>⟨c.rn,B5,B9 c (by decide) fun p11 c=>?_⟩⟩⟩
 have z13:=Ci c.h.good 0
 refine⟨c.rn,AL,C8,BF.of c.h.Bj,rfl,rfl,Ho c (fun e14 c=>?_) fun e14 c=>?_⟩
 ·refine⟨c.h.pt z13 p11,kq,c.rn,AL,Fh,kL c c.h.good.tF c.h.good.sF fun t15 H16 f17 c=>xT c z13 p11 (.inr<|BY c.h.sub<|Dh.of AJ) (uc) fun v18 H19 kp c=>?_⟩
  replace p11:=kp _ _ z13 p11
  refine X6 c z13 p11<|⟨c.rn,AL,BL,rfl,Ho c (fun e20 c=>?_) fun e20 c=>?_⟩
  ·refine⟨_,rfl,c.rn,AL,A_,c.h.gr,AW,DX,c.h.kp,BG,K3,ER c (fun e21 c=>?_) fun e21 c=>?_⟩
   ·refine⟨c.rn,CB,Jt c<|DY c z13 p11 fun W22 v23 H24 sm25 kp c=>?_⟩
    replace p11:=kp _ _ z13 p11
    exact Hw c i8 fun H26 c=>c.done
   ·refine⟨c.rn,CB,Jt c<|DY c z13 p11 fun W27 v28 H29 sm30 kp c=>?_⟩
    replace p11:=kp _ _ z13 p11
    exact Hw c i8 fun H31 c=>c.done
  ·refine DY c z13 p11 fun W32 v33 H34 sm35 kp c=>?_
   replace p11:=kp _ _ z13 p11
   exact Hw c i8 fun H36 c=>c.done
 ·refine X6 c z13 p11 (⟨c.rn,AL,BL,rfl,Ho c (fun e37 c=>?_) fun e37 c=>?_⟩)
  ·refine⟨_,rfl,c.rn,AL,A_,c.h.gr,AW,DX,c.h.kp,BG,K3,ER c (fun e38 c=>?_) fun e38 c=>?_⟩
   ·refine⟨c.rn,CB,Jt c<|DY c z13 p11 fun W39 v40 H41 sm42 kp c=>?_⟩
    replace p11:=kp _ _ z13 p11
    exact Hw c i8 fun H43 c=>c.done
   ·refine⟨c.rn,CB,Jt c<|DY c z13 p11 fun W44 v45 H46 sm47 kp c=>?_⟩
    replace p11:=kp _ _ z13 p11
    exact Hw c i8 fun H48 c=>c.done
  ·refine DY c z13 p11 fun W49 v50 H51 sm52 kp c=>?_
   replace p11:=kp _ _ z13 p11
   exact Hw c i8 fun H53 c=>c.done
noncomputable def Fc(g:B2)(m:Ht.M):Ht.R Ht.M:=tk m fun m1 a1=>wi a1 (m1.zone<|zp m1 1).size fun j6=>wi (rp m1 0) (m1.zone<|zp m1 0).size fun j9=>(if(Dg (AD g.byte) 4)=0 then Hg g m1 a1 (m1.single<|m1.old2 (zp m1 1) j6 (zp m1 0) j9) (m1.single<|m1.old2 (zp m1 1) j6 (zp m1 0) j9)else Hg g m1 a1 (m1.single<|m1.old2 (zp m1 1) j6 (zp m1 0) j9) (m1.round<|m1.single<|m1.old2 (zp m1 1) j6 (zp m1 0) j9))
def P4 :OA P w base 8 76 Fc:=by
 refine T.Gx.F.act ["run","number","original","distance"] fun H Q E W g v m hr hb c=>⟨_,(AB (AO 1<|BI AH AM T.AZ)<|AB (AO 2<|Ah JC T.IJ<|Ax AH<|Ah EV T.Fi<|CH AH (Be AH A5 T.BV<|Ax AE AV)<|Be AH CN T.Cw<|Ax AE AE)<|AB (AO 3 Aj)<|AB (Aq (A0 Ep (AU Tf (AR AH) AE) AE) (AF<|AO 3<|Be AH Cb T.Cm<|Af Aj) AX)<|AF<|Ad<|Ah Mr T.LV<|RQ AH AV Aj A6),c.rn,Al,Am c fun a1 s2 H3 i4 c=>⟨c.rn,B5,B9 c (by decide) fun p5 c=>?_⟩⟩
 refine⟨c.rn,DF,HJ c (by decide) (by decide) fun p8 c=>?_⟩
 refine Uh c (Ci c.h.good 1) p5 (Ci c.h.good 0) p8 fun H11 c=>gK c<|⟨c.rn,AL,BL,rfl,UW c (fun e12 c=>Fz c i4 fun H q=>q) fun e12 c=>?_⟩
 ·exact⟨c.rn,CB,Jt c<|Fz c i4 fun H q=>q⟩
noncomputable def Gf(g:B2)(m:Ht.M):Ht.R Ht.M:=tk m fun m1 a1=>tk m1 fun m2 a5=>wi a1 (iV m2.values).length fun j10=>wi a5 (m2.zone<|zp m2 1).size fun j12=>wi (rp m2 0) (m2.zone<|zp m2 0).size fun j15=>(if(AD m2.z1)=0 then let m3:Ht.M:=m2.put (zp m2 1) j12<|Ht.plus ((m2.zone<|zp m2 0).was j15)<|Ht.times (m2.single<|m2.values.getD j10 0) m2.F;(if(bI m3.kept.flip)=1 then(if(decide ((m3.old2 (zp m2 1) j12 (zp m2 0) j15)<0))=(decide ((m2.single<|m2.values.getD j10 0)<0))then(if(Dg (AD g.byte) 4)=0 then Hg g m3 a5 (m3.old2 (zp m2 1) j12 (zp m2 0) j15) (m2.single<|m2.values.getD j10 0)else Hg g m3 a5 (m3.old2 (zp m2 1) j12 (zp m2 0) j15) (RY m3 (m2.single<|m2.values.getD j10 0)<|m3.old2 (zp m2 1) j12 (zp m2 0) j15))else(if(Dg (AD g.byte) 4)=0 then Hg g m3 a5 (m3.old2 (zp m2 1) j12 (zp m2 0) j15) (Ht.cut<|-(m2.single<|m2.values.getD j10 0))else Hg g m3 a5 (m3.old2 (zp m2 1) j12 (zp m2 0) j15) (RY m3 (Ht.cut<|-(m2.single<|m2.values.getD j10 0))<|m3.old2 (zp m2 1) j12 (zp m2 0) j15)))else(if(Dg (AD g.byte) 4)=0 then Hg g m3 a5 (m3.old2 (zp m2 1) j12 (zp m2 0) j15) (m2.single<|m2.values.getD j10 0)else Hg g m3 a5 (m3.old2 (zp m2 1) j12 (zp m2 0) j15) (RY m3 (m2.single<|m2.values.getD j10 0)<|m3.old2 (zp m2 1) j12 (zp m2 0) j15)))else(if(bI m2.kept.flip)=1 then(if(decide ((m2.old2 (zp m2 1) j12 (zp m2 0) j15)<0))=(decide ((m2.single<|m2.values.getD j10 0)<0))then(if(Dg (AD g.byte) 4)=0 then Hg g m2 a5 (m2.old2 (zp m2 1) j12 (zp m2 0) j15) (m2.single<|m2.values.getD j10 0)else Hg g m2 a5 (m2.old2 (zp m2 1) j12 (zp m2 0) j15) (RY m2 (m2.single<|m2.values.getD j10 0)<|m2.old2 (zp m2 1) j12 (zp m2 0) j15))else(if(Dg (AD g.byte) 4)=0 then Hg g m2 a5 (m2.old2 (zp m2 1) j12 (zp m2 0) j15) (Ht.cut<|-(m2.single<|m2.values.getD j10 0))else Hg g m2 a5 (m2.old2 (zp m2 1) j12 (zp m2 0) j15) (RY m2 (Ht.cut<|-(m2.single<|m2.values.getD j10 0))<|m2.old2 (zp m2 1) j12 (zp m2 0) j15)))else(if(Dg (AD g.byte) 4)=0 then Hg g m2 a5 (m2.old2 (zp m2 1) j12 (zp m2 0) j15) (m2.single<|m2.values.getD j10 0)else Hg g m2 a5 (m2.old2 (zp m2 1) j12 (zp m2 0) j15) (RY m2 (m2.single<|m2.values.getD j10 0)<|m2.old2 (zp m2 1) j12 (zp m2 0) j15))))
def Qt :OA P w base 8 79 Gf:=by
 refine T.IK.F.act ["run","control_number","number","control","point","base","original"] fun H Q E W g v m hr hb c=>⟨_,(AB (AO 1<|BI AH AM T.AZ)<|AB (AO 2<|BI AH AM T.AZ)<|AB (AO 3<|Ah JC T.IJ<|Ax AH<|Ah P_ T.Q3<|Ax AH AV)<|AB (AO 4<|Be AH A5 T.BV<|Ax AE Aj)<|AB (AO 5<|Be AH CN T.Cw<|Ax AE AE)<|AB (Aq (A0 BD (A9 Ab (AR AH) AE) AE) (AF<|Ad<|Ah LL T.Kb<|CH CG ET<|Ah Ka T.MM<|Ax (AR AH) A6) AX)<|AB (AO 6<|Ah EV T.Fi<|CH AH CG ET)<|AB (Aq (PW.pt<|UP (A0 BD (AR<|AR<|AR AH) AE)<|Oh<|A0 Ep (IG Dq (pv 6) AE)<|IG Dq A6 AE) (AF<|AO 3<|Ah Dx T.cut<|Af<|LG G2 A6) AX)<|AB (Aq (A0 Ep (AU Tf (AR AH) AE) AE) (AF<|AO 3<|Ah Xn T.U2<|CH AH A6<|pv 6) AX)<|AF<|Ad<|Ah Mr T.LV<|RQ AH Aj (pv 6) A6),c.rn,Al,Am c fun a1 s2 H3 i4 c=>⟨c.rn,Al,Am c fun a5 s6 H7 i8 c=>aY c fun w9 c=>gK c<|⟨c.rn,B5,B9 c (by decide) fun p11 c=>?_⟩⟩⟩
 have z13:=Ci c.h.good 1
 refine⟨c.rn,DF,HJ c (by decide) (by decide) fun p14 c=>?_⟩
 have z16:=Ci c.h.good 0
 refine⟨c.rn,AL,C8,BF.of c.h.Bj,rfl,rfl,Ho c (fun e17 c=>?_) fun e17 c=>?_⟩
 ·refine⟨c.rn,AL,Fh,kL c c.h.good.tF c.h.good.sF fun t18 H19 f20 c=>AAe c z13 p11 z16 p14 (Dh.of AJ) fun v21 H22 kp c=>?_⟩
  replace p11:=kp _ _ z13 p11
  replace p14:=kp _ _ z16 p14
  refine Uh c z13 p11 z16 p14 fun H23 c=>⟨c.rn,AL,A_,c.h.gr,AW,DX,c.h.kp,BG,WG,rfl,Ho c (fun e24 c=>?_) fun e24 c=>?_⟩
  ·refine⟨rfl,AAd c (fun e25 c=>?_) fun e25 c=>?_⟩
   ·refine⟨c.rn,AL,BL,rfl,UW c (fun e26 c=>Fz c i8 fun H q=>q) fun e26 c=>?_⟩
    ·exact bL c<|Fz c i8 fun H q=>q
   ·refine⟨_,rfl,trivial,c.rn,AL,BL,rfl,UW c (fun e27 c=>Fz c i8 fun H q=>q) fun e27 c=>?_⟩
    ·exact bL c<|Fz c i8 fun H q=>q
  ·refine(⟨c.rn,AL,BL,rfl,UW c (fun e28 c=>Fz c i8 fun H q=>q) fun e28 c=>?_⟩)
   ·exact bL c<|Fz c i8 fun H q=>q
 ·refine Uh c z13 p11 z16 p14 fun H29 c=>⟨c.rn,AL,A_,c.h.gr,AW,DX,c.h.kp,BG,WG,rfl,Ho c (fun e30 c=>?_) fun e30 c=>?_⟩
  ·refine⟨rfl,AAd c (fun e31 c=>?_) fun e31 c=>?_⟩
   ·refine⟨c.rn,AL,BL,rfl,UW c (fun e32 c=>Fz c i8 fun H q=>q) fun e32 c=>?_⟩
    ·exact bL c<|Fz c i8 fun H q=>q
   ·refine⟨_,rfl,trivial,c.rn,AL,BL,rfl,UW c (fun e33 c=>Fz c i8 fun H q=>q) fun e33 c=>?_⟩
    ·exact bL c<|Fz c i8 fun H q=>q
  ·refine(⟨c.rn,AL,BL,rfl,UW c (fun e34 c=>Fz c i8 fun H q=>q) fun e34 c=>?_⟩)
   ·exact bL c<|Fz c i8 fun H q=>q
noncomputable def DQ(g:B2)(m:Ht.M):Ht.R Ht.M:=tk m fun m1 a1=>tk m1 fun m2 a5=>wi a5 (m2.zone<|zp m2 1).size fun j10=>wi (rp m2 0) (m2.zone<|zp m2 0).size fun j13=>(if(AD m2.z1)=0 then let m3:Ht.M:=m2.put (zp m2 1) j10<|Ht.plus ((m2.zone<|zp m2 0).was j13)<|m2.way_ a1;let m4:Ht.M:=m3.move (zp m2 1) j10<|a1- (m3.now2 (zp m2 1) j10 (zp m2 0) j13);let m5:Ht.M:=m4.after a5<|decide (V.int ((AD g.byte))=V.int (59));.ok m5 else let m6:Ht.M:=m2.move (zp m2 1) j10<|a1- (m2.now2 (zp m2 1) j10 (zp m2 0) j13);let m7:Ht.M:=m6.after a5<|decide (V.int ((AD g.byte))=V.int (59));.ok m7)
def IQ :OA P w base 7 80 DQ:=by
 refine T.Gz.F.act ["run","distance","number","point","base"] fun H Q E W g v m hr hb c=>⟨_,(AB (AO 1<|BI AH AM T.AZ)<|AB (AO 2<|BI AH AM T.AZ)<|AB (AO 3<|Be AH A5 T.BV<|Ax AE Aj)<|AB (AO 4<|Be AH CN T.Cw<|Ax AE AE)<|AB (Aq (A0 BD (A9 Ab (AR AH) AE) AE) (AF<|Ad<|Ah LL T.Kb<|CH A6 CG<|Ah Ud T.bo<|Ax AH AV) AX)<|AB (Ad<|Ah HR T.move<|CH AH A6<|AU B3 AV<|Ah DS T.D_<|CH AH A6 CG)<|AF<|Ad<|Ah bA T.kM<|CH AH Aj<|IG BD (AR AH) AE),c.rn,Al,Am c fun a1 s2 H3 i4 c=>⟨c.rn,Al,Am c fun a5 s6 H7 i8 c=>⟨c.rn,B5,B9 c (by decide) fun p9 c=>?_⟩⟩⟩
 have z11:=Ci c.h.good 1
 refine⟨c.rn,DF,HJ c (by decide) (by decide) fun p12 c=>?_⟩
 have z14:=Ci c.h.good 0
 refine⟨c.rn,AL,C8,BF.of c.h.Bj,rfl,rfl,Ho c (fun e15 c=>?_) fun e15 c=>?_⟩
 ·refine wX c fun t16 H17 f18 c=>AAe c z11 p9 z14 p12 (Dh.of AJ) fun v19 H20 kp c=>?_
  replace p9:=kp _ _ z11 p9
  replace p12:=kp _ _ z14 p12
  refine MA c z11 p9 z14 p12 fun H21 c=>DY c z11 p9 fun W22 v23 H24 sm25 kp c=>?_
  replace p9:=kp _ _ z11 p9
  replace p12:=kp _ _ z14 p12
  exact⟨c.rn,AL,BL,rfl,SQ c i8 fun H26 c=>c.done⟩
 ·refine MA c z11 p9 z14 p12 fun H27 c=>DY c z11 p9 fun W28 v29 H30 sm31 kp c=>?_
  replace p9:=kp _ _ z11 p9
  replace p12:=kp _ _ z14 p12
  exact⟨c.rn,AL,BL,rfl,SQ c i8 fun H32 c=>c.done⟩
noncomputable def Na(g:B2)(m:Ht.M):Ht.R Ht.M:=tk m fun m1 a1=>tk m1 fun m2 a5=>wi a5 (m2.zone<|zp m2 1).size fun j10=>wi a1 (m2.zone<|zp m2 0).size fun j13=>let m3:Ht.M:=m2.move (zp m2 1) j10<|BN (m2.now2 (zp m2 0) j13 (zp m2 1) j10) 2;let m4:Ht.M:=m3.move (zp m2 0) j13<|-(BN (m2.now2 (zp m2 0) j13 (zp m2 1) j10) 2);.ok m4
def cq :OA P w base 6 82 Na:=by
 refine T.aE.F.act ["run","second","first","point","other","half"] fun H Q E W g v m hr hb c=>⟨_,(AB (AO 1<|BI AH AM T.AZ)<|AB (AO 2<|BI AH AM T.AZ)<|AB (AO 3<|Be AH A5 T.BV<|Ax AE Aj)<|AB (AO 4<|Be AH A5 T.BV<|Ax AE AV)<|AB (AO 5<|AU Bn (Ah DS T.D_<|CH AH CG A6) AE)<|AB (Ad<|Ah HR T.move<|CH AH A6 ET)<|AF<|Ad<|Ah HR T.move<|CH AH CG<|LG G2 ET),c.rn,Al,Am c fun a1 s2 H3 i4 c=>⟨c.rn,Al,Am c fun a5 s6 H7 i8 c=>⟨c.rn,B5,B9 c (by decide) fun p9 c=>?_⟩⟩⟩
 have z11:=Ci c.h.good 1
 refine⟨c.rn,B5,B9 c (by decide) fun p12 c=>?_⟩
 have z14:=Ci c.h.good 0
 refine MA c z14 p12 z11 p9 fun H15 c=>⟨⟨by decide,by decide⟩,DY c z11 p9 fun W16 v17 H18 sm19 kp c=>?_⟩
 replace p9:=kp _ _ z11 p9
 replace p12:=kp _ _ z14 p12
 refine DY c z14 p12 fun W20 v21 H22 sm23 kp c=>?_
 replace p9:=kp _ _ z11 p9
 replace p12:=kp _ _ z14 p12
 exact c.done
section
variable{W:Hp}{v:Var}{m:Ht.M}{H:Hp}{Q:VK}{E E':XK}{z:Fx}{r:Ht.R Ht.M}{y i:Nat}
def BX.zy(c:BX K A E z W v m H r)(hy:y<2)(hi:i<(m.zone y).size)(e:x=AD (fn<|(m.zone y).mark i))(l:fn ((m.zone y).mark i)<8):BX K A E z W v (m.mark y i fn) (upd H (z.g.pp y i)<|.ins (A.cl 3) (z.g.pd y i)<|DI "marks" (.int x)<|N0 (v.lo y i) (v.ln y i)<|AD<|(m.zone y).mark i) r:=by
 rw[WD]
 subst e
 exact c.go same_refl (c.h.km hy hi l) Fg EY
end
noncomputable def uT(x:Nat):Nat:=if Ht.has x Ht.ON=true then Ht.lose x Ht.ON else Ht.give x Ht.ON
def xn(h:x<8):oI (AD x) 1=AD (uT x)/\uT x<8:=by
 have:=xg<|by assumption
 rcases this with rfl | rfl | rfl | rfl | rfl | rfl | rfl | rfl<;>decide+kernel
def ADj(h:x<8):S2 (AD x) 1=AD (Ht.give x Ht.ON)/\Ht.give x Ht.ON<8:=by
 have:=xg<|by assumption
 rcases this with rfl | rfl | rfl | rfl | rfl | rfl | rfl | rfl<;>decide+kernel
def ABF(h:x<8):Dg (AD x) (7-1)=AD (Ht.lose x Ht.ON)/\Ht.lose x Ht.ON<8:=by
 have:=xg<|by assumption
 rcases this with rfl | rfl | rfl | rfl | rfl | rfl | rfl | rfl<;>decide+kernel
def both_eq(h:x<8):S2 (AD x) (2+4)=AD (Ht.give (Ht.give x Ht.INX) Ht.INY)/\Ht.give (Ht.give x Ht.INX) Ht.INY<8:=by
 have:=xg<|by assumption
 rcases this with rfl | rfl | rfl | rfl | rfl | rfl | rfl | rfl<;>decide+kernel
noncomputable def Hu(g:B2)(m:Ht.M):Ht.R Ht.M:=uE m fun m l=>Dp (fun x m F=>wi x (m.zone 1).size fun i=>F<|m.mark 1 i uT) l m .ok
noncomputable def GD(g:B2)(m:Ht.M):Ht.R Ht.M:=uE m fun m l=>Dp (fun x m F=>wi x (m.zone<|zp m 1).size fun i=>wi (rp m 0) (m.zone<|zp m 0).size fun j=>F<|m.move (zp m 1) i<|-(m.now2 (zp m 1) i (zp m 0) j)) l m .ok
def NG :OA P w base 5 65 Hu:=by
 refine T.JE.F.act ["run","number","point"] fun H Q E W g v m hr hb c=>⟨_,(AF<|EM PassesOwn.leaving rfl (Gd<|BI AH D5 T.EL) (Fe 1)<|AB (AO 2<|Be AH Hf T.Ga<|Ax AE AV)<|AF<|BC Aj<|AU ABR (AR Aj)<|Bt T.k.Qa),c.rn,Hm,Rr c fun l H1 e1 w1 c=>⟨⟨_,BF.of<|c.h.sub _ _ AJ⟩,YK AJ (fun σ=> ∃ o1 o2,σ= [some<|.ref g.run,o1,o2]) (fun _ _=>True) ⟨⟨none,none,rfl⟩,_,_,_,same_refl,trivial,c⟩ ?_ ?_⟩⟩
 ·rintro a rest σ W1 v1 m1 H1 ha ⟨o1,o2,rfl⟩ sm _ c
  refine⟨c.rn,Mx,ADp c (by decide) fun p1 c=>?_⟩
  have em:=xn<|KO c.h.good (by decide) p1
  exact⟨c.h.pt (by decide) p1,Aa,K_ _ _ _,c.h.pt (by decide) p1,Aa,(B8 rfl),⟨_,_,rfl⟩,_,_,_,sm,trivial,c.zy (by decide) p1 em.1 em.2⟩
 ·rintro σ W1 v1 m1 H1 ⟨o1,o2,rfl⟩ sm _ c
  exact c.done
def LA :OA P w base 7 81 GD:=by
 refine T.Hs.F.act ["run","number","point"] fun H Q E W g v m hr hb c=>⟨_,(AF<|EM PassesOwn.leaving rfl (Gd<|BI AH D5 T.EL) (Fe 1)<|AB (AO 2<|Be AH A5 T.BV<|Ax AE AV)<|AF<|Ad<|Ah HR T.move<|CH AH Aj<|LG G2<|Ah DS T.D_<|CH AH Aj<|Be AH CN T.Cw<|Ax AE AE),c.rn,Hm,Rr c fun l H1 e1 w1 c=>⟨⟨_,BF.of<|c.h.sub _ _ AJ⟩,YK AJ (fun σ=> ∃ o1 o2,σ= [some<|.ref g.run,o1,o2]) (fun _ _=>True) ⟨⟨none,none,rfl⟩,_,_,_,same_refl,trivial,c⟩ ?_ ?_⟩⟩
 ·rintro a rest σ W1 v1 m1 H1 ha ⟨o1,o2,rfl⟩ sm _ c
  refine⟨c.rn,B5,B9 c (by decide) fun p1 c=>?_⟩
  have z1:=Ci c.h.good 1
  exact⟨c.rn,DF,HJ c (by decide) (by decide) fun p0 c=>MA c z1 p1 (Ci c.h.good 0) p0 fun H2 c=>DY c z1 p1 fun W3 v3 H3 s3 kp c=>⟨⟨_,_,rfl⟩,_,_,_,fun b o e=>s3 b o<|sm b o e,trivial,c⟩⟩
 ·rintro σ W1 v1 m1 H1 ⟨o1,o2,rfl⟩ sm _ c
  exact c.done
noncomputable def xZ(g:B2):Nat->Nat:=fun x=>if AD g.byte=129 then Ht.give x Ht.ON else Ht.lose x Ht.ON
noncomputable def QA(g:B2)(m:Ht.M)(a n:Nat):Ht.M:=(BM n).foldl (fun y i=>y.mark 1 (a+i)<|xZ g) m
def QX:QA g m a (n+1)=(QA g m a n).mark 1 (a+n) (xZ g):=by
 unfold QA
 rw[Ha,Vs]
 rfl
theorem Ye: ∀ n,((QA g m a n).zone 1).size=(m.zone 1).size
 | 0=>rfl
 | n+1=>by rw[QX,bO (by decide)<|by decide];exact Ye n
noncomputable def KI(g:B2)(m:Ht.M):Ht.R Ht.M:=tk m fun m b=>tk m fun m a=>wi a (m.zone 1).size fun i=>wi b (m.zone 1).size fun j=> .ok (QA g m i<|j+1-i)
def I_ :OA P w base 4 66 KI:=by
 refine T.Hy.F.act ["run","outline","last","first","number"] fun H Q E W g v m hr hb c=>⟨_,(AB (AO 1<|AR<|AR AH)<|AB (AO 2<|BI AH AM T.AZ)<|AB (AO 3<|Ah Cn T.within<|Ax (BI AH AM T.AZ)<|Dc T.k.CD<|Af AV)<|AF<|EM PassesOwn.leaving rfl (Uj rfl T.k.KC<|Ax A6<|AU BJ (Ah Cn T.within<|Ax Aj<|Dc T.k.CD<|Af AV) AE) (Fe 4)<|AF<|Aq (A0 BD (AR AH) AE) (AF<|Ad<|Be (A9 Ab AV CG) Kk T.MD<|Af<|Bt T.k.Qa)<|AF<|Ad<|Be (A9 Ab AV CG) Mu T.MR<|Af<|Bt T.k.Qa),c.rn,AL,A_,c.h.gr,AW,HA,c.rn,Al,Am c fun b s1 H1 i1 c=>⟨c.rn,Al,Am c fun a s2 H2 i2 c=>⟨.inl<|BF.of<|c.h.zl<|by decide,?_⟩⟩⟩
 rw[ke]
 refine DV c fun w1 c=>⟨.inl<|BF.of<|c.h.zl<|by decide,?_⟩
 rw[ke]
 refine DV c fun w2 c=>?_
 have ZA:(m.zone 1).size<=64:=(E1 c.h.good (z:=1)<|by decide).ZA
 have w1':Ht.unsigned a<(m.zone 1).size:=w1
 have w2':Ht.unsigned b<(m.zone 1).size:=w2
 generalize ha:Ht.unsigned a=a' at*
 generalize hb':Ht.unsigned b=b' at*
 refine⟨_,_,rfl,(show(-(2^62)<=(a':Int)/\(a':Int)<2^62/\ -(2^62)<=(b':Int)+1/\(b':Int)+1<2^62) by lia),?_⟩
 have en:(AD b'+1-AD a').toNat=b'+1-a':=by show((b':Int)+1- (a':Int)).toNat=b'+1-a';lia
 show ∃ W,_
 rw[en]
 have sz: ∀ k y i,i<(m.zone 1).size->y=1->i<((QA g (Bs m<|s2) a' k).zone y).size:=fun k y i h e=>by subst e;rw[Ye];exact h
 refine Oq (lo:=AD a') (n:=b'+1-a') (fun k σ H'=> ∃ v' o,σ= [some<|.ref g.run,some<|.ref<|g.zl 1,some<|.int b,some<|.int<|AD a',o]/\BX K A E ⟨W,g,m.steps,m.inFont,Q⟩ W v' (QA g (Bs m<|s2) a' k) H' (.ok<|QA g (Bs m<|s2) a'<|b'+1-a')) ⟨v,none,rfl,c⟩ ?_ ?_
 ·rintro k σ H3 hk ⟨v3,o,rfl,c⟩
  have hi:a'+k<(m.zone 1).size:=by lia
  have hi2:=sz k 1 _ hi rfl
  have hz:=c.h.zl (z:=1)<|by decide
  refine⟨c.rn,AL,BL,rfl,A7 (fun e=>?_) fun e=>?_⟩
  ·have e':=V.int.inj (An e)
   refine⟨BF.of hz,Kd<|aO hi2,c.h.pt (by decide) hi2,eX,?_⟩
   refine dC c (by decide) hi2 (fn:=xZ g) (fun x hx=>by unfold xZ;rw[AI e'];exact ADj hx) fun H4 kp c=>?_
   rw[<-QX]at c
   exact⟨v3,_,rfl,c⟩
  ·have e': ¬ AD g.byte=129:=fun q=>e (Av<|BO V.int q)
   refine⟨BF.of hz,Kd<|aO hi2,c.h.pt (by decide) hi2,aw,?_⟩
   refine dC c (by decide) hi2 (fn:=xZ g) (fun x hx=>by unfold xZ;rw[AG e'];exact ABF hx) fun H4 kp c=>?_
   rw[<-QX]at c
   exact⟨v3,_,rfl,c⟩
 ·rintro σ H3 ⟨v3,o,rfl,c⟩
  exact c.done
noncomputable def Gh(x y:Ht.Pos):Int:=x.1*y.2-x.2*y.1
def xO.r1(h:xO x): -(2^64)<x.1/\x.1<2^64:=by
 have:=h.1
 have e:(2:Nat)^40=1099511627776:=by decide
 rw[e]at this
 lia
def xO.r2(h:xO x): -(2^64)<x.2/\x.2<2^64:=by
 have:=h.2
 have e:(2:Nat)^40=1099511627776:=by decide
 rw[e]at this
 lia
inductive pk(K:AS)(vs:List V)(H:Hp)(Q:VK)(E_:XK):Prop
 | mk: ∀ a b x y,vs= [.ref a,.ref b]->Dh K H a (pV x)->Dh K H b (pV y)->xO x->Q (.int (Gh x y)) H->pk K vs H Q E_
def gX :O0 P w base 1 83 ["line","other"] (pk K):=by
 refine T.vk.F.DL ["line","other"] fun H vs Q E hr h=>?_
 obtain⟨a,b,x,y,rfl,ha,hb,bx,q⟩:=h
 exact⟨_,(AF<|AY<|AU B3 (AU Bb (A9 By AH AE)<|A9 By AV AE)<|AU Bb (A9 By AH AE)<|A9 By AV AE),ha,rfl,hb,rfl,.inl bx.r1,ha,rfl,hb,rfl,.inl bx.r2,q⟩
noncomputable def Lo(a b c d:Ht.Pos):Ht.Pos:=if Gh (Ht.less b a) (Ht.less d c)=0 then(BN (a.1+b.1+c.1+d.1) 4,BN (a.2+b.2+c.2+d.2) 4)else(a.1+Ht.near ((b.1-a.1)*Gh (Ht.less c a) (Ht.less d c)) (Gh (Ht.less b a)<|Ht.less d c),a.2+Ht.near ((b.2-a.2)*Gh (Ht.less c a) (Ht.less d c)) (Gh (Ht.less b a)<|Ht.less d c))
def lR(hx:xO x)(hy:xO y)(h: ¬ Gh x y=0):lF (Gh x y):=by
 refine⟨h,?_⟩
 have b1:(x.1*y.2).natAbs<=2^80:=by rw[Wn];exact CC (MT (HU hx.1)<|HU hy.2)<|by decide
 have b2:(x.2*y.1).natAbs<=2^80:=by rw[Wn];exact CC (MT (HU hx.2)<|HU hy.1)<|by decide
 have e1:(2:Nat)^80=1208925819614629174706176:=by decide
 rw[e1]at b1 b2
 unfold Gh
 generalize x.1*y.2=p at*
 generalize x.2*y.1=q at*
 have:(p-q).natAbs<=2417851639229258349412352:=by lia
 exact Er this<|by decide
structure Lp(v:Var)(m:Ht.M)(p:AK)(x:Ht.Pos):Prop where
 at_: ∃ y i,y<2/\i<(m.zone y).size/\p=v.ln y i/\x=(m.zone y).at_ i
def Lp.get(l:Lp v m p x)(h:R K A W g v m H):H p=some (.lst<|pV x)/\LJ x:=by
 obtain⟨y,i,hy,hi,rfl,rfl⟩:=l.at_
 exact⟨h.pn hy hi,Ln h.good hy hi⟩
inductive Xs(K:AS)(A:B4)(vs:List V)(H:Hp)(Q:VK)(E:XK):Prop
 | mk: ∀ z W v m r E' pa pb pc pd a b c d,vs= [.ref pa,.ref pb,.ref pc,.ref pd]->BX K A E' z W v m H r->(Lp v m pa a/\Lp v m pb b/\Lp v m pc c/\Lp v m pd d)->(∀ p W' H',BX K A E' z W' v m H' r->Dh K W' p (pV (Lo a b c d))->Q (.ref p) H')->Xs K A vs H Q E
def Ta(c:BX K A E z W v m H r)(lx:Lp v m p x)(ly:Lp v m q y)(k: ∀ t H',W t=none->BX K A E z (upd W t<|.tup<|pV<|Ht.less x y) v m H' r->Q (.ref t) H'):fj K [.ref p,.ref q] H Q E':=T_ c (lx.get c.h).1 (ly.get c.h).1 k
def hZ :O0 P w base 2 84 ["a","b","c","d"] (Xs K A):=by
 refine T.crossing.F.DL ["a","b","c","d","share","whole","line"] fun H vs Q E hr h=>?_
 obtain⟨z,W,v,m,r,E',pa,pb,pc,pd,a,b,cc,d,rfl,c,⟨la,lb,lc,ld⟩,k⟩:=h
 refine⟨_,(AB (AO 4<|Ah gX T.vk<|Ax (Ah F8 T.less<|Ax Aj AH)<|Ah F8 T.less<|Ax A6 Aj)<|AB (AO 5<|Ah gX T.vk<|Ax (Ah F8 T.less<|Ax AV AH)<|Ah F8 T.less<|Ax A6 Aj)<|AB (Aq (A0 BD ET AE) (AF<|AY<|JK<|Ax (AU Bn (AU BJ (AU BJ (AU BJ (A9 Ab AH AE)<|A9 Ab AV AE)<|A9 Ab Aj AE)<|A9 Ab A6 AE) AE)<|AU Bn (AU BJ (AU BJ (AU BJ (A9 Ab AH AE)<|A9 Ab AV AE)<|A9 Ab Aj AE)<|A9 Ab A6 AE) AE) AX)<|AB (AO 6<|Ah F8 T.less<|Ax AV AH)<|AF<|AY<|JK<|Ax (AU BJ (A9 Ab AH AE)<|Ah GU T.near<|Ax (AU Bb (A9 By (pv 6) AE) CG) ET)<|AU BJ (A9 Ab AH AE)<|Ah GU T.near<|Ax (AU Bb (A9 By (pv 6) AE) CG) ET),?_⟩
 have ia:=(la.get c.h).2
 have ib:=(lb.get c.h).2
 have ic:=(lc.get c.h).2
 refine Ta c lc la fun t1 H1 f1 c=>?_
 have T1:Dh K (upd W t1<|.tup<|pV<|Ht.less cc a) t1 (pV<|Ht.less cc a):=Dh.of AJ
 refine Ta c ld lc fun t2 H2 f2 c=>?_
 replace T1:=BY c.h.sub<|BY (Bd f2) T1
 refine⟨_,_,_,_,rfl,T1,BY c.h.sub<|Dh.of AJ,GH ic ia,Ta c lb la fun t3 H3 f3 c=>Ta c ld lc fun t4 H4 f4 c=>⟨_,_,_,_,rfl,BY c.h.sub<|BY (Bd f4)<|Dh.of AJ,BY c.h.sub<|Dh.of AJ,GH ib ia,rfl,A7 (fun e=>?_) fun e=>?_⟩⟩
 ·have e':=V.int.inj (An e)
  have ga:=BF.of (K:=K) (la.get c.h).1
  have gb:=BF.of (K:=K) (lb.get c.h).1
  have gc:=BF.of (K:=K) (lc.get c.h).1
  have gd:=BF.of (K:=K) (ld.get c.h).1
  refine⟨ga,rfl,gb,rfl,gc,rfl,gd,rfl,⟨by decide,by decide⟩,ga,rfl,gb,rfl,gc,rfl,gd,rfl,⟨by decide,by decide⟩,(by show 2<=sizeLine;decide),fun p hp=>?_⟩
  have c5:=c.M_ (o:= .tup<|pV<|Lo a b cc d) hp
  have ev:Lo a b cc d=(BN (a.1+b.1+cc.1+d.1) 4,BN (a.2+b.2+cc.2+d.2) 4):=AI e'
  have q:=k p _ _ c5<|Dh.of AJ
  rw[ev]at q
  exact q
 ·have e': ¬ Gh (Ht.less b a) (Ht.less d cc)=0:=fun q=>e (Av<|BO V.int q)
  refine Ta c lb la fun t5 H5 f5 c=>?_
  have ga:=BF.of (K:=K) (la.get c.h).1
  have T5:=BY (K:=K) c.h.sub<|Dh.of (K:=K)<|AJ (o:= .tup<|pV<|Ht.less b a)
  have nk:=lR (GH ib ia) (GH ((ld.get c.h).2) ic) e'
  refine⟨ga,rfl,T5,rfl,.inl (GH ib ia).r1,_,_,rfl,nk,ga,rfl,T5,rfl,.inl (GH ib ia).r2,_,_,rfl,nk,(by show 2<=sizeLine;decide),fun p hp=>?_⟩
  have ev:Lo a b cc d=(a.1+Ht.near ((b.1-a.1)*Gh (Ht.less cc a) (Ht.less d cc)) (Gh (Ht.less b a)<|Ht.less d cc),a.2+Ht.near ((b.2-a.2)*Gh (Ht.less cc a) (Ht.less d cc)) (Gh (Ht.less b a)<|Ht.less d cc)):=AG e'
  have q:=k p _ _ (c.M_ (o:= .tup<|pV<|Lo a b cc d) hp)<|Dh.of AJ
  rw[ev]at q
  exact q
noncomputable def Jd(g:B2)(m:Ht.M):Ht.R Ht.M:=t_ m 5 fun m l=>wi (l.getD 0 0) (m.zone<|zp m 0).size fun d=>wi (l.getD 1 0) (m.zone<|zp m 0).size fun c=>wi (l.getD 2 0) (m.zone<|zp m 1).size fun b=>wi (l.getD 3 0) (m.zone<|zp m 1).size fun a=>wi (l.getD 4 0) (m.zone<|zp m 2).size fun p=>
 .ok ((Ce m (zp m 2) p ((m.zone<|zp m 2).was p) (c2<|Lo ((m.zone<|zp m 1).at_ a) ((m.zone<|zp m 1).at_ b) ((m.zone<|zp m 0).at_ c)<|(m.zone<|zp m 0).at_ d)<|(m.zone<|zp m 2).mark p).mark (zp m 2) p fun x=>Ht.give (Ht.give x Ht.INX) Ht.INY)
def BX.ACq(c:BX K A E z W v m H r)(hy:y<2)(hi:i<(m.zone y).size)(x:Ht.Pos)(hl:H l=none):
  BX K A E z W (Pe v y i (v.lo y i) l) (Ce m y i ((m.zone y).was i) (c2 x)<|(m.zone y).mark i) (upd (upd H l<|.lst [.int<|Ht.cut x.1,.int<|Ht.cut x.2]) (z.g.pp y i)<|.ins (A.cl 3) (z.g.pd y i)<|DI "now" (.ref l)<|N0 (v.lo y i) (v.ln y i)<|AD<|(m.zone y).mark i) r/\i<((Ce m y i ((m.zone y).was i) (c2 x)<|(m.zone y).mark i).zone y).size:=
 ⟨c.go same_refl (c.h.vp hy hi ⟨Du _,Du _⟩ hl) Fg EY,by rw[Fj hy hy];exact hi⟩
def P1 :OA P w base 6 85 Jd:=by
 refine T.Kt.F.act ["run","numbers","d","c","b","a","point","place"] fun H Q E W g v m hr hb c=>⟨_,(AB (AO 1<|Be AH G1 T.HL<|Af AE)<|AB (AO 2<|AR<|Be AH A5 T.BV<|Ax AE<|A9 Ab AV AE)<|AB (AO 3<|AR<|Be AH A5 T.BV<|Ax AE<|A9 Ab AV AE)<|AB (AO 4<|AR<|Be AH A5 T.BV<|Ax AE<|A9 Ab AV AE)<|AB (AO 5<|AR<|Be AH A5 T.BV<|Ax AE<|A9 Ab AV AE)<|AB (AO 6<|Be AH A5 T.BV<|Ax AE<|A9 Ab AV AE)<|AB (AO 7<|Ah hZ T.crossing<|RQ ET CG A6 Aj)<|AB (BC (pv 6)<|Ba<|Ax (Ah Dx T.cut<|Af<|A9 By (pv 7) AE)<|Ah Dx T.cut<|Af<|A9 By (pv 7) AE)<|AF<|Ad<|Be (pv 6) Kk T.MD<|Af<|AU BJ (Bt T.k.Nq)<|Bt T.k.Nl),c.rn,OD,wq c fun l H1 e1 f1 c=>?_⟩
 have lt: ∀ j,j<5->j<(iV<|m.stack.take 5).length:=fun j hj=>by rw[Bq,HP];lia
 have nn: ∃ l',l'=m.stack.take 5:=⟨_,rfl⟩
 obtain⟨nu,hnu⟩:=nn
 have mm: ∃ m',m'=((Bs m<|m.stack.drop 5):Ht.M):=⟨_,rfl⟩
 obtain⟨m',hm⟩:=mm
 rw[<-hm,<-hnu]at c
 rw[<-hnu]at lt
 have z0:=Ci c.h.good 0
 have z1:=Ci c.h.good 1
 have z2:=Ci c.h.good 2
 refine⟨c.rn,B5,BF.of<|c.h.sub _ _ AJ,vo<|lt 0<|by decide,B9 c (by decide) fun p0 c=>⟨c.h.pt z0 p0,Aa,CF _ _ _,c.rn,B5,BF.of<|c.h.sub _ _ AJ,vo<|lt 1<|by decide,B9 c (by decide) fun p1 c=>⟨c.h.pt z0 p1,Aa,CF _ _ _,c.rn,B5,BF.of<|c.h.sub _ _ AJ,vo<|lt 2<|by decide,B9 c (by decide) fun p2 c=>⟨c.h.pt z1 p2,Aa,CF _ _ _,c.rn,B5,BF.of<|c.h.sub _ _ AJ,vo<|lt 3<|by decide,B9 c (by decide) fun p3 c=>⟨c.h.pt z1 p3,Aa,CF _ _ _,c.rn,B5,BF.of<|c.h.sub _ _ AJ,vo<|lt 4<|by decide,B9 c (by decide) fun p4 c=>⟨_,_,_,_,_,_,_,_,_,_,_,_,_,_,rfl,c,⟨⟨_,_,z1,p3,rfl,rfl⟩,⟨_,_,z1,p2,rfl,rfl⟩,⟨_,_,z0,p1,rfl,rfl⟩,_,_,z0,p0,rfl,rfl⟩,fun t W2 H2 c TT=>?_⟩⟩⟩⟩⟩⟩
 have TH:=BY c.h.sub TT
 refine⟨TH,rfl,_,rfl,trivial,TH,rfl,_,rfl,trivial,(by show 2<=sizeLine;decide),fun l2 hl2=>⟨(c.h.new hl2).pt z2 p4,Aa,(B8 rfl),?_⟩⟩
 obtain⟨c,p4'⟩:=c.ACq z2 p4 (Lo ((m'.zone<|zp m' 1).at_<|Ht.unsigned<|nu.getD 3 0) ((m'.zone<|zp m' 1).at_<|Ht.unsigned<|nu.getD 2 0) ((m'.zone<|zp m' 0).at_<|Ht.unsigned<|nu.getD 1 0)<|(m'.zone<|zp m' 0).at_<|Ht.unsigned<|nu.getD 0 0) hl2
 exact⟨c.h.pt z2 p4',eX,dC c z2 p4' (fun x hx=>both_eq hx) fun H3 kp c=>c.done⟩
noncomputable def wJ(d so sn:Int):Int:=if d=0 then 0 else if so=0 then d else Ht.cut (Ht.near (d*sn) so)
def aS(v d:Ht.Pos):FN (Ht.along v d):=Du _
def wk(h:FN x)(n: ¬ x=0):lF x:=⟨n,by
 unfold FN at h
 have:x.natAbs<=4294967296:=by lia
 exact Er this<|by decide⟩
def UZ :O0 P w base 2 87 ["distance","span_old","span_now"] (kj (fun d so _=>FN d/\FN so) wJ):=by
 refine T.QK.F.DL ["distance","span_old","span_now"] fun H vs Q E hr h=>?_
 obtain⟨d,so,sn,rfl,⟨id',is⟩,k⟩:=h
 refine⟨_,(AB (Aq (A0 BD AH AE) (AF<|AY AE) AX)<|AB (Aq (A0 BD AV AE) (AF<|AY AH) AX)<|AF<|AY<|Ah Dx T.cut<|Af<|Ah GU T.near<|Ax (AU Bb AH Aj) AV),?_⟩
 unfold wJ at k
 refine⟨rfl,A7 (fun e=>?_) fun e=>?_⟩
 ·rw[AI<|V.int.inj<|An e]at k
  exact k
 rw[AG fun z=>e<|Av<|BO V.int z]at k
 refine⟨rfl,A7 (fun e2=>?_) fun e2=>?_⟩
 ·rw[AI<|V.int.inj<|An e2]at k
  exact k
 have n2: ¬ so=0:=fun z=>e2<|Av<|BO V.int z
 rw[AG n2]at k
 exact⟨.inl<|AAc id',_,_,rfl,wk is n2,_,rfl,trivial,k⟩
noncomputable def KR(g:B2)(m:Ht.M):Ht.R Ht.M:=uE m fun m l=>wi (rp m 1) (m.zone<|zp m 0).size fun i=>wi (rp m 2) (m.zone<|zp m 1).size fun j=>
 Dp (fun x n F=>wi x (n.zone<|zp n 2).size fun p=>F<|n.move (zp n 2) p<|wJ (n.old2 (zp n 2) p (zp m 0) i) (m.old2 (zp m 1) j (zp m 0) i) (m.now2 (zp m 1) j (zp m 0) i)-n.now2 (zp n 2) p (zp m 0) i) l m .ok
def Q0 :OA P w base 7 88 KR:=by
 refine T.M3.F.act ["run","numbers","first","second","span_old","span_now","number","point","wanted"] fun H Q E W g v m hr hb c=>⟨_,(AB (AO 1<|BI AH D5 T.EL)<|AB (AO 2<|Be AH CN T.Cw<|Ax AE AE)<|AB (AO 3<|Be AH CN T.Cw<|Ax AE AE)<|AB (AO 4<|Ah EV T.Fi<|CH AH A6 Aj)<|AB (AO 5<|Ah DS T.D_<|CH AH A6 Aj)<|AF<|EM PassesOwn.leaving rfl (Gd AV) (Fe 6)<|AB (AO 7<|Be AH A5 T.BV<|Ax AE<|pv 6)<|AB (AO 8<|Ah UZ T.QK<|CH (Ah EV T.Fi<|CH AH (pv 7) Aj) CG ET)<|AF<|Ad<|Ah HR T.move<|CH AH (pv 7)<|AU B3 (pv 8)<|Ah DS T.D_<|CH AH (pv 7) Aj),c.rn,Hm,Rr c fun l H1 e1 w1 c=>⟨c.rn,DF,HJ c (by decide) (by decide) fun p1 c=>?_⟩⟩
 have z0:=Ci c.h.good 0
 have z1:=Ci c.h.good 1
 refine⟨c.rn,DF,HJ c (by decide) (by decide) fun p2 c=>Uh c z1 p2 z0 p1 fun H2 c=>MA c z1 p2 z0 p1 fun H3 c=>?_⟩
 obtain⟨m',hm⟩: ∃ m',m'=({m with stack:=m.stack.drop m.loop,loop:=1}:Ht.M):=⟨_,rfl⟩
 rw[<-hm]at c p1 p2 z0 z1 ⊢
 obtain⟨so,hso⟩: ∃ so,so=m'.old2 (zp m' 1) (Ht.unsigned (rp m' 2)) (zp m' 0) (Ht.unsigned (rp m' 1)):=⟨_,rfl⟩
 obtain⟨sn,hsn⟩: ∃ sn,sn=m'.now2 (zp m' 1) (Ht.unsigned (rp m' 2)) (zp m' 0) (Ht.unsigned (rp m' 1)):=⟨_,rfl⟩
 have iso:FN so:=by rw[hso];exact aS _ _
 rw[<-hso,<-hsn]at c ⊢
 obtain⟨y0,hy0⟩: ∃ y0,y0=zp m' 0:=⟨_,rfl⟩
 obtain⟨i0,hi0⟩: ∃ i0,i0=Ht.unsigned (rp m' 1):=⟨_,rfl⟩
 rw[<-hy0]at p1 z0
 rw[<-hi0]at p1
 rw[<-hy0,<-hi0]at c ⊢
 refine⟨⟨_,BF.of<|c.h.sub _ _ AJ⟩,YK AJ (fun σ=> ∃ o1 o2 o3 o4,σ= [some<|.ref g.run,some<|.ref l,some<|.ref<|g.pp y0 i0,o4,some<|.int so,some<|.int sn,o1,o2,o3]) (fun _ n=>i0<(n.zone y0).size) ⟨⟨none,none,none,_,rfl⟩,_,_,_,same_refl,p1,c⟩ ?_ ?_⟩
 ·rintro a rest σ W1 v1 m1 H1 ha ⟨o1,o2,o3,o4,rfl⟩ sm hX c
  refine⟨c.rn,B5,B9 c (by decide) fun q2 c=>?_⟩
  have z2:=Ci c.h.good 2
  exact Uh c z2 q2 z0 hX fun H4 c=>⟨_,_,_,rfl,⟨aS _ _,iso⟩,MA c z2 q2 z0 hX fun H5 c=>DY c z2 q2 fun W6 v6 H6 s6 kp c=>⟨⟨_,_,_,_,rfl⟩,_,_,_,fun b o e=>s6 b o<|sm b o e,kp _ _ z0 hX,c⟩⟩
 ·rintro σ W1 v1 m1 H1 ⟨o1,o2,o3,o4,rfl⟩ sm _ c
  exact c.done
inductive AA9(C:AK)(vs:List V)(H:Hp)(Q:VK)(E_:XK):Prop
 | mk: ∀ p dx a b c,vs= [.ref p,a,b,c]->H p=some (.ins C dx [])->Q .non (upd H p (.ins C dx [("zone_number",a),("number",b),("step",c)]))->AA9 C vs H Q E_
def dy :O0 P w base 1 89 ["self","zone_number","number","step"] (AA9<|A.cl 4):=by
 refine T.bG.1.DL ["self","zone_number","number","step"] fun H vs Q E hr h=>?_
 obtain⟨p,dx,a,b,c,rfl,hp,q⟩:=h
 refine⟨_,(AB (BC AH AV)<|AB (BC AH Aj)<|AF<|BC AH A6),hp,FQ,(B8 rfl),AJ,FQ,(B8 rfl),AJ,FQ,(B8 rfl),?_⟩
 rw[Bk,Bk]
 exact q
noncomputable def ldF(y i:Nat)(t:AK):List (Str×V):= [("zone_number",.int<|AD y),("number",.int<|AD i),("step",.ref t)]
def N7:(ldF y i t).lookup ("zone_number":Str)=some (.int<|AD y):=rfl
def bB:(ldF y i t).lookup ("number":Str)=some (.int<|AD i):=rfl
def SX:(ldF y i t).lookup ("step":Str)=some (.ref t):=rfl
noncomputable def lS(g:B2):Nat:=if AD g.byte%2=1 then 1 else 2
noncomputable def aM(g:B2):Nat:=if AD g.byte%2=1 then 0 else 1
noncomputable def VE(m:Ht.M)(y i:Nat):Ht.Pos:=m.way_ (Ht.along m.P<|Ht.less ((m.zone y).at_ i)<|(m.zone y).was i)
noncomputable def Mo(g:B2)(m:Ht.M)(F:Nat->Ht.R Ht.M):Ht.R Ht.M:=wi (rp m<|lS g) (m.zone<|zp m<|aM g).size F
structure Ld(K:AS)(A:B4)(W:Hp)(ld:AK)(y i:Nat)(w:Ht.Pos):Prop where
 at_: ∃ dx t,W ld=some (.ins (A.cl 4) dx (ldF y i t))/\Dh K W t (pV w)
def Ld.mono{ld:AK}{w:Ht.Pos}(h:Ld K A W ld y i w)(s:Bc W W'):Ld K A W' ld y i w:=by
 obtain⟨dx,t,h1,h2⟩:=h.at_
 exact⟨dx,t,s _ _ h1,BY s h2⟩
inductive pX(K:AS)(A:B4)(vs:List V)(H:Hp)(Q':VK)(E:XK):Prop
 | mk: ∀ z W v m F,vs= [.ref z.g.run]->BX K A E z W v m H (Mo z.g m F)->(∀ ld W' H',Bc W W'->Ht.unsigned (rp m (lS z.g))<(m.zone (zp m (aM z.g))).size->Ld K A W' ld (zp m (aM z.g)) (Ht.unsigned (rp m (lS z.g))) (VE m (zp m (aM z.g)) (Ht.unsigned (rp m (lS z.g))))->BX K A E z W' v m H' (F (Ht.unsigned (rp m (lS z.g))))->Q' (.ref ld) H')->pX K A vs H Q' E
noncomputable def lA(K:AS)(A:B4):Sp:=pX K A
def Qk :OF P w base 7 90 ["run"] (lA K A):=by
 refine T.Vv.F.V6 ["run","which","pointer","point","moved","step"] fun H vs Q E hr h=>?_
 obtain⟨z,W,v,m,F,rfl,c,k⟩:=h
 refine⟨_,(AB (AO 1<|Bm (A0 BD (AU Dz (AR AH) AE) AE) AE AE)<|AB (AO 2<|Bm (A0 BD (AU Dz (AR AH) AE) AE) AE AE)<|AB (AO 3<|Be AH CN T.Cw<|Ax AV Aj)<|AB (AO 4<|Ah F8 T.less<|Ax (AR A6)<|AR A6)<|AB (AO 5<|Ah Ud T.bo<|Ax AH<|Ah Kx T.along<|CH (AR AH) (A9 By CG AE)<|A9 By CG AE)<|AF<|AY<|Fw T.c.ACJ dy (hr.mono<|by decide) rfl T.c.ACx T.bG.2 .nil Gp<|CH (A9 Ab (AR AH) Aj) (Ah E6 T.GY<|Af<|A9 Ab (AR AH) AV) ET),?_⟩
 by_cases e:AD z.g.byte%2=1
 ·have ew:lS z.g=1:=AI e
  have ep:aM z.g=0:=AI e
  unfold Mo at c
  rw[ew,ep]at c k
  refine⟨c.rn,AL,BL,(by show(0:Int)<_;decide),rfl,A7 (fun _=>?_) fun q=>absurd (Av<|BO V.int e) q⟩
  refine⟨c.rn,AL,BL,(by show(0:Int)<_;decide),rfl,A7 (fun _=>?_) fun q=>absurd (Av<|BO V.int e) q⟩
  refine⟨c.rn,DF,HJ c (by decide) (by decide) fun p1 c=>?_⟩
  have z1:=Ci c.h.good 0
  refine⟨c.h.pt z1 p1,Aa,CF _ _ _,c.h.pt z1 p1,Aa,Bx _ _ _,T_ c (c.h.pn z1 p1) (c.h.po z1 p1) fun t1 H1 f1 c=>?_⟩
  have T1:=BY c.h.sub<|Dh.of (K:=K)<|AJ (H:=W) (a:=t1) (o:= .tup<|pV<|Ht.less ((m.zone<|zp m 0).at_<|Ht.unsigned<|rp m 1)<|(m.zone<|zp m 0).was<|Ht.unsigned<|rp m 1)
  refine⟨c.rn,AL,ED,T1,rfl,T1,rfl,_,_,_,_,_,rfl,c.h.tP,c.h.good.sP,wX c fun t2 H2 f2 c=>⟨c.rn,AL,C8,BF.of c.h.Bj,wg<|by decide,c.rn,AL,CK,BF.of c.h.refs,uN<|by decide,_,rfl,trivial,fun x dx nx nd ned=>⟨x,dx,_,_,_,rfl,AJ,rfl,?_⟩⟩⟩
  rw[Bk]
  have c2:=(c.M_ (o:= .own x) nd)
  have nx':(upd H2 dx<|.own x) x=none:=by rw[AQ ned.symm];exact nx
  have c3:=c2.M_ (o:= .ins (A.cl 4) dx<|ldF (zp m 0) (Ht.unsigned<|rp m 1) t2) nx'
  have hk:=k x _ _ (fun b o e=>Bd (c2.h.free nx') b o<|Bd (c.h.free nd) b o<|Bd f2 b o<|Bd f1 b o e) p1 ⟨dx,t2,AJ,BY (Bd<|c2.h.free nx')<|BY (Bd<|c.h.free nd)<|Dh.of AJ⟩ c3
  rw[Fn]
  exact hk
 ·have ew:lS z.g=2:=AG e
  have ep:aM z.g=1:=AG e
  unfold Mo at c
  rw[ew,ep]at c k
  refine⟨c.rn,AL,BL,(by show(0:Int)<_;decide),rfl,A7 (fun q=>absurd (V.int.inj<|An q) e) fun _=>⟨c.rn,AL,BL,(by show(0:Int)<_;decide),rfl,A7 (fun q=>absurd (V.int.inj<|An q) e) fun _=>⟨c.rn,DF,HJ c (by decide) (by decide) fun p1 c=>?_⟩⟩⟩
  have z1:=Ci c.h.good 1
  refine⟨c.h.pt z1 p1,Aa,CF _ _ _,c.h.pt z1 p1,Aa,Bx _ _ _,T_ c (c.h.pn z1 p1) (c.h.po z1 p1) fun t1 H1 f1 c=>?_⟩
  have T1:=BY c.h.sub<|Dh.of (K:=K)<|AJ (H:=W) (a:=t1) (o:= .tup<|pV<|Ht.less ((m.zone<|zp m 1).at_<|Ht.unsigned<|rp m 2)<|(m.zone<|zp m 1).was<|Ht.unsigned<|rp m 2)
  refine⟨c.rn,AL,ED,T1,rfl,T1,rfl,_,_,_,_,_,rfl,c.h.tP,c.h.good.sP,wX c fun t2 H2 f2 c=>⟨c.rn,AL,C8,BF.of c.h.Bj,wg<|by decide,c.rn,AL,CK,BF.of c.h.refs,uN<|by decide,_,rfl,trivial,fun x dx nx nd ned=>⟨x,dx,_,_,_,rfl,AJ,rfl,?_⟩⟩⟩
  rw[Bk]
  have c2:=(c.M_ (o:= .own x) nd)
  have nx':(upd H2 dx<|.own x) x=none:=by rw[AQ ned.symm];exact nx
  have hk:=k x _ _ (fun b o e=>Bd (c2.h.free nx') b o<|Bd (c.h.free nd) b o<|Bd f2 b o<|Bd f1 b o e) p1 ⟨dx,t2,AJ,BY (Bd<|c2.h.free nx')<|BY (Bd<|c.h.free nd)<|Dh.of AJ⟩<|c2.M_ (o:= .ins (A.cl 4) dx<|ldF (zp m 1) (Ht.unsigned<|rp m 2) t2) nx'
  rw[Fn]
  exact hk
def j7(c:BX K A E z W v m H (Mo z.g m F))(k: ∀ ld W' H',Bc W W'->Ht.unsigned (rp m<|lS z.g)<(m.zone<|zp m<|aM z.g).size->Ld K A W' ld (zp m<|aM z.g) (Ht.unsigned<|rp m<|lS z.g) (VE m (zp m<|aM z.g)<|Ht.unsigned<|rp m<|lS z.g)->BX K A E z W' v m H' (F<|Ht.unsigned<|rp m<|lS z.g)->Q (.ref ld) H'):lA K A [.ref z.g.run] H Q E:=by
 unfold lA
 exact⟨z,W,v,m,F,rfl,c,k⟩
noncomputable def Nu(g:B2)(m:Ht.M):Ht.R Ht.M:=uE m fun m l=>Mo g m fun i=>Dp (fun x n F=>wi x (n.zone<|zp n 2).size fun p=>F<|n.shift true (zp n 2) p<|VE m (zp m<|aM g) i) l m .ok
noncomputable def GZ(g:B2)(m:Ht.M):Ht.R Ht.M:=tk m fun m a=>uE m fun m l=>Dp (fun x n F=>wi x (n.zone<|zp n 2).size fun p=>F<|n.shift true (zp n 2) p<|Ht.times a m.F) l m .ok
def Mq :OA P w base 8 91 Nu:=by
 refine T.Li.F.act ["run","numbers","lead","number"] fun H Q E W g v m hr hb c=>⟨_,(AB (AO 1<|BI AH D5 T.EL)<|AB (AO 2<|Ah Qk T.Vv<|Af AH)<|AF<|EM PassesOwn.leaving rfl (Gd AV) (Fe 3)<|AF<|Ad<|Ah EA T.EJ<|CH AH (Be AH A5 T.BV<|Ax AE A6)<|AR Aj),c.rn,Hm,Rr c fun l H1 e1 w1 c=>j7 c fun ld W2 H2 s2 p2 L c=>?_⟩
 have hl:=s2 _ _ AJ
 refine⟨⟨_,BF.of<|c.h.sub _ _ hl⟩,YK hl (fun σ=> ∃ o1,σ= [some<|.ref g.run,some<|.ref l,some<|.ref ld,o1]) (fun _ _=>True) ⟨⟨none,rfl⟩,_,_,_,same_refl,trivial,c⟩ ?_ ?_⟩
 ·rintro a rest σ W1 v1 m1 H1 ha ⟨o1,rfl⟩ sm _ c
  obtain⟨dx,t,L1,L2⟩:=(L.mono sm).at_
  refine⟨c.rn,B5,B9 c (by decide) fun q2 c=>?_⟩
  exact⟨c.h.sub _ _ L1,FQ,SX,cp c (Ci c.h.good 2) q2 L2 fun v6 H6 kp c=>⟨⟨_,rfl⟩,_,_,_,sm,trivial,c⟩⟩
 ·rintro σ W1 v1 m1 H1 ⟨o1,rfl⟩ sm _ c
  exact c.done
def Q7 :OA P w base 6 95 GZ:=by
 refine T.M0.F.act ["run","step","number"] fun H Q E W g v m hr hb c=>⟨_,(AB (AO 1<|Ah Ka T.MM<|Ax (AR AH)<|BI AH AM T.AZ)<|AF<|EM PassesOwn.leaving rfl (Gd<|BI AH D5 T.EL) (Fe 2)<|AF<|Ad<|Ah EA T.EJ<|CH AH (Be AH A5 T.BV<|Ax AE Aj) AV),c.rn,AL,Fh,c.rn,Al,Am c fun a s1 H1 i1 c=>kL c c.h.good.tF c.h.good.sF fun t H2 f2 c=>?_⟩
 have T2:Dh K (upd W t<|.tup<|pV<|Ht.times a m.F) t (pV<|Ht.times a m.F):=Dh.of AJ
 refine⟨c.rn,Hm,Rr c fun l H3 e1 w1 c=>?_⟩
 refine⟨⟨_,BF.of<|c.h.sub _ _ AJ⟩,YK AJ (fun σ=> ∃ o1,σ= [some<|.ref g.run,some<|.ref t,o1]) (fun _ _=>True) ⟨⟨none,rfl⟩,_,_,_,same_refl,trivial,c⟩ ?_ ?_⟩
 ·rintro a2 rest σ W1 v1 m1 H1 ha ⟨o1,rfl⟩ sm _ c
  refine⟨c.rn,B5,B9 c (by decide) fun q2 c=>?_⟩
  exact cp c (Ci c.h.good 2) q2 (BY sm<|BY (Bd w1 (o:= .lst<|iV<|List.take m.loop s1)) T2) fun v6 H6 kp c=>⟨⟨_,rfl⟩,_,_,_,sm,trivial,c⟩
 ·rintro σ W1 v1 m1 H1 ⟨o1,rfl⟩ sm _ c
  exact c.done
noncomputable def eV(l:List Nat):List V:=l.map fun e=> .int (AD e)
def wz:((eV l).length:Int)=AD l.length:=by unfold eV;rw[A8];rfl
def n9(h:j<l.length):Wz (eV l) (AD j)=some (.int<|AD<|l.getD j 0):=by
 refine En ?_
 unfold eV
 rw[CY,CS h,Cc,CS h]
 rfl
theorem PR: ∀{l:List Nat} {j:Nat},N9 n l->j<l.length->l.getD j 0<n
 | [],j,_,h=>absurd h<|HM _
 | [a],0,h,_=>h
 | [a],j+1,_,h=>absurd (show j+1<1 from h)<|by lia
 | a::b::l,0,h,_=>HH h.1<|PR (l:=b::l) (j:=0) h.2<|OZ _
 | a::b::l,j+1,h,q=>PR (l:=b::l) (j:=j) h.2<|p7 q
noncomputable def cst(es:List Nat)(c:Nat):Nat:=if c=0 then 0 else es.getD (c-1) 0+1
inductive AET(K:AS)(vs:List V)(H:Hp)(Q:VK)(E_:XK):Prop
 | mk: ∀ a es c,vs= [.ref a,.int (AD c)]->BF K H a (eV es)->c<=es.length->Q (.int (AD (cst es c))) H->AET K vs H Q E_
def Ks :O0 P w base 1 92 ["ends","contour"] (AET K):=by
 refine T.Ki.F.DL ["ends","contour"] fun H vs Q E hr h=>?_
 obtain⟨a,es,c,rfl,hl,hc,q⟩:=h
 refine⟨_,(AF<|AY<|Bm (A0 BD AV AE) AE<|AU BJ (A9 Ab AH<|AU B3 AV AE) AE),?_⟩
 unfold cst at q
 refine⟨rfl,A7 (fun e=>?_) fun e=>?_⟩
 ·have e':=B6 (V.int.inj<|An e)
  rw[AI e']at q
  exact q
 ·have e': ¬ c=0:=fun z=>e (Av<|by rw[z];rfl)
  rw[AG e']at q
  have e2:AD c-1=AD (c-1):=by show(c:Int)-1=((c-1:Nat):Int);lia
  refine⟨hl,(by rw[e2];exact n9 (j:=c-1)<|by lia),?_⟩
  exact q
def R.Uw(h:R K A W g v m H):H g.ends=some (.lst<|eV m.ends):=h.ends
noncomputable def Eo(t:Bool)(m:Ht.M)(k s:Nat)(y i:Nat)(w:Ht.Pos)(n:Nat):Ht.M:=(BM n).foldl (fun q j=>if y=k/\i=s+j then q else q.shift t k (s+j) w) m
def Gv{w:Ht.Pos}:Eo t m k s y i w (n+1)=if y=k/\i=s+n then Eo t m k s y i w n else(Eo t m k s y i w n).shift t k (s+n) w:=by
 unfold Eo
 rw[Ha,Vs]
 rfl
theorem L5{w:Ht.Pos}(hk:k<2)(hq:q<2): ∀ n,((Eo t m k s y i w n).zone q).size=(m.zone q).size
 | 0=>rfl
 | n+1=>by
  rw[Gv]
  split
  ·exact L5 hk hq n
  ·rw[Qi hk hq];exact L5 hk hq n
noncomputable def Ms(g:B2)(m:Ht.M):Ht.R Ht.M:=tk m fun m a=>wi a m.ends.length fun c=>Mo g m fun i=> .ok (Eo true m 1 (cst m.ends c) (zp m<|aM g) i (VE m (zp m<|aM g) i)<|m.ends.getD c 0+1-cst m.ends c)
noncomputable def Ss(g:B2)(m:Ht.M):Ht.R Ht.M:=tk m fun m a=>wi a 2 fun k=>Mo g m fun i=> .ok (Eo false m k 0 (zp m<|aM g) i (VE m (zp m<|aM g) i) (m.zone k).size)
def LD :OA P w base 8 93 Ms:=by
 refine T.Ke.F.act ["run","ends","contour","lead","number"] fun H Q E W g v m hr hb c=>⟨_,(AB (AO 1<|AR<|AR AH)<|AB (AO 2<|Ah Cn T.within<|Ax (BI AH AM T.AZ)<|Dc T.k.CD<|Af AV)<|AB (AO 3<|Ah Qk T.Vv<|Af AH)<|AF<|EM PassesOwn.leaving rfl (Uj rfl T.k.KC<|Ax (Ah Ks T.Ki<|Ax AV Aj)<|AU BJ (A9 Ab AV Aj) AE) (Fe 4)<|AF<|Aq (PW.pt<|Fy (A0 Ep (AR A6) AE)<|GL<|A0 Ep (AR A6) CG) (AF<|Ad<|Ah EA T.EJ<|CH AH (A9 Ab (AR<|AR AH) CG)<|AR A6) AX),c.rn,AL,A_,c.h.gr,AW,dN,c.rn,Al,Am c fun a s1 H1 i1 c=>⟨.inl<|BF.of c.h.Uw,?_⟩⟩
 rw[wz]
 refine DV c fun w1 c=>?_
 refine j7 c fun ld W2 H2 s2 p2 L c=>?_
 obtain⟨m',hm⟩: ∃ m',m'=((Bs m (s1)):Ht.M):=⟨_,rfl⟩
 rw[<-hm]at c w1 p2 L
 have hx:=PR c.h.good.Kv w1
 have ZA:m'.zone1.size<=64:=c.h.good.zone1.ZA
 obtain⟨ct,hct⟩: ∃ ct,ct=Ht.unsigned a:=⟨_,rfl⟩
 rw[<-hct]at c w1 hx ⊢
 obtain⟨en,hen⟩: ∃ en,en=m'.ends.getD ct 0:=⟨_,rfl⟩
 rw[<-hen]at hx
 obtain⟨st,hst⟩: ∃ st,st=cst m'.ends ct:=⟨_,rfl⟩
 have stb:st<=64:=by
  rw[hst]
  unfold cst
  split
  ·lia
  ·have:=PR (j:=ct-1) c.h.good.Kv (by lia)
   lia
 obtain⟨y0,hy0⟩: ∃ y0,y0=zp m' (aM g):=⟨_,rfl⟩
 obtain⟨i0,hi0⟩: ∃ i0,i0=Ht.unsigned (rp m' (lS g)):=⟨_,rfl⟩
 obtain⟨w,hw⟩: ∃ w,w=VE m' y0 i0:=⟨_,rfl⟩
 have c':BX K A E ⟨W,g,m.steps,m.inFont,Q⟩ W2 v m' H2 (.ok<|Eo true m' 1 st y0 i0 w<|en+1-st):=by rw[hw,hi0,hy0,hst,hen];exact c
 have L':Ld K A W2 ld y0 i0 w:=by rw[hw,hi0,hy0];exact L
 clear c L
 have ge:=c'.h.Uw
 refine⟨_,_,_,rfl,BF.of ge,HU w1,BF.of ge,n9 w1,_,_,rfl,?_,?_⟩
 ·rw[<-hst,<-hen]
  show(-(2^62)<=(st:Int)/\(st:Int)<2^62/\ -(2^62)<=(en:Int)+1/\(en:Int)+1<2^62)
  lia
 rw[<-hst,<-hen]
 have en':(AD en+1-AD st).toNat=en+1-st:=by show((en:Int)+1- (st:Int)).toNat=en+1-st;lia
 rw[en']
 obtain⟨dx,t,L1,L2⟩:=L'.at_
 refine Oq (fun k σ H'=> ∃ v' o,σ= [some<|.ref g.run,some<|.ref g.ends,some<|.int<|AD ct,some<|.ref ld,o]/\BX K A E ⟨W,g,m.steps,m.inFont,Q⟩ W2 v' (Eo true m' 1 st y0 i0 w k) H' (.ok<|Eo true m' 1 st y0 i0 w<|en+1-st)) ⟨v,none,rfl,c'⟩ ?_ ?_
 ·rintro k σ H3 hk ⟨v3,o,rfl,c⟩
  have hi:st+k<(m'.zone 1).size:=by show st+k<m'.zone1.size;lia
  have hi2:st+k<((Eo true m' 1 st y0 i0 w k).zone 1).size:=by rw[L5 (by decide)<|by decide];exact hi
  have fin: ¬(y0=1/\i0=st+k)-> ∀ v6 H6,BX K A E ⟨W,g,m.steps,m.inFont,Q⟩ W2 v6 ((Eo true m' 1 st y0 i0 w k).shift true 1 (st+k) w) H6 (.ok<|Eo true m' 1 st y0 i0 w<|en+1-st)->BX K A E ⟨W,g,m.steps,m.inFont,Q⟩ W2 v6 (Eo true m' 1 st y0 i0 w<|k+1) H6 (.ok<|Eo true m' 1 st y0 i0 w<|en+1-st):=fun ne v6 H6 c=>by
   rw[Gv,AG ne]
   exact c
  refine⟨c.h.sub _ _ L1,FQ,N7,rfl,A7 (fun e=>?_) fun e=>?_⟩
  ·have ne: ¬ y0=1:=fun z=>by rw[z]at e;exact absurd e (by decide)
   exact⟨c.rn,AL,A_,c.h.gr,AW,HA,BF.of<|c.h.zl<|by decide,Kd<|aO hi2,c.h.sub _ _ L1,FQ,SX,cp c (by decide) hi2 L2 fun v6 H6 kp c=>⟨v6,_,rfl,fin (fun z=>ne z.1) v6 H6 c⟩⟩
  ·have ey:y0=1:=by
    by_cases q:y0=1
    ·exact q
    ·exact absurd (by rw[L8,Wc];exact fun z=>q<|B6<|V.int.inj z) e
   refine⟨c.h.sub _ _ L1,FQ,bB,rfl,A7 (fun e2=>?_) fun e2=>?_⟩
   ·have ne: ¬ i0=st+k:=fun z=>by rw[z]at e2;exact absurd (show decide (V.int (AD<|st+k)=V.int (AD st+(k:Int)))=true from Av rfl) (by rw[L8]at e2;rw[e2];decide)
    exact⟨c.rn,AL,A_,c.h.gr,AW,HA,BF.of<|c.h.zl<|by decide,Kd<|aO hi2,c.h.sub _ _ L1,FQ,SX,cp c (by decide) hi2 L2 fun v6 H6 kp c=>⟨v6,_,rfl,fin (fun z=>ne z.2) v6 H6 c⟩⟩
   ·have ei:i0=st+k:=by
     by_cases q:i0=st+k
     ·exact q
     ·exact absurd (by rw[L8,Wc];exact fun z=>q<|B6<|V.int.inj z) e2
    refine⟨v3,_,rfl,?_⟩
    rw[Gv,AI ⟨ey,ei⟩]
    exact c
 ·rintro σ H3 ⟨v3,o,rfl,c⟩
  exact c.done
def Np{gg:TG}{tb:TS}{D:Ends}(Pv:Nat->L2.St->Hp->Prop)(h0:Pv 0 σ H)(hl: ∀ i σ H,i<=xs.length->Pv i σ H->BF K H a xs)
  (hs: ∀ i x σ H t,xs[i]?=some x->H t=none->Pv i σ H->gg (.ref t) σ (upd H t<|.tup [.int (i:Nat),x]) fun σ2 H2=>tb {D with nx:=Pv<|i+1,ct:=Pv<|i+1,bk:=D.nx} σ2 H2) (hd: ∀ σ H,Pv xs.length σ H->D.nx σ H):
  ∃ W:Nat->Nat->L2.St->Hp->Prop,(∃ m,W 0 m σ H)/\ ∀ i m σ H,W i m σ H->
   ((Ite K a).stop i H/\D.nx σ H)\/((Ite K a).go i H/\ ∃ N,(∀ σ' H',N σ' H'-> ∃ m',m'<m/\W (i+1) m' σ' H')/\ ∀ x H',(Ite K a).uC i H x H'->gg x σ H' fun σ2 H2=>tb {D with nx:=N,ct:=N,bk:=D.nx} σ2 H2):=by
 refine⟨fun i m σ H=>m=xs.length-i/\i<=xs.length/\Pv i σ H,⟨xs.length,by simp,B7 _,h0⟩,?_⟩
 rintro i m σ H ⟨rfl,hi,p⟩
 have q:=hl i σ H hi p
 by_cases hlt:i<xs.length
 ·refine .inr ⟨⟨xs,xs[i],q,by simp[hlt]⟩,Pv<|i+1,fun σ' H' p'=>⟨xs.length- (i+1),by lia,rfl,hlt,p'⟩,fun x H' y=>?_⟩
  obtain⟨t,x',rfl,ht,rfl,y⟩:=y
  exact hs i x' σ H t (y xs q) ht p
 ·have e:i=xs.length:=by lia
  subst e
  exact .inl ⟨⟨xs,q,BS _⟩,hd σ H p⟩
def ACk{g:B2}(h:((BM n).map fun i=>V.ref<|g.pp z i)[i]?=some x):i<n/\x= .ref (g.pp z i):=by
 have hi:i<n:=by
  rcases Dd i n with q | q
  ·exact q
  ·rw[EG<|by rw[A8,CO];exact q]at h;cases h
 rw[aO hi]at h
 exact⟨hi,(C_ h).symm⟩
def neN(e:(!decide (V.int (AD a)=V.int (AD b)))=true): ¬ a=b:=fun z=>by subst z;simp at e
def eqN(e: ¬(!decide (V.int (AD a)=V.int (AD b)))=true):a=b:=by
 by_cases q:a=b
 ·exact q
 ·exact absurd (by rw[L8,Wc];exact fun z=>q<|B6<|V.int.inj z) e
def QI :OA P w base 8 94 Ss:=by
 refine T.Qx.F.act ["run","zone_number","lead","number","point"] fun H Q E W g v m hr hb c=>⟨_,(AB (AO 1<|Ah Cn T.within<|Ax (BI AH AM T.AZ) AE)<|AB (AO 2<|Ah Qk T.Vv<|Af AH)<|AF<|EM PassesOwn.leaving rfl (SD rfl T.k.Hl<|Af<|Be AH Ux T.Yl<|Af AV) (RH rfl<|Dk (Fe 3)<|Dk (Fe 4) MX)<|AF<|Aq (PW.pt<|Fy (A0 Ep (AR Aj) AV)<|GL<|A0 Ep (AR Aj) A6) (AF<|Ad<|Be CG N5 T.Nz<|Af<|AR Aj) AX),c.rn,Al,Am c fun a s1 H1 i1 c=>DV c fun w1 c=>j7 c fun ld W2 H2 s2 p2 L c=>?_⟩
 obtain⟨m',hm⟩: ∃ m',m'=((Bs m (s1)):Ht.M):=⟨_,rfl⟩
 rw[<-hm]at c p2 L
 obtain⟨k,hk⟩: ∃ k,k=Ht.unsigned a:=⟨_,rfl⟩
 rw[<-hk]at c w1 ⊢
 obtain⟨y0,hy0⟩: ∃ y0,y0=zp m' (aM g):=⟨_,rfl⟩
 obtain⟨i0,hi0⟩: ∃ i0,i0=Ht.unsigned (rp m' (lS g)):=⟨_,rfl⟩
 obtain⟨w,hw⟩: ∃ w,w=VE m' y0 i0:=⟨_,rfl⟩
 have c':BX K A E ⟨W,g,m.steps,m.inFont,Q⟩ W2 v m' H2 (.ok<|Eo false m' k 0 y0 i0 w (m'.zone k).size):=by rw[hw,hi0,hy0];exact c
 have L':Ld K A W2 ld y0 i0 w:=by rw[hw,hi0,hy0];exact L
 clear c L
 obtain⟨dx,t,L1,L2⟩:=L'.at_
 have sz: ∀ n,((Eo false m' k 0 y0 i0 w n).zone k).size=(m'.zone k).size:=fun n=>L5 w1 w1 n
 refine⟨c'.h.run,xD,AB9 c' w1 ⟨_,_,rfl,BF.of<|c'.h.zl w1,?_⟩⟩
 refine Np (a:=g.zl k) (xs:=(BM (m'.zone k).size).map fun i=>V.ref<|g.pp k i) (fun n σ H'=> ∃ v' o1 o2,σ= [some<|.ref g.run,some<|.int<|AD k,some<|.ref ld,o1,o2]/\BX K A E ⟨W,g,m.steps,m.inFont,Q⟩ W2 v' (Eo false m' k 0 y0 i0 w n) H' (.ok<|Eo false m' k 0 y0 i0 w (m'.zone k).size)) ⟨v,none,none,rfl,c'⟩ ?_ ?_ ?_
 ·rintro n σ H3 hn ⟨v3,o1,o2,rfl,c⟩
  have q:=c.h.zl w1
  rw[sz]at q
  exact BF.of q
 ·rintro n x σ H3 tt hx ht ⟨v3,o1,o2,rfl,c⟩
  obtain⟨hi,rfl⟩:=ACk hx
  have hi2:n<((Eo false m' k 0 y0 i0 w n).zone k).size:=by rw[sz];exact hi
  replace c:=c.new (o:= .tup [.int (n:Nat),.ref<|g.pp k n]) ht
  refine⟨_,_,rfl,Dh.of AJ,rfl,_,_,rfl,_,_,rfl,rfl,?_⟩
  have L3:=c.h.sub _ _ L1
  refine⟨L3,FQ,N7,rfl,A7 (fun e=>?_) fun e=>?_⟩
  ·refine⟨c.h.pt w1 hi2,YR,L3,FQ,SX,oU c w1 hi2 L2 fun v6 H6 kp c=>⟨v6,_,_,rfl,?_⟩⟩
   rw[Gv,AG fun z=>neN e z.1,L0]
   exact c
  ·refine⟨L3,FQ,bB,rfl,A7 (fun e2=>?_) fun e2=>?_⟩
   ·refine⟨c.h.pt w1 hi2,YR,L3,FQ,SX,oU c w1 hi2 L2 fun v6 H6 kp c=>⟨v6,_,_,rfl,?_⟩⟩
    rw[Gv,AG fun z=>neN e2<|by rw[z.2,L0],L0]
    exact c
   ·refine⟨v3,_,_,rfl,?_⟩
    rw[Gv,AI ⟨eqN e,by rw[L0];exact eqN e2⟩]
    exact c
 ·rintro σ H3 ⟨v3,o1,o2,rfl,c⟩
  rw[A8,CO]at c
  exact c.done
noncomputable def startB(b:Nat):Nat:=if b=93\/b=115 then 0 else if b=113\/b=116 then 16 else 32
noncomputable def Cy(b:Nat):Prop:=b=93\/b=113\/b=114\/b=115\/b=116\/b=117
def rS(h:Cy b):E2 (K9 A) (.inl<|AD b)=some (.int<|AD<|startB b):=by
 rcases h with rfl | rfl | rfl | rfl | rfl | rfl<;>rfl
noncomputable def JS(g:B2)(m:Ht.M)(a:Int):Bool:=decide (Ht.unsigned a/16%16+m.kept.base+startB g.byte=m.dots)
noncomputable def Hc(m:Ht.M)(a:Int):Int:=(if Ht.unsigned a%16<8 then AD (Ht.unsigned a%16)-8 else AD (Ht.unsigned a%16)-7)*2^(6-m.kept.shift)
inductive ABz(K:AS)(A:B4)(vs:List V)(H:Hp)(Q:VK)(E:XK):Prop
 | mk: ∀ W g v m a,vs= [.ref g.run,.int a]->R K A W g v m H->Cy g.byte->Q (.bl (JS g m a)) H->ABz K A vs H Q E
inductive ACg(K:AS)(A:B4)(vs:List V)(H:Hp)(Q:VK)(E:XK):Prop
 | mk: ∀ W g v m a,vs= [.ref g.run,.int a]->R K A W g v m H->Q (.int (Hc m a)) H->ACg K A vs H Q E
def AES(a:Int):BN a 16%16=AD (Ht.unsigned a/16%16):=by
 rw[Fq _<|by decide]
 unfold Ht.unsigned
 have h0:0<=a%4294967296:=fK _<|by decide
 obtain⟨n,hn⟩:=O6 h0
 rw[hn]
 lia
def mw(a:Int):a%16=AD (Ht.unsigned a%16):=wy ⟨268435456,rfl⟩ (by decide)
def AAh(h:s<=6):(64:Int)/2^(AD s).toNat=2^(6-s):=by
 have:s=0\/s=1\/s=2\/s=3\/s=4\/s=5\/s=6:=by lia
 rcases this with rfl | rfl | rfl | rfl | rfl | rfl | rfl<;>rfl
def Nf (TD:K1 P w K A):O0 P w base 1 102 ["run","told"] (ABz K A):=by
 refine T.Nb.F.DL ["run","told"] fun H vs Q E hr h=>?_
 obtain⟨W,g,v,m,a,rfl,h,hb,k⟩:=h
 refine⟨_,(AF<|AY<|IG BD (AU BJ (AU BJ (AU Dz (AU Bn AV AE) AE)<|AR<|AR<|AR AH)<|bT (DZ rfl T.k.Xh<|show L2.RelV (.ref<|A.tg 4) _ from rfl) (AR AH) fun _ _=>rfl)<|AR<|AR AH),?_⟩
 unfold JS at k
 refine⟨⟨by decide,by decide⟩,(by show(0:Int)<_;decide),h.run,AL,A_,h.gr,AW,DX,h.kp,BG,Kc,h.run,AL,BL,_,_,.inl<|AD g.byte,_,rfl,TD.cf,rfl,rS hb,h.run,AL,A_,h.gr,AW,Vy,rfl,?_⟩
 rw[AES,Jy]
 have e:decide (AD (Ht.unsigned a/16%16)+AD m.kept.base+AD (startB g.byte)=AD m.dots)=decide (Ht.unsigned a/16%16+m.kept.base+startB g.byte=m.dots):=by
  apply p_.mpr
  constructor
  ·intro q;exact B6 q
  ·intro q;rw[<-q];rfl
 rw[e]
 exact k
def Mj :O0 P w base 1 103 ["run","told"] (ACg K A):=by
 refine T.LZ.F.DL ["run","told","choice","steps"] fun H vs Q E hr h=>?_
 obtain⟨W,g,v,m,a,rfl,h,k⟩:=h
 refine⟨_,(AB (AO 2<|AU Dz AV AE)<|AB (AO 3<|Bm (A0 Dq Aj AE) (AU B3 Aj AE)<|AU B3 Aj AE)<|AF<|AY<|AU Bb A6<|AU ABK AE<|AR<|AR<|AR AH),?_⟩
 unfold Hc at k
 have hs:=h.good.shift
 have bd: ∀ x:Int,-(2^64)<x/\x<2^64->tR x ((64:Int)/2^(AD m.kept.shift).toNat):=fun x hx=> .inl hx
 have ub:Ht.unsigned a%16<16:=FD _<|by decide
 refine⟨(by show(0:Int)<_;decide),?_⟩
 refine A7 (fun e=>?_) fun e=>?_
 ·have e':=An e
  rw[mw]at e'
  have e2:=BQ.mp e'
  rw[AI e2]at k
  refine⟨h.run,AL,A_,h.gr,AW,DX,h.kp,BG,GS,FG _,bd _<|by lia,?_⟩
  rw[mw,AAh hs]
  exact k
 ·have e':=Ew (Eu.mpr e)
  rw[mw]at e'
  have e2: ¬ Ht.unsigned a%16<8:=fun z=>e'<|BQ.mpr z
  rw[AG e2]at k
  refine⟨h.run,AL,A_,h.gr,AW,DX,h.kp,BG,GS,FG _,bd _<|by lia,?_⟩
  rw[mw,AAh hs]
  exact k
section
variable{W W':Hp}{g:B2}{v:Var}{m:Ht.M}{H:Hp}{Q:VK}{E E':XK}{z:Fx}{r:Ht.R Ht.M}{a b:AK}{y i:Nat}{d:Int}
def AD6(c:BX K A E z W v m H r)(hb:Cy z.g.byte)(k:Q (.bl<|JS z.g m x) H):ABz K A [.ref z.g.run,.int x] H Q E':=⟨W,z.g,v,m,x,rfl,c.h,hb,k⟩
def ADb(c:BX K A E z W v m H r)(k:Q (.int<|Hc m x) H):ACg K A [.ref z.g.run,.int x] H Q E':=⟨W,z.g,v,m,x,rfl,c.h,k⟩
noncomputable def PA(K:AS)(W:Hp):List AK->List (Int×Int)->Prop
 | [],[]=>True
 | t::ts,p::ps=>Dh K W t (pV p)/\PA K W ts ps
 | _,_=>False
theorem PA.mono(s:Bc W W'): ∀{ts:List AK} {ps:List (Int×Int)},PA K W ts ps->PA K W' ts ps
 | [],[],_=>Io
 | _::_,_::_,h=>⟨BY s h.1,PA.mono s h.2⟩
 | [],_::_,h=>h
 | _::_,[],h=>h
theorem PA.snoc{p:Int×Int}(e:Dh K W t (pV p)): ∀{ts:List AK} {ps:List (Int×Int)},PA K W ts ps->PA K W (ts++ [t]) (ps++ [p])
 | [],[],_=>⟨e,Io⟩
 | _::_,_::_,h=>⟨h.1,PA.snoc e h.2⟩
 | [],_::_,h=>h.elim
 | _::_,[],h=>h.elim
theorem PA.len: ∀{ts:List AK} {ps:List (Int×Int)},PA K W ts ps->ts.length=ps.length
 | [],[],_=>rfl
 | _::_,_::_,h=>BO (· +1)<|PA.len h.2
 | [],_::_,h=>h.elim
 | _::_,[],h=>h.elim
theorem PA.get: ∀{ts:List AK} {ps:List (Int×Int)} {j:Nat} {t:AK},PA K W ts ps->ts[j]?=some t-> ∃ p,Dh K W t (pV p)/\ps.drop j=p::ps.drop (j+1)
 | [],[],_,_,_,h=>by simp at h
 | t::ts,p::ps,0,_,h,e=>by simp at e;subst e;exact⟨p,h.1,rfl⟩
 | t::ts,p::ps,j+1,_,h,e=>by
  obtain⟨q,h1,h2⟩:=PA.get (j:=j) h.2<|by simpa using e
  exact⟨q,h1,by simpa using h2⟩
 | [],_::_,_,_,h,_=>h.elim
 | _::_,[],_,_,h,_=>h.elim
end
noncomputable def Rx(B:Int×Int->Ht.M->(Ht.M->Ht.R Ht.M)->Ht.R Ht.M):List (Int×Int)->Ht.M->(Ht.M->Ht.R Ht.M)->Ht.R Ht.M
 | [],m,F=>F m
 | x::l,m,F=>B x m fun m=>Rx B l m F
noncomputable def pairsOf(l:List Int)(n:Nat):List (Int×Int):=(BM n).map fun i=>(l.getD (2*i+1) 0,l.getD (2*i) 0)
noncomputable def To(m:Ht.M)(F:Ht.M->List (Int×Int)->Ht.R Ht.M):Ht.R Ht.M:=tk m fun m a=>t_ m (2*Ht.unsigned a) fun m l=>F m (pairsOf l<|Ht.unsigned a)
inductive AAo(K:AS)(A:B4)(vs:List V)(H:Hp)(Q':VK)(E:XK):Prop
 | mk: ∀ z W v m F,vs= [.ref z.g.run]->BX K A E z W v m H (To m F)->(∀ L ts ps W' m' H',Bc W W'->W' L=some (.lst (ts.map .ref))->PA K W' ts ps->BX K A E z W' v m' H' (F m' ps)->Q' (.ref L) H')->AAo K A vs H Q' E
noncomputable def AB2(K:AS)(A:B4):Sp:=AAo K A
def jy:pairsOf l (n+1)=pairsOf l n++ [(l.getD (2*n+1) 0,l.getD (2*n) 0)]:=by
 unfold pairsOf
 rw[Ha,FF]
 rfl
def QO :OF P w base 4 101 ["run"] (AB2 K A):=by
 refine T.Q_.F.V6 ["run","count","numbers","place"] fun H vs Q E hr h=>?_
 obtain⟨z,W,v,m,F,rfl,c,k⟩:=h
 refine⟨_,(AB (AO 1<|Ah E6 T.GY<|Af<|BI AH AM T.AZ)<|AB (lH (i:=2) (show Iu (["run","count","numbers","place"]:List Str) by decide+kernel) rfl (DD rfl)<|Be AH G1 T.HL<|Af<|AU Bb AE AV)<|AF<|AY<|vJ (own:= [("place",3)]) rfl (show Iu (["run","count","numbers","place"]:List Str) by decide+kernel) (T3 rfl T.k.KC<|Af AV) (show NY ["run","count","numbers","place"] (BZ<|top 124) _ _ from K4<|by decide+kernel) (fun _ _ _ _ _=>(Fe 3)) (fun _ _ _ _ _=>RM) fun _ _ _ _ _=>(JK<|Ax (A9 (show t9 _ (vi K)from Ab) Aj<|AU BJ (AU Bb AE A6) AE)<|A9 (show t9 _ (vi K)from Ab) Aj<|AU Bb AE A6)),?_⟩
 refine⟨c.rn,Al,Am c fun a s1 H1 i1 c=>?_⟩
 refine⟨_,rfl,trivial,?_⟩
 show RZ 1 (.int<|a%4294967296) _ _ _
 rw[Fn]
 have b1:=c.h.good.st
 refine⟨c.rn,OD,.inl ⟨by decide,by decide⟩,wq c fun l H2 e1 w1 c=>?_⟩
 have e1':=e1
 obtain⟨n,hn⟩: ∃ n,n=Ht.unsigned a:=⟨_,rfl⟩
 rw[<-hn]at c e1' ⊢
 obtain⟨nu,hnu⟩: ∃ nu,nu=s1.take (2*n):=⟨_,rfl⟩
 have c':BX K A E z (upd W l<|.lst<|iV nu) v (Bs m<|s1.drop<|2*n) H2 (F (Bs m<|s1.drop<|2*n)<|pairsOf nu n):=by rw[hnu];exact c
 clear c
 have ln:(iV nu).length=2*n:=by rw[hnu,Bq,HP];lia
 have nlt:n<=64:=by lia
 refine⟨_,rfl,(by lia),(by lia),fun D hD=>XS (fun i H'=> ∃ W' ts,Bc (upd W l<|.lst<|iV nu) W'/\RL K A W' z.g v (Bs m<|s1.drop<|2*n) H' D (.lst<|ts.map .ref)/\PA K W' ts (pairsOf nu i)) ⟨_,[],same_refl,RL.lG c'.h hD,trivial⟩ ?_ ?_⟩
 ·rintro i H3 hi ⟨W3,ts,s3,hL,pa⟩
  have hl3:=hL.r.sub _ _<|s3 _ _ AJ
  have x1:Wz (iV nu) (2*(0+(i:Int))+1)=some (.int<|nu.getD (2*i+1) 0):=by
   rw[show(2*(0+(i:Int))+1)=AD (2*i+1) by show(2*(0+(i:Int))+1)=((2*i+1:Nat):Int);lia]
   exact vo<|by lia
  have x2:Wz (iV nu) (2*(0+(i:Int)))=some (.int<|nu.getD (2*i) 0):=by
   rw[show(2*(0+(i:Int)))=AD (2*i) by show(2*(0+(i:Int)))=((2*i:Nat):Int);lia]
   exact vo<|by lia
  refine⟨rfl,.inl ⟨by decide,by decide⟩,BF.of hl3,x1,.inl ⟨by decide,by decide⟩,BF.of hl3,x2,(by show 2<=sizeLine;decide),fun t ht=>?_⟩
  have hp2:(pairsOf nu i).length=i:=by unfold pairsOf;rw[A8,CO]
  have neD:=Ac hL.at_ ht
  refine⟨ts.map .ref,(by rw[AQ neD];exact hL.at_),(by rw[A8,pa.len,hp2];exact DO hi<|CC nlt<|by decide),?_⟩
  have hN:RL K A (upd W3 t<|.tup<|pV (nu.getD (2*i+1) 0,nu.getD (2*i) 0)) z.g v (Bs m<|s1.drop<|2*n) (upd H3 t<|.tup<|pV (nu.getD (2*i+1) 0,nu.getD (2*i) 0)) D (.lst<|ts.map .ref):=
   ⟨hL.r.M_ ht,(by rw[AQ neD];exact hL.at_),(by rw[AQ neD];exact hL.w),hL.ne⟩
  refine⟨upd W3 t<|.tup<|pV (nu.getD (2*i+1) 0,nu.getD (2*i) 0),ts++ [t],fun b o e=>Bd (hL.r.free ht) b o<|s3 b o e,?_,?_⟩
  ·rw[FF]
   exact hN.ACh
  ·rw[jy]
   exact(pa.mono<|Bd<|hL.r.free ht).snoc<|Dh.of AJ
 ·rintro H3 ⟨W3,ts,s3,hL,pa⟩
  have sW:Bc (upd W l<|.lst<|iV nu) (upd W3 D<|.lst<|ts.map .ref):=fun b o e=>Bd hL.w b o<|s3 b o e
  exact k D ts _ _ _ _ (fun b o e=>sW b o<|Bd w1 b o e) AJ (pa.mono<|Bd hL.w)<|c'.go sW hL.lB
def AE7(c:BX K A E z W v m H (To m F))(k: ∀ L ts ps W' m' H',Bc W W'->W' L=some (.lst<|ts.map .ref)->PA K W' ts ps->BX K A E z W' v m' H' (F m' ps)->Q (.ref L) H'):AB2 K A [.ref z.g.run] H Q E:=by
 unfold AB2
 exact⟨z,W,v,m,F,rfl,c,k⟩
noncomputable def Jp(K:AS)(A:B4)(E:XK)(z:Fx)(Wl:Hp)(S:List (Option V)->Prop)(B:Int×Int->Ht.M->(Ht.M->Ht.R Ht.M)->Ht.R Ht.M)(F:Ht.M->Ht.R Ht.M)(rest:List (Int×Int))(σ:List (Option V))(H:Hp):Prop:=
 S σ/\ ∃ W v m,Bc Wl W/\BX K A E z W v m H (Rx B rest m F)
def pL{gg:TG}{tb:TS}{D:Ends}(hl:Wl l=some (.lst<|ts.map .ref))(pa:PA K Wl ts ps)
  (S:List (Option V)->Prop) (h0:Jp K A E z Wl S B F ps σ H)
  (hs: ∀ p t rest σ W v m H,S σ->Bc Wl W->Dh K W t (pV p)->BX K A E z W v m H (B p m fun m=>Rx B rest m F)->gg (.ref t) σ H fun σ2 H2=>tb {D with nx:=Jp K A E z Wl S B F rest,ct:=Jp K A E z Wl S B F rest,bk:=D.nx} σ2 H2)
  (hd: ∀ σ W v m H,S σ->Bc Wl W->BX K A E z W v m H (F m)->D.nx σ H):
  ∃ W:Nat->Nat->List (Option V)->Hp->Prop,(∃ m,W 0 m σ H)/\ ∀ i m σ H,W i m σ H->
   ((mZ K l).stop i H/\D.nx σ H)\/((mZ K l).go i H/\ ∃ N:List (Option V)->Hp->Prop,(∀ σ' H',N σ' H'-> ∃ m',m'<m/\W (i+1) m' σ' H')/\ ∀ x H',(mZ K l).uC i H x H'->gg x σ H' fun σ2 H2=>tb {D with nx:=N,ct:=N,bk:=D.nx} σ2 H2):=by
 refine SN (K:=K) (a:=l) (xs:=ts.map .ref) (fun i σ H=>Jp K A E z Wl S B F (ps.drop i) σ H) (by rw[G0];exact h0) ?_ ?_ ?_
 ·rintro i σ H _ ⟨_,W,v,m,s,c⟩
  exact BF.of<|c.h.sub _ _<|s _ _ hl
 ·rintro i x σ H hx ⟨hS,W,v,m,s,c⟩
  rw[CY]at hx
  cases et:ts[i]? with
  | none=>rw[et]at hx;cases hx
  | some t=>
   rw[et]at hx
   cases hx
   obtain⟨p,h1,h2⟩:=pa.get et
   rw[h2]at c
   exact hs p t _ σ W v m H hS s (BY s h1) c
 ·rintro σ H ⟨hS,W,v,m,s,c⟩
  rw[A8,pa.len,bw]at c
  exact hd σ W v m H hS s c
noncomputable def NQ(g:B2)(m:Ht.M):Ht.R Ht.M:=To m fun m ps=>Rx (fun p m F=>wi p.2 (m.zone<|zp m 0).size fun i=>if JS g m p.1=true then F (m.move (zp m 0) i<|Hc m p.1)else F m) ps m .ok
noncomputable def Kr(g:B2)(m:Ht.M):Ht.R Ht.M:=To m fun m ps=>Rx (fun p m F=>wi p.2 (iV m.values).length fun i=>if JS g m p.1=true then F {m with values:=m.values.set i<|Ht.cut<|m.values.getD i 0+Hc m p.1}else F m) ps m .ok
def II (TD:K1 P w K A):OA P w base 6 104 NQ (Cy):=by
 refine T.Ij.F.act ["run","told","number","point"] fun H Q E W g v m hr hb c=>⟨_,(AF<|EM PassesOwn.leaving rfl (Gd<|Ah QO T.Q_<|Af AH) (RH rfl<|Dk (Fe 1)<|Dk (Fe 2) MX)<|AB (AO 3<|Be AH A5 T.BV<|Ax AE Aj)<|AF<|Aq (MN<|Ah (Nf TD) T.Nb<|Ax AH AV) (AF<|Ad<|Ah HR T.move<|CH AH A6<|Ah Mj T.LZ<|Ax AH AV) AX),AE7 c fun L ts ps W1 m1 H1 s1 hL pa c=>⟨⟨_,BF.of<|c.h.sub _ _ hL⟩,pL hL pa (fun σ=> ∃ o1 o2 o3,σ= [some<|.ref g.run,o1,o2,o3]) ⟨⟨none,none,none,rfl⟩,_,_,_,same_refl,c⟩ ?_ ?_⟩⟩
 ·rintro p t rest σ W2 v2 m2 H2 ⟨o1,o2,o3,rfl⟩ sm hT c
  refine⟨_,_,rfl,BY c.h.sub hT,rfl,_,_,rfl,_,_,rfl,rfl,c.rn,B5,B9 c (by decide) fun p0 c=>?_⟩
  refine AD6 c hb<|AA3 c (fun e c=>?_) fun e c=>⟨⟨_,_,_,rfl⟩,_,_,_,sm,c⟩
  ·exact ADb c<|DY c (Ci c.h.good 0) p0 fun W6 v6 H6 s6 kp c=>⟨⟨_,_,_,rfl⟩,_,_,_,fun b o e=>s6 b o<|sm b o e,c⟩
 ·rintro σ W1 v1 m1 H1 ⟨o1,o2,o3,rfl⟩ sm c
  exact c.done
def GI (TD:K1 P w K A):OA P w base 5 105 Kr (Cy):=by
 refine T.F0.F.act ["run","controls","told","number","place"] fun H Q E W g v m hr hb c=>⟨_,(AB (AO 1<|AR<|AR AH)<|AF<|EM PassesOwn.leaving rfl (Gd<|Ah QO T.Q_<|Af AH) (RH rfl<|Dk (Fe 2)<|Dk (Fe 3) MX)<|AB (AO 4<|Ah Cn T.within<|Ax A6<|Dc T.k.CD<|Af AV)<|AF<|Aq (MN<|Ah (Nf TD) T.Nb<|Ax AH Aj) (AF<|Hz (Ah Dx T.cut<|Af<|AU BJ (A9 Ab AV CG)<|Ah Mj T.LZ<|Ax AH Aj)<|Hx AV CG set_list) AX),c.rn,AL,A_,c.h.gr,AW,Hj,AE7 c fun L ts ps W1 m1 H1 s1 hL pa c=>⟨⟨_,BF.of<|c.h.sub _ _ hL⟩,pL hL pa (fun σ=> ∃ o1 o2 o3,σ= [some<|.ref g.run,some<|.ref g.Cq,o1,o2,o3]) ⟨⟨none,none,none,rfl⟩,_,_,_,same_refl,c⟩ ?_ ?_⟩⟩
 ·rintro p t rest σ W2 v2 m2 H2 ⟨o1,o2,o3,rfl⟩ sm hT c
  refine⟨_,_,rfl,BY c.h.sub hT,rfl,_,_,rfl,_,_,rfl,rfl,.inl<|BF.of c.h.Cq,DV c fun w1 c=>AD6 c hb<|AA3 c (fun e c=>?_) fun e c=>⟨⟨_,_,_,rfl⟩,_,_,_,sm,c⟩⟩
  ·refine⟨BF.of c.h.Cq,vo w1,ADb c ⟨_,rfl,trivial,_,_,_,_,rfl,rfl,c.h.Cq,ixn w1,?_⟩⟩
   rw[eY]
   replace c:=c.go same_refl<|c.h.QW (i:=Ht.unsigned p.2) (x:=Ht.cut<|m2.values.getD (Ht.unsigned p.2) 0+Hc m2 p.1)<|Du _
   exact⟨⟨_,_,_,rfl⟩,_,_,_,sm,c⟩
 ·rintro σ W1 v1 m1 H1 ⟨o1,o2,o3,rfl⟩ sm c
  exact c.done
def nt(h:b=a+2*n)(hb:b<=100000):RgC (AD a) (AD b) 2 n:=by
 show RgC (a:Int) (b:Int) 2 n
 have rs:PV (a:Int) (b:Int) 2=(n:Int):=by
  unfold PV
  rw[AI<|by decide]
  split<;>lia
 refine⟨by decide,by decide,?_,rs⟩
 have h1: ∀ x:Int,0<=x->x<=200000->rE x=true:=fun x h2 h3=>by
  unfold rE
  rw[Ol,Lz,Lz]
  lia
 unfold eh
 rw[rs]
 rw[h1 (a:Int) (by lia)<|by lia,h1 (b:Int) (by lia)<|by lia,h1 2 (by decide)<|by decide,h1 (n:Int) (by lia)<|by lia,AI<|by decide,h1 ((b:Int)+(2-1)) (by lia)<|by lia,cC]
 rfl
structure B_(g:B2)(m:Ht.M):Prop where
 lt:g.place<(codeB g m.inFont).length
 byte:g.byte=Ht.byteAt (codeB g m.inFont) g.place
 after:m.place=g.place+DB (codeB g m.inFont) g.place
inductive xC(K:AS)(A:B4)(f:B2->Ht.M->Ht.R Ht.M)(vs:List V)(H:Hp)(Q:VK)(E:XK):Prop
 | mk: ∀ W g v m,vs= [.ref g.run]->R K A W g v m H->B_ g m->Out K A W g m.steps m.inFont (f g m) Q E->xC K A f vs H Q E
noncomputable def rm:Int->Ht.M->(Ht.M->Ht.R Ht.M)->Ht.R Ht.M:=fun x m F=>gv m x F
def R_:Dp rm (x::l) m .ok=gv m x fun m'=>Dp rm l m' .ok:=rfl
noncomputable def jb(g:B2)(k:Nat):Nat:=if AD g.byte=AD k then g.place+2 else g.place+1
noncomputable def GG(g:B2)(m:Ht.M):Ht.R Ht.M:=Dp rm (Ht.smalls (codeB g m.inFont) (jb g 64)<|m.place-jb g 64) m .ok
noncomputable def GQ(g:B2)(m:Ht.M):Ht.R Ht.M:=Dp rm (Ht.shorts (codeB g m.inFont) (jb g 65)<|(m.place-jb g 65)/2) m .ok
def Rg{f:Nat->Int}(h:i<n):((BM n).map f).drop i=f i::((BM n).map f).drop (i+1):=by
 rw[Ws<|by rw[A8,CO];exact h,List.getElem_map,o9]
def qD(h:B_ g m)(hk:k=64\/k=65):jb g k<=m.place:=by
 have l1:=Yi (codeB g m.inFont) g.place
 unfold jb
 split
 ·rename_i e
  have e':=B6 e
  rw[h.after]
  have hb:=h.byte
  have:2<=DB (codeB g m.inFont) g.place:=by
   unfold DB
   rw[<-hb,e',AI<|by rcases hk with r | r<;>rw[r]<;>simp]
   split<;>lia
  lia
 ·rw[h.after]
  lia
def Zc :OF P w base 4 107 ["run"] (xC K A GG):=by
 refine T.MO.F.V6 ["run","first","place"] fun H vs Q E hr h=>?_
 obtain⟨W,g,v,m,rfl,h,hb,q⟩:=h
 refine⟨_,(AB (AO 1<|Bm (A0 BD (AR AH) AE) (AU BJ (AR AH) AE)<|AU BJ (AR AH) AE)<|AF<|EM PassesOwn.leaving rfl (Uj rfl T.k.KC<|Ax AV<|AR AH) (Fe 2)<|AF<|Ad<|Be AH A1 T.BW<|Af<|A9 Ab (AR AH) Aj),?_⟩
 have c:=zd h q
 clear h q
 by_cases e:AD g.byte=AD 64
 ·skip
  have ef:jb g 64=g.place+2:=AI e
  have st:jb g 64<=m.place:=qD hb<|by decide
  have pl:=c.h.good.place
  have ll:(codeB g m.inFont).length<=2048:=by
   unfold codeB
   split
   ·exact c.h.good.IV
   ·exact c.h.good.e_
  rw[ef]at st
  refine⟨c.rn,AL,BL,rfl,A7 (fun _=>?_) fun q=>absurd (Av<|BO V.int e) q⟩
  refine⟨c.rn,AL,HY,?_⟩
  obtain⟨n,hn⟩: ∃ n,n=m.place- (g.place+2):=⟨_,rfl⟩
  have c':BX K A E ⟨W,g,m.steps,m.inFont,Q⟩ W v m H (Dp rm (Ht.smalls (codeB g m.inFont) (g.place+2) n) m .ok):=by
   have q:=c
   unfold GG at q
   rw[ef,<-hn]at q
   exact q
  refine⟨c.rn,AL,He,_,_,rfl,(by lia),?_⟩
  have en:(AD m.place- (AD g.place+2)).toNat=n:=by rw[hn];show((m.place:Int)- ((g.place:Int)+2)).toNat=m.place- (g.place+2);lia
  rw[en]
  refine Oq (fun i σ H'=> ∃ sk o,σ= [some<|.ref g.run,some<|.int<|AD g.place+2,o]/\BX K A E ⟨W,g,m.steps,m.inFont,Q⟩ W v (Bs m<|sk) H' (Dp rm ((Ht.smalls (codeB g m.inFont) (g.place+2) n).drop i) (Bs m<|sk) .ok)) ⟨m.stack,none,rfl,by rw[G0];exact c'⟩ ?_ ?_
  ·rintro i σ H1 hi ⟨sk,o,rfl,c⟩
   have hlt:g.place+2+i<(codeB g m.inFont).length:=by lia
   have hd:(Ht.smalls (codeB g m.inFont) (g.place+2) n).drop i=AD (Ht.byteAt (codeB g m.inFont)<|g.place+2+i)::(Ht.smalls (codeB g m.inFont) (g.place+2) n).drop (i+1):=Rg hi
   rw[hd]at c
   replace c:=c.to R_
   exact⟨c.rn,B1,c.rn,AL,FZ,BF.of<|c.h.codeAt _,Ny hlt,Bp c fun H2 e2 c=>⟨_,_,rfl,c⟩⟩
  ·rintro σ H1 ⟨sk,o,rfl,c⟩
   rw[show(Ht.smalls (codeB g m.inFont) (g.place+2) n).drop n= []from RP<|by unfold Ht.smalls;rw[A8,CO];exact BS _]at c
   exact c.done
 ·skip
  have ef:jb g 64=g.place+1:=AG e
  have st:jb g 64<=m.place:=qD hb<|by decide
  have pl:=c.h.good.place
  have ll:(codeB g m.inFont).length<=2048:=by
   unfold codeB
   split
   ·exact c.h.good.IV
   ·exact c.h.good.e_
  rw[ef]at st
  refine⟨c.rn,AL,BL,rfl,A7 (fun q=>absurd (V.int.inj<|An q) e) fun _=>⟨c.rn,AL,HY,?_⟩⟩
  obtain⟨n,hn⟩: ∃ n,n=m.place- (g.place+1):=⟨_,rfl⟩
  have c':BX K A E ⟨W,g,m.steps,m.inFont,Q⟩ W v m H (Dp rm (Ht.smalls (codeB g m.inFont) (g.place+1) n) m .ok):=by
   have q:=c
   unfold GG at q
   rw[ef,<-hn]at q
   exact q
  refine⟨c.rn,AL,He,_,_,rfl,(by lia),?_⟩
  have en:(AD m.place- (AD g.place+1)).toNat=n:=by rw[hn];show((m.place:Int)- ((g.place:Int)+1)).toNat=m.place- (g.place+1);lia
  rw[en]
  refine Oq (fun i σ H'=> ∃ sk o,σ= [some<|.ref g.run,some<|.int<|AD g.place+1,o]/\BX K A E ⟨W,g,m.steps,m.inFont,Q⟩ W v (Bs m<|sk) H' (Dp rm ((Ht.smalls (codeB g m.inFont) (g.place+1) n).drop i) (Bs m<|sk) .ok)) ⟨m.stack,none,rfl,by rw[G0];exact c'⟩ ?_ ?_
  ·rintro i σ H1 hi ⟨sk,o,rfl,c⟩
   have hlt:g.place+1+i<(codeB g m.inFont).length:=by lia
   have hd:(Ht.smalls (codeB g m.inFont) (g.place+1) n).drop i=AD (Ht.byteAt (codeB g m.inFont)<|g.place+1+i)::(Ht.smalls (codeB g m.inFont) (g.place+1) n).drop (i+1):=Rg hi
   rw[hd]at c
   replace c:=c.to R_
   exact⟨c.rn,B1,c.rn,AL,FZ,BF.of<|c.h.codeAt _,Ny hlt,Bp c fun H2 e2 c=>⟨_,_,rfl,c⟩⟩
  ·rintro σ H1 ⟨sk,o,rfl,c⟩
   rw[show(Ht.smalls (codeB g m.inFont) (g.place+1) n).drop n= []from RP<|by unfold Ht.smalls;rw[A8,CO];exact BS _]at c
   exact c.done
inductive uk(K:AS)(A:B4)(f:B2->Ht.M->Ht.R Ht.M)(vs:List V)(H:Hp)(Q:VK)(E:XK):Prop
 | mk: ∀ W g v m,vs= [.ref g.run]->R K A W g v m H->((B_ g m/\(g.byte=65\/184<=g.byte/\g.byte<=191)))->Out K A W g m.steps m.inFont (f g m) Q E->uk K A f vs H Q E
def Zt :OF P w base 4 108 ["run"] (uk K A GQ):=by
 refine T.Mc.F.V6 ["run","first","place"] fun H vs Q E hr h=>?_
 obtain⟨W,g,v,m,rfl,h,hb,q⟩:=h
 refine⟨_,(AB (AO 1<|Bm (A0 BD (AR AH) AE) (AU BJ (AR AH) AE)<|AU BJ (AR AH) AE)<|AF<|EM PassesOwn.leaving rfl (aT rfl T.k.KC<|CH AV (AR AH) AE) (Fe 2)<|AF<|Ad<|Be AH A1 T.BW<|Af<|Ah MK T.PB<|Af<|AU BJ (AU Bb AE<|A9 Ab (AR AH) Aj)<|A9 Ab (AR AH)<|AU BJ Aj AE),?_⟩
 have c:=zd h q
 clear h q
 obtain⟨hb,hbs⟩:=hb
 have hw: ¬ g.byte=65->184<=g.byte/\g.byte<=191:=fun n=>hbs.elim (fun z=>absurd z n) id
 by_cases e:AD g.byte=AD 65
 ·skip
  have ef:jb g 65=g.place+2:=AI e
  have st:jb g 65<=m.place:=qD hb<|by decide
  have pl:=c.h.good.place
  have ll:(codeB g m.inFont).length<=2048:=by
   unfold codeB
   split
   ·exact c.h.good.IV
   ·exact c.h.good.e_
  rw[ef]at st
  refine⟨c.rn,AL,BL,rfl,A7 (fun _=>?_) fun q=>absurd (Av<|BO V.int e) q⟩
  refine⟨c.rn,AL,HY,?_⟩
  obtain⟨n,hn⟩: ∃ n,n=(m.place- (g.place+2))/2:=⟨_,rfl⟩
  have evn:m.place=g.place+2+2*n:=by
   rw[hn]
   have a1:=hb.after
   have a2:=hb.byte
   unfold DB at a1
   rw[<-a2]at a1
   have e':=B6 e
   rw[e',AI<|by simp]at a1
   split at a1
   ·lia
   ·lia
  have c':BX K A E ⟨W,g,m.steps,m.inFont,Q⟩ W v m H (Dp rm (Ht.shorts (codeB g m.inFont) (g.place+2) n) m .ok):=by
   have q:=c
   unfold GQ at q
   rw[ef,<-hn]at q
   exact q
  refine⟨c.rn,AL,He,_,_,_,n,rfl,nt evn<|by lia,Qo (fun i σ H'=> ∃ sk o,σ= [some<|.ref g.run,some<|.int<|AD g.place+2,o]/\BX K A E ⟨W,g,m.steps,m.inFont,Q⟩ W v (Bs m<|sk) H' (Dp rm ((Ht.shorts (codeB g m.inFont) (g.place+2) n).drop i) (Bs m<|sk) .ok)) ⟨m.stack,none,rfl,by rw[G0];exact c'⟩ ?_ ?_⟩
  ·rintro i σ H1 hi ⟨sk,o,rfl,c⟩
   have l1:g.place+2+2*i<(codeB g m.inFont).length:=by lia
   have l2:g.place+2+2*i+1<(codeB g m.inFont).length:=by lia
   have hd:(Ht.shorts (codeB g m.inFont) (g.place+2) n).drop i=Ht.half (AD<|256*Ht.byteAt (codeB g m.inFont) (g.place+2+2*i)+Ht.byteAt (codeB g m.inFont) (g.place+2+2*i+1))::(Ht.shorts (codeB g m.inFont) (g.place+2) n).drop (i+1):=Rg hi
   rw[hd]at c
   replace c:=c.to R_
   have ix:AD (g.place+2)+(i:Int)*2=AD (g.place+2+2*i):=by show((g.place+2:Nat):Int)+(i:Int)*2=((g.place+2+2*i:Nat):Int);lia
   show RZ 2 (.int<|AD (g.place+2)+(i:Int)*2) _ _ _
   rw[ix]
   exact⟨c.rn,B1,c.rn,AL,FZ,BF.of<|c.h.codeAt _,Ny l1,.inl ⟨by decide,by decide⟩,c.rn,AL,FZ,BF.of<|c.h.codeAt _,Ny l2,_,rfl,trivial,Bp c fun H2 e2 c=>⟨_,_,rfl,c⟩⟩
  ·rintro σ H1 ⟨sk,o,rfl,c⟩
   rw[show(Ht.shorts (codeB g m.inFont) (g.place+2) n).drop n= []from RP<|by unfold Ht.shorts;rw[A8,CO];exact BS _]at c
   exact c.done
 ·skip
  have ef:jb g 65=g.place+1:=AG e
  have st:jb g 65<=m.place:=qD hb<|by decide
  have pl:=c.h.good.place
  have ll:(codeB g m.inFont).length<=2048:=by
   unfold codeB
   split
   ·exact c.h.good.IV
   ·exact c.h.good.e_
  rw[ef]at st
  refine⟨c.rn,AL,BL,rfl,A7 (fun q=>absurd (V.int.inj<|An q) e) fun _=>⟨c.rn,AL,HY,?_⟩⟩
  obtain⟨n,hn⟩: ∃ n,n=(m.place- (g.place+1))/2:=⟨_,rfl⟩
  have evn:m.place=g.place+1+2*n:=by
   rw[hn]
   have a1:=hb.after
   have a2:=hb.byte
   unfold DB at a1
   rw[<-a2]at a1
   rcases hw (fun z=>e<|by rw[z])with⟨q1,q2⟩
   rw[AG<|by lia,AG<|by lia,AI ⟨q1,q2⟩]at a1
   lia
  have c':BX K A E ⟨W,g,m.steps,m.inFont,Q⟩ W v m H (Dp rm (Ht.shorts (codeB g m.inFont) (g.place+1) n) m .ok):=by
   have q:=c
   unfold GQ at q
   rw[ef,<-hn]at q
   exact q
  refine⟨c.rn,AL,He,_,_,_,n,rfl,nt evn<|by lia,Qo (fun i σ H'=> ∃ sk o,σ= [some<|.ref g.run,some<|.int<|AD g.place+1,o]/\BX K A E ⟨W,g,m.steps,m.inFont,Q⟩ W v (Bs m<|sk) H' (Dp rm ((Ht.shorts (codeB g m.inFont) (g.place+1) n).drop i) (Bs m<|sk) .ok)) ⟨m.stack,none,rfl,by rw[G0];exact c'⟩ ?_ ?_⟩
  ·rintro i σ H1 hi ⟨sk,o,rfl,c⟩
   have l1:g.place+1+2*i<(codeB g m.inFont).length:=by lia
   have l2:g.place+1+2*i+1<(codeB g m.inFont).length:=by lia
   have hd:(Ht.shorts (codeB g m.inFont) (g.place+1) n).drop i=Ht.half (AD<|256*Ht.byteAt (codeB g m.inFont) (g.place+1+2*i)+Ht.byteAt (codeB g m.inFont) (g.place+1+2*i+1))::(Ht.shorts (codeB g m.inFont) (g.place+1) n).drop (i+1):=Rg hi
   rw[hd]at c
   replace c:=c.to R_
   have ix:AD (g.place+1)+(i:Int)*2=AD (g.place+1+2*i):=by show((g.place+1:Nat):Int)+(i:Int)*2=((g.place+1+2*i:Nat):Int);lia
   show RZ 2 (.int<|AD (g.place+1)+(i:Int)*2) _ _ _
   rw[ix]
   exact⟨c.rn,B1,c.rn,AL,FZ,BF.of<|c.h.codeAt _,Ny l1,.inl ⟨by decide,by decide⟩,c.rn,AL,FZ,BF.of<|c.h.codeAt _,Ny l2,_,rfl,trivial,Bp c fun H2 e2 c=>⟨_,_,rfl,c⟩⟩
  ·rintro σ H1 ⟨sk,o,rfl,c⟩
   rw[show(Ht.shorts (codeB g m.inFont) (g.place+1) n).drop n= []from RP<|by unfold Ht.shorts;rw[A8,CO];exact BS _]at c
   exact c.done
end GF
end
section
namespace GF
open PySem PySem.Spec PyProof.Rows L2
structure AAr(X:Cx)(f:AK)(ps:List Str)(sp:Sp)(E:XK):Prop where
 ex: ∃ CX k fd,ES X.prog X.w X.K X.mg X.base CX k f fd ps sp/\EE k X.A/\FT X.K (.ref f)=true/\Binds X.K fd ps []/\Passes CX X E
noncomputable def AB0(X:Cx)(i:Nat)(E:XK)(t:TA):TE:=fun σ H Q=> ∃ f ps sp,σ[i]?=some (some<|.ref f)/\AAr X f ps sp E/\t σ H fun vs H1=>sp vs H1 Q E
def vq{E:XK}{p pos:Pos}(hv:PE X (.Name x p) (Jh i))(ha:L2.PA X (e::es) t)
  (he:Au (e::es) X.env=(false,eval e X.env)::Au es X.env:=by rfl) (hpl:(Co pos<|Au es X.env).any (·.1)=false:=by rfl):
  PE X (.Call (.Name x p) (e::es) [] pos) (AB0 X i E t):=by
 intro pins s σ H Q I ⟨f,ps,sp,hσ,cv,h⟩
 obtain⟨CX,k,fd,F,hr,hk,hb,hx⟩:=cv.ex
 refine Jj<|HV (hv pins s σ H (fun v H1=>v= .ref f/\H1=H) I<|Jg.of hσ ⟨rfl,rfl⟩) fun u s1 v H1 I1 r1 q_=>?_
 obtain⟨e1,e2⟩:=q_
 subst e1 e2
 obtain rfl:u=CL f:=r1
 refine LW I1.ok.mod.xi hk (ki (ha pos pins s1 σ H1 _ I1 h) fun us s2 vs H2 I2 r q=>⟨I2.Qs,?_⟩) he hpl
 exact Xd F hr hb .nil hx I2 r<|by rw[O5];exact q
end GF
end
section
namespace GF
open PySem PySem.Spec PyProof.Rows L2
variable{P:BH}{w:Ap}{K:AS}{mg:Str->Option AN}{base:Ay}{A:B4}[T:Txt K mg A]
noncomputable def Ym(t:List (Key×V))(b:Nat):V:=(E2 t<|.inl<|AD b).getD .non
noncomputable def Hk(A:B4)(b:Nat):V:=if 176<=b/\b<=183 then .ref (A.ad 107)else if 184<=b/\b<=191 then .ref (A.ad 108)else Ym (JV A) b
noncomputable def MP(A:B4)(b:Nat):V:=Ym (QD A) b
noncomputable def Jx(A:B4)(b:Nat):V:=Ym (OS A) b
noncomputable def Hr(A:B4)(b:Nat):V:=if 192<=b/\b<=223 then .ref (A.ad 76)else if 224<=b/\b<=255 then .ref (A.ad 79)else Ym (IA A) b
noncomputable def Uq(A:B4)(b:Nat):V:=Ym (Jo A) b
inductive Qe(f:Nat->V)(vs:List V)(H:Hp)(Q:VK)(E_:XK):Prop
 | mk: ∀ b,vs= [.int (AD b)]->Q (f b) H->Qe f vs H Q E_
noncomputable def Ea(A:B4)(b:Nat):V:=if Hk A b= .non then(if MP A b= .non then(if Jx A b= .non then(if Hr A b= .non then Uq A b else Hr A b)else Jx A b)else MP A b)else Hk A b
def jI (TD:K1 P w K A):O0 P w base 1 44 ["byte"] (Qe<|MP A):=by
 refine T.gz.F.DL ["byte"] fun H vs Q E hr h=>?_
 obtain⟨b,rfl,q⟩:=h
 refine⟨_,(AF<|AY<|N_ (DZ rfl T.k.jN<|show L2.RelV (.ref<|A.tg 2) _ from rfl) AH ⟨rfl,rfl,rfl,rfl⟩),?_⟩
 exact⟨_,_,rfl,TD.rT,.inl<|AD b,rfl,q⟩
def eT (TD:K1 P w K A):O0 P w base 1 166 ["byte"] (Qe<|Jx A):=by
 refine T.Z5.F.DL ["byte"] fun H vs Q E hr h=>?_
 obtain⟨b,rfl,q⟩:=h
 refine⟨_,(AF<|AY<|N_ (DZ rfl T.k.eI<|show L2.RelV (.ref<|A.tg 8) _ from rfl) AH ⟨rfl,rfl,rfl,rfl⟩),?_⟩
 exact⟨_,_,rfl,TD.ji,.inl<|AD b,rfl,q⟩
def eW (TD:K1 P w K A):O0 P w base 1 106 ["byte"] (Qe<|Uq A):=by
 refine T.aB.F.DL ["byte"] fun H vs Q E hr h=>?_
 obtain⟨b,rfl,q⟩:=h
 refine⟨_,(AF<|AY<|N_ (DZ rfl T.k.Vc<|show L2.RelV (.ref<|A.tg 5) _ from rfl) AH ⟨rfl,rfl,rfl,rfl⟩),?_⟩
 exact⟨_,_,rfl,TD.ZS,.inl<|AD b,rfl,q⟩
def bS (TD:K1 P w K A):O0 P w base 1 143 ["byte"] (Qe<|Hk A):=by
 refine T.aC.F.DL ["byte"] fun H vs Q E hr h=>?_
 obtain⟨b,rfl,q⟩:=h
 refine⟨_,(AB (Aq (Kw IT IT AE AH AE) (AF<|AY<|DZ rfl T.MO.g<|show L2.RelV (.ref<|A.ad 107) _ from rfl) AX)<|AB (Aq (Kw IT IT AE AH AE) (AF<|AY<|DZ rfl T.Mc.g<|show L2.RelV (.ref<|A.ad 108) _ from rfl) AX)<|AF<|AY<|N_ (DZ rfl T.k.eR<|show L2.RelV (.ref<|A.tg 6) _ from rfl) AH ⟨rfl,rfl,rfl,rfl⟩),?_⟩
 unfold Hk at q
 have next:Q (if 184<=b/\b<=191 then V.ref (A.ad 108)else Ym (JV A) b) H->xR (uJ (Y9<|b6 (V3 fun i j=> .bl<|decide (i<=j)) (V3 fun i j=> .bl<|decide (i<=j)) (tC<|.int 184) (Jh 0)<|tC<|.int 191) (dt<|tC<|.ref<|A.ad 108) Zw) (dt<|kz P w K (tC<|.ref<|A.tg 6)<|Jh 0) {nx:=fun _ H'=>Q .non H',rt:=Q} [some<|.int<|AD b] H:=by
  intro q
  refine⟨_,rfl,A7 (fun e=>?_) fun e=>?_⟩
  ·have e1:=Bf.mp (An e)
   refine A7 (fun e=>?_) fun e=>?_
   ·have e2:=Bf.mp (An e)
    rw[AI ⟨e1,e2⟩]at q
    exact q
   ·have e2: ¬ b<=191:=fun z=>e (Av<|Bf.mpr z)
    rw[AG fun z=>e2 z.2]at q
    exact⟨_,_,rfl,TD.YU,.inl<|AD b,rfl,q⟩
  ·have e1: ¬ 184<=b:=fun z=>e (Av<|Bf.mpr z)
   rw[AG fun z=>e1 z.1]at q
   exact⟨_,_,rfl,TD.YU,.inl<|AD b,rfl,q⟩
 refine⟨_,rfl,A7 (fun e=>?_) fun e=>?_⟩
 ·have e1:=Bf.mp (An e)
  refine A7 (fun e=>?_) fun e=>?_
  ·have e2:=Bf.mp (An e)
   rw[AI ⟨e1,e2⟩]at q
   exact q
  ·have e2: ¬ b<=183:=fun z=>e (Av<|Bf.mpr z)
   rw[AG fun z=>e2 z.2]at q
   exact next q
 ·have e1: ¬ 176<=b:=fun z=>e (Av<|Bf.mpr z)
  rw[AG fun z=>e1 z.1]at q
  exact(next q)
def dw (TD:K1 P w K A):O0 P w base 1 86 ["byte"] (Qe<|Hr A):=by
 refine T.Zz.F.DL ["byte"] fun H vs Q E hr h=>?_
 obtain⟨b,rfl,q⟩:=h
 refine⟨_,(AB (Aq (Kw IT IT AE AH AE) (AF<|AY<|DZ rfl T.Gx.g<|show L2.RelV (.ref<|A.ad 76) _ from rfl) AX)<|AB (Aq (Kw IT IT AE AH AE) (AF<|AY<|DZ rfl T.IK.g<|show L2.RelV (.ref<|A.ad 79) _ from rfl) AX)<|AF<|AY<|N_ (DZ rfl T.k.ZH<|show L2.RelV (.ref<|A.tg 3) _ from rfl) AH ⟨rfl,rfl,rfl,rfl⟩),?_⟩
 unfold Hr at q
 have next:Q (if 224<=b/\b<=255 then V.ref (A.ad 79)else Ym (IA A) b) H->xR (uJ (Y9<|b6 (V3 fun i j=> .bl<|decide (i<=j)) (V3 fun i j=> .bl<|decide (i<=j)) (tC<|.int 224) (Jh 0)<|tC<|.int 255) (dt<|tC<|.ref<|A.ad 79) Zw) (dt<|kz P w K (tC<|.ref<|A.tg 3)<|Jh 0) {nx:=fun _ H'=>Q .non H',rt:=Q} [some<|.int<|AD b] H:=by
  intro q
  refine⟨_,rfl,A7 (fun e=>?_) fun e=>?_⟩
  ·have e1:=Bf.mp (An e)
   refine A7 (fun e=>?_) fun e=>?_
   ·have e2:=Bf.mp (An e)
    rw[AI ⟨e1,e2⟩]at q
    exact q
   ·have e2: ¬ b<=255:=fun z=>e (Av<|Bf.mpr z)
    rw[AG fun z=>e2 z.2]at q
    exact⟨_,_,rfl,TD.Ur,.inl<|AD b,rfl,q⟩
  ·have e1: ¬ 224<=b:=fun z=>e (Av<|Bf.mpr z)
   rw[AG fun z=>e1 z.1]at q
   exact⟨_,_,rfl,TD.Ur,.inl<|AD b,rfl,q⟩
 refine⟨_,rfl,A7 (fun e=>?_) fun e=>?_⟩
 ·have e1:=Bf.mp (An e)
  refine A7 (fun e=>?_) fun e=>?_
  ·have e2:=Bf.mp (An e)
   rw[AI ⟨e1,e2⟩]at q
   exact q
  ·have e2: ¬ b<=223:=fun z=>e (Av<|Bf.mpr z)
   rw[AG fun z=>e2 z.2]at q
   exact next q
 ·have e1: ¬ 192<=b:=fun z=>e (Av<|Bf.mpr z)
  rw[AG fun z=>e1 z.1]at q
  exact(next q)
def sg (TD:K1 P w K A):O0 P w base 2 167 ["byte"] (Qe<|Ea A):=by
 refine T.uY.F.DL ["byte","act"] fun H vs Q E hr h=>?_
 obtain⟨b,rfl,q⟩:=h
 refine⟨_,(AB (AO 1<|Ah (bS TD) T.aC<|Af AH)<|AB (Aq (KW<|Kg AV) (AF<|AO 1<|Ah (jI TD) T.gz<|Af AH) AX)<|AB (Aq (KW<|Kg AV) (AF<|AO 1<|Ah (eT TD) T.Z5<|Af AH) AX)<|AB (Aq (KW<|Kg AV) (AF<|AO 1<|Ah (dw TD) T.Zz<|Af AH) AX)<|AB (Aq (KW<|Kg AV) (AF<|AO 1<|Ah (eW TD) T.aB<|Af AH) AX)<|AF<|AY AV),?_⟩
 unfold Ea at q
 refine⟨b,rfl,A7 (fun e=>?_) fun e=>?_⟩
 rotate_left
 ·have e': ¬ Hk A b= .non:=fun z=>e (Av z)
  rw[AG e']at q
  exact A7 (fun e=>absurd (An e) e') fun _=>A7 (fun e=>absurd (An e) e') fun _=>A7 (fun e=>absurd (An e) e') fun _=>q
 rw[AI<|An e]at q
 refine⟨b,rfl,A7 (fun e=>?_) fun e=>?_⟩
 rotate_left
 ·have e': ¬ MP A b= .non:=fun z=>e (Av z)
  rw[AG e']at q
  exact A7 (fun e=>absurd (An e) e') fun _=>A7 (fun e=>absurd (An e) e') fun _=>q
 rw[AI<|An e]at q
 refine⟨b,rfl,A7 (fun e=>?_) fun e=>?_⟩
 rotate_left
 ·have e': ¬ Jx A b= .non:=fun z=>e (Av z)
  rw[AG e']at q
  exact A7 (fun e=>absurd (An e) e') fun _=>q
 rw[AI<|An e]at q
 refine⟨b,rfl,A7 (fun e=>?_) fun e=>?_⟩
 rotate_left
 ·have e': ¬ Hr A b= .non:=fun z=>e (Av z)
  rw[AG e']at q
  exact q
 rw[AI<|An e]at q
 exact⟨b,rfl,q⟩
section
noncomputable def A4(g:B2)(m:Ht.M):Ht.R Ht.M:=Ht.acts g.kind m (codeB g m.inFont) g.place (DB (codeB g m.inFont) g.place)
variable{g:B2}{m:Ht.M}{b:Nat}
noncomputable def QR(b:Nat):Bool:=!(b==64)&&!(b==65)&&!(decide (176<=b)&&decide (b<=191))
def V0(h:B_ g m)(hb:g.byte=b)(hn:QR b=true):A4 g m=if Ht.isThrough b=true then Ht.through m (codeB g m.inFont) g.place b else if Ht.isReckon b=true then Ht.reckon m b else if Ht.isSet b=true then Ht.sets g.kind m b else Ht.points m b:=by
 unfold A4 Ht.acts
 dsimp only
 rw[<-h.byte,hb]
 unfold QR at hn
 simp only[Ol,L8,Il,Bool.and_eq_false_iff,Wc]at hn
 rw[AG hn.1.1,AG hn.1.2,AG (by rcases hn.2 with q | q<;>lia),AG (by rcases hn.2 with q | q<;>lia)]
def Ct(h:B_ g m)(hb:g.byte=b)(hn:QR b=true)(h1:Ht.isThrough b=true):A4 g m=Ht.through m (codeB g m.inFont) g.place b:=by rw[V0 h hb hn,AI h1]
def Ag(h:B_ g m)(hb:g.byte=b)(hn:QR b=true:=by decide)(h1:Ht.isThrough b=false:=by decide)(h2:Ht.isReckon b=true:=by decide):A4 g m=Ht.reckon m b:=by rw[V0 h hb hn,AG<|by rw[h1];decide,AI h2]
def A2(h:B_ g m)(hb:g.byte=b)(hn:QR b=true:=by decide)(h1:Ht.isThrough b=false:=by decide)(h2:Ht.isReckon b=false:=by decide)(h3:Ht.isSet b=true:=by decide):A4 g m=Ht.sets g.kind m b:=by rw[V0 h hb hn,AG<|by rw[h1];decide,AG<|by rw[h2];decide,AI h3]
def BE(h:B_ g m)(hb:g.byte=b)(hn:QR b=true:=by decide)(h1:Ht.isThrough b=false:=by decide)(h2:Ht.isReckon b=false:=by decide)(h3:Ht.isSet b=false:=by decide):A4 g m=Ht.points m b:=by rw[V0 h hb hn,AG<|by rw[h1];decide,AG<|by rw[h2];decide,AG<|by rw[h3];decide]
def Em(x:Bool):Ht.bool x=bI x:=rfl
def Ae(h: ∀ a s,m.stack=a::s->F (Bs m<|s) a=G (Bs m<|s) a):tk m F=tk m G:=by
 unfold tk
 split
 ·rfl
 ·rename_i a s e
  exact h a s e
def BB(h:Ht.unsigned x<n->F (Ht.unsigned x)=G (Ht.unsigned x)):wi x n F=wi x n G:=by
 by_cases e:Ht.unsigned x<n
 ·rw[EW e,EW e];exact h e
 ·rw[Fp<|by lia,Fp<|by lia]
def RR(h:x=y):gv m x F=gv m y F:=by rw[h]
theorem AFo:t_ m 3 F=tk m fun m a=>tk m fun m b=>tk m fun m c=>F m [a,b,c]:=by
 unfold tk t_
 cases e:m.stack with
 | nil=>rw[AI<|by simp]
 | cons a s=>
  cases s with
  | nil=>rw[AI<|by simp]
  | cons b s=>
   cases s with
   | nil=>rw[AI<|by simp]
   | cons c s=>rw[AG<|by simp];rfl
def div_eq{a b:Int}(h: ¬ b=0):Int.tdiv (64*a) b=if decide (a<0)=decide (b<0)then BN (64*(if a<0 then-a else a)) (if b<0 then-b else b)else-(BN (64*(if a<0 then-a else a))<|if b<0 then-b else b):=by
 by_cases ha:a<0<;>by_cases hb:b<0
 ·rw[AI<|by simp[ha,hb],AI ha,AI hb,Fq _<|by lia,show 64*a= -(64* -a) by lia,show b= -(-b) by lia,Int.neg_tdiv_neg,XH<|by lia,Int.neg_neg]
 ·rw[AG<|by simp[ha,hb],AI ha,AG hb,Fq _<|by lia,show 64*a= -(64* -a) by lia,Int.neg_tdiv,XH<|by lia]
 ·rw[AG<|by simp[ha,hb],AG ha,AI hb,Fq _<|by lia]
  conv=>lhs;rw[show b= -(-b) by lia,Int.tdiv_neg,XH<|by lia]
 ·rw[AI<|by simp[ha,hb],AG ha,AG hb,Fq _<|by lia,XH<|by lia]
theorem xj{G:List Int×Ht.M->Ht.R Ht.M}:Ht.on (m.take 1) G=tk m fun m a=>G ([a],m):=by
 unfold tk Ht.M.take
 cases m.stack with
 | nil=>rfl
 | cons a s=>rw[AG<|by simp];rfl
theorem on2{G:List Int×Ht.M->Ht.R Ht.M}:Ht.on (m.take 2) G=tk m fun m b=>tk m fun m a=>G ([b,a],m):=by
 unfold tk Ht.M.take
 cases m.stack with
 | nil=>rfl
 | cons a s=>
  cases s with
  | nil=>rfl
  | cons b s=>rw[AG<|by simp];rfl
local macro_rules | `(tactic| exists $f) => `(tactic| ((first | refine .trans ?_ xj.symm | refine .trans ?_ on2.symm | refine .trans ?_ Su.symm | refine .trans ?_ Js.symm | refine .trans ?_ JA.symm | skip); simp only [$f:term, List.getD_cons_zero, List.getD_cons_succ, Js, JA, XM, EZ, Bq]))
def VX(h:B_ g m)(hb:g.byte=32):OE g m=A4 g m:=by
 rw[Ag h hb]
 exists OE
def j_(h:B_ g m)(hb:g.byte=33):Jc g m=A4 g m:=by
 rw[Ag h hb]
 exists Jc
def iC(h:B_ g m)(hb:g.byte=126):Jc g m=A4 g m:=by
 rw[Ag h hb]
 exists Jc
def iI(h:B_ g m)(hb:g.byte=127):Jc g m=A4 g m:=by
 rw[Ag h hb]
 exists Jc
def ja(h:B_ g m)(hb:g.byte=133):Jc g m=A4 g m:=by
 rw[Ag h hb]
 exists Jc
def hG(h:B_ g m)(hb:g.byte=141):Jc g m=A4 g m:=by
 rw[Ag h hb]
 exists Jc
def iU(h:B_ g m)(hb:g.byte=34):lj g m=A4 g m:=by
 rw[Ag h hb]
 rfl
def k9(h:B_ g m)(hb:g.byte=35):kc g m=A4 g m:=by
 rw[Ag h hb]
 exists kc
def Tv(h:B_ g m)(hb:g.byte=36):Ma g m=A4 g m:=by
 rw[Ag h hb]
 refine .trans ?_ Js.symm
 simp only[Ma,Bq,Ek]
def NB(h:B_ g m)(hb:g.byte=37):GV g m=A4 g m:=by
 rw[Ag h hb]
 exists GV
 unfold depth
 refine Ae fun a s e=>?_
 by_cases q:a<1
 ·rw[AI q,AI<|.inl q];rfl
 ·rw[AG q]
  simp only[Bq,Ek]
  by_cases q2:AD s.length<a
  ·rw[AI q2,AI<|.inr q2];rfl
  ·rw[AG q2,AG<|by rintro(z | z)<;>contradiction]
def M6(h:B_ g m)(hb:g.byte=38):Fu g m=A4 g m:=by
 rw[Ag h hb]
 exists Fu
 unfold depth
 refine Ae fun a s e=>?_
 by_cases q:a<1
 ·rw[AI q,AI<|.inl q];rfl
 ·rw[AG q]
  simp only[Bq,Ek]
  by_cases q2:AD s.length<a
  ·rw[AI q2,AI<|.inr q2];rfl
  ·rw[AG q2,AG<|by rintro(z | z)<;>contradiction]
def gi(h:B_ g m)(hb:g.byte=138):lO g m=A4 g m:=by
 rw[Ag h hb]
 exists lO
 rw[AFo]
 rfl
def UK(h:B_ g m)(hb:g.byte=66):MU g m=A4 g m:=by
 rw[Ag h hb]
 exists MU
 refine Ae fun a s e=>Ae fun a2 s2 e2=>?_
 rfl
def VY(h:B_ g m)(hb:g.byte=67):OH g m=A4 g m:=by
 rw[Ag h hb]
 exists OH
 refine Ae fun a s e=>?_
 rfl
def Pt(h:B_ g m)(hb:g.byte=68):EI g m=A4 g m:=by
 rw[Ag h hb]
 exists EI
 rw[hb]
 refine Ae fun a s e=>?_
 rw[AG<|by decide]
 rfl
def NW(h:B_ g m)(hb:g.byte=112):EI g m=A4 g m:=by
 rw[Ag h hb]
 exists EI
 rw[hb]
 refine Ae fun a s e=>?_
 rw[AI<|by decide]
 rfl
def RE(h:B_ g m)(hb:g.byte=69):JJ g m=A4 g m:=by
 rw[Ag h hb]
 exists JJ
 refine Ae fun a s e=>?_
 rfl
def Zg(h:B_ g m)(hb:g.byte=80):DJ g m=A4 g m:=by
 rw[Ag h hb]
 exists DJ
 rw[hb]
 simp only[Lg,Jy,Em]
 rfl
def Zb(h:B_ g m)(hb:g.byte=81):DJ g m=A4 g m:=by
 rw[Ag h hb]
 exists DJ
 rw[hb]
 simp only[Lg,Jy,Em]
 rfl
def Zr(h:B_ g m)(hb:g.byte=82):DJ g m=A4 g m:=by
 rw[Ag h hb]
 exists DJ
 rw[hb]
 simp only[Lg,Jy,Em]
 rfl
def ZF(h:B_ g m)(hb:g.byte=83):DJ g m=A4 g m:=by
 rw[Ag h hb]
 exists DJ
 rw[hb]
 simp only[Lg,Jy,Em]
 rfl
def Zp(h:B_ g m)(hb:g.byte=84):DJ g m=A4 g m:=by
 rw[Ag h hb]
 exists DJ
 rw[hb]
 simp only[Lg,Jy,Em]
 rfl
def ZO(h:B_ g m)(hb:g.byte=85):DJ g m=A4 g m:=by
 rw[Ag h hb]
 exists DJ
 rw[hb]
 simp only[Lg,Jy,Em]
 refine Ae fun a s e=>Ae fun a2 s2 e2=>RR ?_
 by_cases p:a2=a<;>simp[p]
def Th(h:B_ g m)(hb:g.byte=86):F3 g m=A4 g m:=by
 rw[Ag h hb]
 exists F3
 rw[hb]
 refine Ae fun a s e=>RR ?_
 simp only[Jy,AA1,Em,Ht.down]
 congr 1
 by_cases p:BN (Ht.M.round (Bs m<|s) a) 64%2=1
 ·simp[p]
 ·simp[p]
def UR(h:B_ g m)(hb:g.byte=87):F3 g m=A4 g m:=by
 rw[Ag h hb]
 exists F3
 rw[hb]
 refine Ae fun a s e=>RR ?_
 simp only[Jy,AA1,Em,Ht.down]
 congr 1
 have q:BN (Ht.M.round (Bs m<|s) a) 64%2=0\/BN (Ht.M.round (Bs m<|s) a) 64%2=1:=by lia
 rcases q with q | q
 ·simp[q]
 ·simp[q]
def Yp(h:B_ g m)(hb:g.byte=90):Qw g m=A4 g m:=by
 rw[Ag h hb]
 exists Qw
 refine Ae fun a s e=>Ae fun a2 s2 e2=>?_
 by_cases p:a2=0
 ·rw[AI p];simp[p,Em]
 ·rw[AG p];simp[p,Em,Jy]
def Uk(h:B_ g m)(hb:g.byte=91):Lw g m=A4 g m:=by
 rw[Ag h hb]
 exists Lw
 refine Ae fun a s e=>Ae fun a2 s2 e2=>?_
 by_cases p:a2=0
 ·rw[AI p];simp[p,Em,Jy]
 ·rw[AG p];simp[p,Em]
def Yc(h:B_ g m)(hb:g.byte=92):Ql g m=A4 g m:=by
 rw[Ag h hb]
 exists Ql
 refine Ae fun a s e=>?_
 simp only[Jy,Em]
def ZP(h:B_ g m)(hb:g.byte=96):UQ g m=A4 g m:=by
 rw[Ag h hb]
 exists UQ
def VN(h:B_ g m)(hb:g.byte=97):NZ g m=A4 g m:=by
 rw[Ag h hb]
 exists NZ
def eM(h:B_ g m)(hb:g.byte=98):X5 g m=A4 g m:=by
 rw[Ag h hb]
 exists X5
 refine Ae fun a s e=>Ae fun a2 s2 e2=>?_
 by_cases p:a=0
 ·rw[AI p,AI p];rfl
 ·rw[AG p,AG p,div_eq p]
  split<;>rfl
def Yy(h:B_ g m)(hb:g.byte=99):Qy g m=A4 g m:=by
 rw[Ag h hb]
 exists Qy
def Ui(h:B_ g m)(hb:g.byte=100):OC g m=A4 g m:=by
 rw[Ag h hb]
 exists OC
 refine Ae fun a s e=>?_
 rw[ACD]
def Zq(h:B_ g m)(hb:g.byte=101):X_ g m=A4 g m:=by
 rw[Ag h hb]
 exists X_
def Xr(h:B_ g m)(hb:g.byte=102):UN g m=A4 g m:=by
 rw[Ag h hb]
 exists UN
 rfl
def fM(h:B_ g m)(hb:g.byte=103):fW g m=A4 g m:=by
 rw[Ag h hb]
 exists fW
 rfl
def Py(h:B_ g m)(hb:g.byte=139):Je g m=A4 g m:=by
 rw[Ag h hb]
 exists Je
def Qj(h:B_ g m)(hb:g.byte=140):Kj g m=A4 g m:=by
 rw[Ag h hb]
 exists Kj
 refine Ae fun a s e=>Ae fun a2 s2 e2=>RR ?_
 by_cases p:a2<a
 ·rw[AI p,AG<|by lia]
 ·rw[AG p]
  split<;>lia
def P5(h:B_ g m)(hb:g.byte=104):CU g m=A4 g m:=by
 rw[Ag h hb]
 exists CU
def Pd(h:B_ g m)(hb:g.byte=105):CU g m=A4 g m:=by
 rw[Ag h hb]
 exists CU
def Pp(h:B_ g m)(hb:g.byte=106):CU g m=A4 g m:=by
 rw[Ag h hb]
 exists CU
def Pl(h:B_ g m)(hb:g.byte=107):CU g m=A4 g m:=by
 rw[Ag h hb]
 exists CU
def UG(h:B_ g m)(hb:g.byte=108):Dj g m=A4 g m:=by
 rw[Ag h hb]
 exists Dj
def UT(h:B_ g m)(hb:g.byte=109):Dj g m=A4 g m:=by
 rw[Ag h hb]
 exists Dj
def Tq(h:B_ g m)(hb:g.byte=110):Dj g m=A4 g m:=by
 rw[Ag h hb]
 exists Dj
def Tr(h:B_ g m)(hb:g.byte=111):Dj g m=A4 g m:=by
 rw[Ag h hb]
 exists Dj
def VW(h:B_ g m)(hb:g.byte=75):Hh g m=A4 g m:=by
 rw[Ag h hb]
 exists Hh
def VL(h:B_ g m)(hb:g.byte=76):Hh g m=A4 g m:=by
 rw[Ag h hb]
 exists Hh
def UX(h:B_ g m)(hb:g.byte=136):NI g m=A4 g m:=by
 rw[Ag h hb]
 exists NI
 refine Ae fun a s e=>?_
 by_cases p:a%2=1
 ·rw[AI p,AI p]
 ·rw[AG p,AG p]
end
section
variable{g:B2}{m:Ht.M}{b:Nat}
def HI{F:Nat->Nat->Ht.R Ht.M}:wi x n (fun i=>wi y k fun j=>F i j)=wi y k fun j=>wi x n fun i=>F i j:=by
 by_cases e:Ht.unsigned x<n<;>by_cases e':Ht.unsigned y<k
 ·rw[EW e,EW e',EW e',EW e]
 ·rw[EW e,Fp<|by lia,Fp<|by lia]
 ·rw[Fp<|by lia,EW e',Fp<|by lia]
 ·rw[Fp<|by lia,Fp<|by lia]
def OK(h:t=decide (AD g.byte%2=1)):Ht.direction t x=LC g x:=by
 obtain⟨a,b⟩:=x
 unfold Ht.direction LC
 subst h
 by_cases z:(a,b)=((0:Int),(0:Int))
 ·rw[AI z]
  have z1:=BO Prod.fst z
  have z2:=BO Prod.snd z
  subst z1 z2
  split<;>rfl
 ·rw[AG z]
  by_cases e:AD g.byte%2=1
  ·rw[AI<|Av e,AI e]
  ·rw[AG<|by simpa using e,AG e]
def xq:(kI k=1)=(k= .size):=by cases k<;>simp[kI]
def gt0:((0:Int)<AD ((BM n).map fun j=>V.ref j).length)=(0<n):=by rw[A8,CO];exact L4 BQ
def oQ(hf: ∀ k,256<=k->(m.funs.find? fun x=>x.1==k)=none)(hl:m.going.length<=8):aI g m n f=m.call n f:=by
 unfold aI Ht.M.call Ht.funOf
 by_cases e:Ht.unsigned f<256
 ·rw[EW e]
  cases hq:(m.funs.find? fun x=>x.1==Ht.unsigned f)with
  | none=>rfl
  | some x=>
   show(if n<1 then _ else if AD m.going.length=8 then _ else _)=(if n<1 then _ else _)
   by_cases p:n<1
   ·rw[AI p,AI p]
   ·rw[AG p,AG p]
    by_cases q:8<=m.going.length
    ·rw[AI<|show Ht.DEPTH<=m.going.length from q,AI<|by rw[show m.going.length=8 by lia];rfl]
     rfl
    ·rw[AG<|show ¬ Ht.DEPTH<=m.going.length from q,AG fun z=>q (by have z':m.going.length=8:=B6 z;rw[z'];exact BS _)]
 ·rw[Fp<|by lia,hf _<|by lia]
  rfl
local macro_rules | `(tactic| exists $f) => `(tactic| ((first | refine .trans ?_ xj.symm | refine .trans ?_ on2.symm | refine .trans ?_ Su.symm | refine .trans ?_ Js.symm | refine .trans ?_ JA.symm | skip); simp only [$f:term, List.getD_cons_zero, List.getD_cons_succ, Js, JA, XM, EZ, Cf, Sh, Wa, WY, Bq]))
def Zn(h:B_ g m)(hb:g.byte=0):Cj g m=A4 g m:=by
 rw[A2 h hb]
 exists Cj
 rw[hb]
 rfl
def Zk(h:B_ g m)(hb:g.byte=1):Cj g m=A4 g m:=by
 rw[A2 h hb]
 exists Cj
 rw[hb]
 rfl
def ZM(h:B_ g m)(hb:g.byte=2):Cj g m=A4 g m:=by
 rw[A2 h hb]
 exists Cj
 rw[hb]
 rfl
def ZX(h:B_ g m)(hb:g.byte=3):Cj g m=A4 g m:=by
 rw[A2 h hb]
 exists Cj
 rw[hb]
 rfl
def ZT(h:B_ g m)(hb:g.byte=4):Cj g m=A4 g m:=by
 rw[A2 h hb]
 exists Cj
 rw[hb]
 rfl
def ZZ(h:B_ g m)(hb:g.byte=5):Cj g m=A4 g m:=by
 rw[A2 h hb]
 exists Cj
 rw[hb]
 rfl
def UA(h:B_ g m)(hb:g.byte=6):Cv g m=A4 g m:=by
 rw[A2 h hb]
 exists Cv
 rw[hb]
 refine Ae fun a s e=>Ae fun a2 s2 e2=>?_
 refine BB fun p1=>BB fun p2=>?_
 rw[OK<|by rw[hb];rfl]
 rfl
def T7(h:B_ g m)(hb:g.byte=7):Cv g m=A4 g m:=by
 rw[A2 h hb]
 exists Cv
 rw[hb]
 refine Ae fun a s e=>Ae fun a2 s2 e2=>?_
 refine BB fun p1=>BB fun p2=>?_
 rw[OK<|by rw[hb];rfl]
 rfl
def Tn(h:B_ g m)(hb:g.byte=8):Cv g m=A4 g m:=by
 rw[A2 h hb]
 exists Cv
 rw[hb]
 refine Ae fun a s e=>Ae fun a2 s2 e2=>?_
 refine BB fun p1=>BB fun p2=>?_
 rw[OK<|by rw[hb];rfl]
 rfl
def Te(h:B_ g m)(hb:g.byte=9):Cv g m=A4 g m:=by
 rw[A2 h hb]
 exists Cv
 rw[hb]
 refine Ae fun a s e=>Ae fun a2 s2 e2=>?_
 refine BB fun p1=>BB fun p2=>?_
 rw[OK<|by rw[hb];rfl]
 rfl
def Lk(h:B_ g m)(hb:g.byte=134):Dl g m=A4 g m:=by
 rw[A2 h hb]
 exists Dl
 refine Ae fun a s e=>Ae fun a2 s2 e2=>?_
 rw[HI]
 refine BB fun p1=>BB fun p2=>?_
 rw[OK<|by rw[hb];rfl,OK<|by rw[hb];rfl]
 rfl
def Me(h:B_ g m)(hb:g.byte=135):Dl g m=A4 g m:=by
 rw[A2 h hb]
 exists Dl
 refine Ae fun a s e=>Ae fun a2 s2 e2=>?_
 rw[HI]
 refine BB fun p1=>BB fun p2=>?_
 rw[OK<|by rw[hb];rfl,OK<|by rw[hb];rfl]
 rfl
def OG(h:B_ g m)(hb:g.byte=10):D3 g m=A4 g m:=by
 rw[A2 h hb]
 exists D3
 rw[hb]
 refine Ae fun a s e=>Ae fun a2 s2 e2=>?_
 rfl
def NT(h:B_ g m)(hb:g.byte=11):D3 g m=A4 g m:=by
 rw[A2 h hb]
 exists D3
 rw[hb]
 refine Ae fun a s e=>Ae fun a2 s2 e2=>?_
 rfl
def Sx(h:B_ g m)(hb:g.byte=12):E4 g m=A4 g m:=by
 rw[A2 h hb]
 exists E4
 rw[hb]
 rfl
def SI(h:B_ g m)(hb:g.byte=13):E4 g m=A4 g m:=by
 rw[A2 h hb]
 exists E4
 rw[hb]
 rfl
def LR(h:B_ g m)(hb:g.byte=14):IU g m=A4 g m:=by
 rw[A2 h hb]
 rfl
def P8(h:B_ g m)(hb:g.byte=16):C9 g m=A4 g m:=by
 rw[A2 h hb]
 exists C9
 rw[hb]
 rfl
def Pn(h:B_ g m)(hb:g.byte=17):C9 g m=A4 g m:=by
 rw[A2 h hb]
 exists C9
 rw[hb]
 rfl
def Pb(h:B_ g m)(hb:g.byte=18):C9 g m=A4 g m:=by
 rw[A2 h hb]
 exists C9
 rw[hb]
 rfl
def SV(h:B_ g m)(hb:g.byte=19):D1 g m=A4 g m:=by
 rw[A2 h hb]
 exists D1
 rw[hb]
 rfl
def TL(h:B_ g m)(hb:g.byte=20):D1 g m=A4 g m:=by
 rw[A2 h hb]
 exists D1
 rw[hb]
 rfl
def TQ(h:B_ g m)(hb:g.byte=21):D1 g m=A4 g m:=by
 rw[A2 h hb]
 exists D1
 rw[hb]
 rfl
def Ls(h:B_ g m)(hb:g.byte=22):FY g m=A4 g m:=by
 rw[A2 h hb]
 exists FY
def YZ(h:B_ g m)(hb:g.byte=23):QS g m=A4 g m:=by
 rw[A2 h hb]
 exists QS
 refine Ae fun a s e=>?_
 by_cases p:a<1
 ·rw[AI p,AI<|.inl p];rfl
 ·rw[AG p]
  by_cases q:65535<a
  ·rw[AI q,AI<|.inr q];rfl
  ·rw[AG q,AG<|by rintro(z | z)<;>contradiction]
def QT(h:B_ g m)(hb:g.byte=24):Br g m=A4 g m:=by
 rw[A2 h hb]
 exists Br
 rw[hb]
 rfl
def Qp(h:B_ g m)(hb:g.byte=25):Br g m=A4 g m:=by
 rw[A2 h hb]
 exists Br
 rw[hb]
 rfl
def RG(h:B_ g m)(hb:g.byte=61):Br g m=A4 g m:=by
 rw[A2 h hb]
 exists Br
 rw[hb]
 rfl
def P7(h:B_ g m)(hb:g.byte=125):Br g m=A4 g m:=by
 rw[A2 h hb]
 exists Br
 rw[hb]
 rfl
def Pu(h:B_ g m)(hb:g.byte=124):Br g m=A4 g m:=by
 rw[A2 h hb]
 exists Br
 rw[hb]
 rfl
def Pf(h:B_ g m)(hb:g.byte=122):Br g m=A4 g m:=by
 rw[A2 h hb]
 exists Br
 rw[hb]
 rfl
def Iq(h:B_ g m)(hb:g.byte=118):CV g m=A4 g m:=by
 rw[A2 h hb]
 exists CV
 rw[hb]
 refine Ae fun a s e=>?_
 rfl
def Iw(h:B_ g m)(hb:g.byte=119):CV g m=A4 g m:=by
 rw[A2 h hb]
 exists CV
 rw[hb]
 refine Ae fun a s e=>?_
 rfl
def VT(h:B_ g m)(hb:g.byte=26):NJ g m=A4 g m:=by
 rw[A2 h hb]
 exists NJ
def UO(h:B_ g m)(hb:g.byte=29):Lq g m=A4 g m:=by
 rw[A2 h hb]
 exists Lq
def MV(h:B_ g m)(hb:g.byte=30):Fb g m=A4 g m:=by
 rw[A2 h hb]
 exists Fb
def VO(h:B_ g m)(hb:g.byte=31):Nj g m=A4 g m:=by
 rw[A2 h hb]
 exists Nj
 rfl
def Xa(h:B_ g m)(hb:g.byte=77):JB g m=A4 g m:=by
 rw[A2 h hb]
 exists JB
 rw[hb]
 rfl
def Yo(h:B_ g m)(hb:g.byte=78):JB g m=A4 g m:=by
 rw[A2 h hb]
 exists JB
 rw[hb]
 rfl
def NO(h:B_ g m)(hb:g.byte=94):G9 g m=A4 g m:=by
 rw[A2 h hb]
 exists G9
def M9(h:B_ g m)(hb:g.byte=95):GJ g m=A4 g m:=by
 rw[A2 h hb]
 exists GJ
 refine Ae fun a s e=>?_
 by_cases p:a<0
 ·rw[AI p,AI<|.inl p];rfl
 ·rw[AG p]
  by_cases q:6<a
  ·rw[AI q,AI<|.inr q];rfl
  ·rw[AG q,AG<|by rintro(z | z)<;>contradiction]
def M7(h:B_ g m)(hb:g.byte=142):HD g m=A4 g m:=by
 rw[A2 h hb]
 exists HD
 refine Ae fun a s e=>Ae fun a2 s2 e2=>?_
 simp only[xq]
 by_cases p:g.kind= .size
 ·by_cases q1:a=1
  ·subst q1
   by_cases q2:a2=0
   ·simp[p,q2]
   ·simp[p,q2]
  ·by_cases q3:a=2
   ·subst q3
    by_cases q2:a2=0
    ·simp[p,q2]
    ·simp[p,q2]
   ·by_cases q2:a2=0
    ·simp[p,q1,q2,q3]
    ·simp[p,q1,q2,q3]
 ·by_cases q2:a2=0
  ·simp[p,q2]
  ·simp[p,q2]
def Q8(h:B_ g m)(hb:g.byte=88):JQ g m=A4 g m:=by
 rw[Ct h hb (by decide)<|by decide]
 exists JQ
 refine Ae fun a s e=>?_
 by_cases p:a=0
 ·rw[AI p,AG<|by simpa using p]
 ·rw[AG p,AI p]
def Ll(h:B_ g m)(hb:g.byte=27):JL g m=A4 g m:=by
 rw[Ct h hb (by decide)<|by decide]
 rfl
def Tw(h:B_ g m)(hb:g.byte=89):SG g m=A4 g m:=by
 rw[Ct h hb (by decide)<|by decide]
 rfl
def kS(h:B_ g m)(hb:g.byte=28):k7 g m=A4 g m:=by
 rw[Ct h hb (by decide)<|by decide]
 exists k7
 refine Ae fun a s e=>?_
 have gq:xf g (Bs m<|s) (AD g.place+a)=Ht.M.goTo (Bs m<|s) (codeB g m.inFont) (AD g.place+a):=by
  unfold xf Ht.M.goTo
  rw[show codeB g (Ht.M.inFont<|Bs m<|s)=codeB g m.inFont from rfl,FI]
  by_cases p1:AD g.place+a<0
  ·rw[AI p1,AI<|.inl p1];rfl
  ·rw[AG p1]
   by_cases p2:AD (codeB g m.inFont).length<AD g.place+a
   ·rw[AI p2,AI<|.inr p2];rfl
   ·rw[AG p2,AG<|by rintro(z | z)<;>contradiction]
 exact gq
def YA(h:B_ g m)(hb:g.byte=120):K2 g m=A4 g m:=by
 rw[Ct h hb (by decide)<|by decide]
 exists K2
 rw[hb]
 refine Ae fun a s e=>Ae fun a2 s2 e2=>?_
 have gq:xf g (Bs m<|s2) (AD g.place+a2)=Ht.M.goTo (Bs m<|s2) (codeB g m.inFont) (AD g.place+a2):=by
  unfold xf Ht.M.goTo
  rw[show codeB g (Ht.M.inFont<|Bs m<|s2)=codeB g m.inFont from rfl,FI]
  by_cases p1:AD g.place+a2<0
  ·rw[AI p1,AI<|.inl p1];rfl
  ·rw[AG p1]
   by_cases p2:AD (codeB g m.inFont).length<AD g.place+a2
   ·rw[AI p2,AI<|.inr p2];rfl
   ·rw[AG p2,AG<|by rintro(z | z)<;>contradiction]
 by_cases p:a=0
 ·subst p
  rw[AG<|by decide,AG<|by simp]
 ·have d:decide (V.int a=V.int 0)=false:=by rw[Jy];simpa using p
  rw[d]
  rw[AI<|by decide,AI p];exact gq
def YT(h:B_ g m)(hb:g.byte=121):K2 g m=A4 g m:=by
 rw[Ct h hb (by decide)<|by decide]
 exists K2
 rw[hb]
 refine Ae fun a s e=>Ae fun a2 s2 e2=>?_
 have gq:xf g (Bs m<|s2) (AD g.place+a2)=Ht.M.goTo (Bs m<|s2) (codeB g m.inFont) (AD g.place+a2):=by
  unfold xf Ht.M.goTo
  rw[show codeB g (Ht.M.inFont<|Bs m<|s2)=codeB g m.inFont from rfl,FI]
  by_cases p1:AD g.place+a2<0
  ·rw[AI p1,AI<|.inl p1];rfl
  ·rw[AG p1]
   by_cases p2:AD (codeB g m.inFont).length<AD g.place+a2
   ·rw[AI p2,AI<|.inr p2];rfl
   ·rw[AG p2,AG<|by rintro(z | z)<;>contradiction]
 by_cases p:a=0
 ·subst p
  rw[AI<|by decide,AI rfl];exact gq
 ·have d:decide (V.int a=V.int 0)=false:=by rw[Jy];simpa using p
  rw[d,AG<|by decide,AG p]
def bp(h:B_ g m)(hb:g.byte=44)(hk:g.kind= .font):OL g m=A4 g m:=by
 rw[Ct h hb (by decide)<|by decide]
 exists OL
 rw[hk]
 rw[AI<|show kI Ht.Kind.font=0 from rfl]
 refine Ae fun a s e=>BB fun p=>?_
 by_cases q:0<m.going.length
 ·refine(AI<|by rw[gt0];exact q).trans (AI ?_).symm
  cases hg:m.going with
  | nil=>rw[hg]at q;cases q
  | cons y l=>rfl
 ·refine(AG<|by rw[gt0];exact q).trans (AG ?_).symm
  cases hg:m.going with
  | nil=>simp
  | cons y l=>rw[hg]at q;exact absurd (OZ _) q
theorem Qh(h:B_ g m)(hb:g.byte=45):Eg g m=A4 g m:=by
 rw[Ct h hb (by decide)<|by decide]
 unfold Ht.through Eg
 cases hg:m.going with
 | nil=>rfl
 | cons y l=>
  show(if 0<y.left-1 then _ else _)=G4 (if 1<y.left then _ else _)
  by_cases p:0<y.left-1
  ·rw[AI p,AI<|by lia]
  ·rw[AG p,AG<|by lia]
def Vd(h:B_ g m)(hb:g.byte=43)(hf: ∀ k,256<=k->(m.funs.find? fun x=>x.1==k)=none)(hl:m.going.length<=8):NS g m=A4 g m:=by
 rw[Ct h hb (by decide)<|by decide]
 exists NS
 exact Ae fun a s e=>oQ hf hl
def T9(h:B_ g m)(hb:g.byte=42)(hf: ∀ k,256<=k->(m.funs.find? fun x=>x.1==k)=none)(hl:m.going.length<=8):MY g m=A4 g m:=by
 rw[Ct h hb (by decide)<|by decide]
 exists MY
 exact Ae fun a s e=>Ae fun a2 s2 e2=>oQ hf hl
theorem find_none(h:Zh BU funs)(hk:256<=k):(funs.find? fun x=>x.1==k)=none:=by
 have q:=h.2.2.2 k
 cases e:(BU.find? fun kv=>decide (kv.1=IP (AD k)))with
 | none=>
  rw[e]at q
  cases e2:(funs.find? fun x=>x.1==k)with
  | none=>rfl
  | some x=>rw[e2]at q;cases q
 | some p=>
  obtain⟨n,j,hn,hp⟩:=h.2.2.1 p<|Wd e
  have e3:=lZ e
  rw[hp]at e3
  lia
end
section
variable{g:B2}{m:Ht.M}{b:Nat}{k p:Nat}{q:Ht.Pos}{d:Int}{t:Bool}
def Qq:(m.put k p q).z0=m.z0:=by unfold Ht.M.put Ht.M.setZone;dsimp only;split<;>rfl
def YY:(m.put k p q).z1=m.z1:=by unfold Ht.M.put Ht.M.setZone;dsimp only;split<;>rfl
def uR:(m.put k p q).r0=m.r0:=by unfold Ht.M.put Ht.M.setZone;dsimp only;split<;>rfl
def bZ:(m.move k p d).z0=m.z0:=by unfold Ht.M.move Ht.M.shift Ht.M.setZone;dsimp only;split<;>rfl
def yO:(m.move k p d).z1=m.z1:=by unfold Ht.M.move Ht.M.shift Ht.M.setZone;dsimp only;split<;>rfl
def y9:(m.move k p d).z2=m.z2:=by unfold Ht.M.move Ht.M.shift Ht.M.setZone;dsimp only;split<;>rfl
def AAW:(m.move k p d).r0=m.r0:=by unfold Ht.M.move Ht.M.shift Ht.M.setZone;dsimp only;split<;>rfl
def yA:(m.shift t k p q).F=m.F:=by unfold Ht.M.shift Ht.M.setZone;dsimp only;split<;>rfl
def rW:(AD n=0)=(n=0):=L4 ⟨fun h=>B6 h,fun h=>by rw[h];rfl⟩
def zp0:zp m 0=m.z0:=rfl
def zp1:zp m 1=m.z1:=rfl
def zp2:zp m 2=m.z2:=rfl
def rp0:rp m 0=m.r0:=rfl
def rp1:rp m 1=m.r1:=rfl
def rp2:rp m 2=m.r2:=rfl
def fq{a b c:Int}:(c<(if a-b<0 then-(a-b)else a-b))=(Ht.farther a b c=true):=by unfold Ht.farther;rw[ACD,Lz]
def g_(n:Ht.M)(z j:Nat)(c p:Int):(if n.kept.cutin<(if c-n.now1 z j<0 then-(c-n.now1 z j)else c-n.now1 z j)then(G4 {n.move z j (n.round (n.now1 z j)-n.now1 z j)with r0:=p,r1:=p}:Ht.R Ht.M)else .ok {n.move z j (n.round c-n.now1 z j)with r0:=p,r1:=p})= .ok {n.move z j (n.round (if Ht.farther c (n.now1 z j) n.kept.cutin=true then n.now1 z j else c)-n.now1 z j)with r0:=p,r1:=p}:=by
 by_cases w:Ht.farther c (n.now1 z j) n.kept.cutin=true
 ·rw[AI<|by rw[fq];exact w,AI w]
 ·rw[AG<|by rw[fq];exact w,AG w]
def AEi: ∀ b:Fin 256,(Dg (AD b.val) 4=0)↔ ¬ b.val/4%2=1:=by decide+kernel
def AF1: ∀ b:Fin 256,(Dg (AD b.val) 8=0)↔ ¬ b.val/8%2=1:=by decide+kernel
def AEF: ∀ b:Fin 256,(!decide (V.int (Dg (AD b.val) 16)=V.int 0))=(b.val/16%2==1):=by decide+kernel
def bP(hb:g.byte=b)(hl:b<256){p o d:Int}(h1:Ht.unsigned p<(n.zone n.z1).size)(h2:Ht.unsigned n.r0<(n.zone n.z0).size):
  Hg g n p o d= .ok ((n.move n.z1 (Ht.unsigned p)<|(if b/8%2=1 then n.leastOf o d else d)-n.now2 n.z1 (Ht.unsigned p) n.z0 (Ht.unsigned n.r0)).after p<|b/16%2==1):=by
 unfold Hg
 rw[hb]
 have e8:=AF1 ⟨b,hl⟩
 have e16:=AEF ⟨b,hl⟩
 dsimp only at e8 e16
 simp only[zp0,zp1,rp0]
 by_cases q:b/8%2=1
 ·rw[AG fun z=>e8.mp z q,AI q,EW h1,EW h2,e16]
  rfl
 ·rw[AI<|e8.mpr q,AG q,EW h1,EW h2,e16]
def Ze: ∀ b,192<=b->b<=223->Ht.points m b=Ht.direct m b:=by
 intro b h1 h2
 obtain⟨i,rfl⟩:=me h1
 have h3:i<32:=by lia
 clear h1 h2
 iterate 32 (rcases i with _ | i;· rfl)
 exact absurd h3<|by lia
def VP: ∀ b,224<=b->b<=255->Ht.points m b=Ht.indirect m b:=by
 intro b h1 h2
 obtain⟨i,rfl⟩:=me h1
 have h3:i<32:=by lia
 clear h1 h2
 iterate 32 (rcases i with _ | i;· rfl)
 exact absurd h3<|by lia
def AAl: ∀ b:Fin 256,192<=b.val->QR b.val=true/\Ht.isThrough b.val=false/\Ht.isReckon b.val=false/\Ht.isSet b.val=false:=by decide+kernel
local macro_rules | `(tactic| exists $f) => `(tactic| ((first | refine .trans ?_ xj.symm | refine .trans ?_ on2.symm | refine .trans ?_ Su.symm | refine .trans ?_ Js.symm | refine .trans ?_ JA.symm | skip); simp only [$f:term, List.getD_cons_zero, List.getD_cons_succ, Js, JA, XM, EZ, Cf, Sh, Wa, WY, Bq, zp0, zp1, zp2, rp0, rp1, rp2]))
def Pz(h:B_ g m)(hb:g.byte=b)(h1:192<=b)(h2:b<=223):Fc g m=A4 g m:=by
 have hl:b<256:=by lia
 obtain⟨q1,q2,q3,q4⟩:=AAl ⟨b,hl⟩ h1
 rw[BE h hb q1 q2 q3 q4,Ze b h1 h2]
 have e4:=AEi ⟨b,hl⟩
 dsimp only at e4
 simp only[Fc,Ht.direct,kU,Cf,Sh,hb]
 refine Ae fun a s e=>?_
 rw[HI]
 refine BB fun p1=>BB fun p2=>?_
 simp only[zp0,zp1,rp0]at p1 p2 ⊢
 by_cases q:b/4%2=1
 ·rw[AG fun z=>e4.mp z q,bP hb hl p2 p1,AI q]
 ·rw[AI<|e4.mpr q,bP hb hl p2 p1,AG q]
def ABc:RY n c e=n.round (if n.z0=n.z1/\Ht.farther c e n.kept.cutin=true then e else c):=by
 unfold RY
 congr 1
 have e1:(AD n.z0=AD n.z1)=(n.z0=n.z1):=L4 ⟨fun h=>B6 h,fun h=>by rw[h]⟩
 simp only[e1]
 by_cases p:n.z0=n.z1
 ·rw[AI p]
  by_cases w:Ht.farther c e n.kept.cutin=true
  ·rw[AI<|by rw[fq];exact w,AI ⟨p,w⟩]
  ·rw[AG<|by rw[fq];exact w,AG fun z=>w z.2]
 ·rw[AG p,AG fun z=>p z.1]
def ABN{n:Ht.M}:(bI n.kept.flip=1)=(n.kept.flip=true):=by unfold bI;cases n.kept.flip<;>simp
def QG(hb:g.byte=b)(hl:b<256){p c e:Int}(h1:Ht.unsigned p<(n.zone n.z1).size)(h2:Ht.unsigned n.r0<(n.zone n.z0).size):
  (if bI n.kept.flip=1 then(if decide (e<0)=decide (c<0)then(if Dg (AD b) 4=0 then Hg g n p e c else Hg g n p e (RY n c e))else(if Dg (AD b) 4=0 then Hg g n p e (Ht.cut<|-c)else Hg g n p e (RY n (Ht.cut<|-c) e)))else(if Dg (AD b) 4=0 then Hg g n p e c else Hg g n p e (RY n c e)))=
  (let c:=if n.kept.flip=true/\(decide (e<0))≠(decide (c<0))then Ht.cut (-c)else c
   let c:=if b/4%2=1 then n.round (if n.z0=n.z1/\Ht.farther c e n.kept.cutin=true then e else c)else c
   let c:=if b/8%2=1 then n.leastOf e c else c
   .ok ((n.move n.z1 (Ht.unsigned p)<|c-n.now2 n.z1 (Ht.unsigned p) n.z0 (Ht.unsigned n.r0)).after p<|b/16%2==1)):=by
 have e4:=AEi ⟨b,hl⟩
 dsimp only at e4 ⊢
 simp only[ABN,bP hb hl h1 h2,ABc]
 have fin: ∀ x:Int,(if n.kept.flip=true/\(decide (e<0))≠(decide (c<0))then Ht.cut (-c)else c)=x->(if Dg (AD b) 4=0 then(G4 ((n.move n.z1 (Ht.unsigned p)<|(if b/8%2=1 then n.leastOf e x else x)-n.now2 n.z1 (Ht.unsigned p) n.z0 (Ht.unsigned n.r0)).after p<|b/16%2==1):Ht.R Ht.M)else G4 ((n.move n.z1 (Ht.unsigned p)<|(if b/8%2=1 then n.leastOf e (n.round<|if n.z0=n.z1/\Ht.farther x e n.kept.cutin=true then e else x)else n.round (if n.z0=n.z1/\Ht.farther x e n.kept.cutin=true then e else x))-n.now2 n.z1 (Ht.unsigned p) n.z0 (Ht.unsigned n.r0)).after p<|b/16%2==1))=G4 ((n.move n.z1 (Ht.unsigned p)<|(if b/8%2=1 then n.leastOf e (if b/4%2=1 then n.round (if n.z0=n.z1/\Ht.farther (if n.kept.flip=true/\(decide (e<0))≠(decide (c<0))then Ht.cut (-c)else c) e n.kept.cutin=true then e else(if n.kept.flip=true/\(decide (e<0))≠(decide (c<0))then Ht.cut (-c)else c))else(if n.kept.flip=true/\(decide (e<0))≠(decide (c<0))then Ht.cut (-c)else c))else(if b/4%2=1 then n.round (if n.z0=n.z1/\Ht.farther (if n.kept.flip=true/\(decide (e<0))≠(decide (c<0))then Ht.cut (-c)else c) e n.kept.cutin=true then e else(if n.kept.flip=true/\(decide (e<0))≠(decide (c<0))then Ht.cut (-c)else c))else(if n.kept.flip=true/\(decide (e<0))≠(decide (c<0))then Ht.cut (-c)else c)))-n.now2 n.z1 (Ht.unsigned p) n.z0 (Ht.unsigned n.r0)).after p<|b/16%2==1):=fun x ex=>by
  rw[ex]
  by_cases q:b/4%2=1
  ·rw[AG fun z=>e4.mp z q]
   simp only[q,D8]
  ·rw[AI<|e4.mpr q]
   simp only[q,FH]
 by_cases f:n.kept.flip=true
 ·by_cases d:decide (e<0)=decide (c<0)
  ·refine WM ?_ (fin c<|AG fun z=>z.2 d)
   rw[AI f,AI d]
  ·refine WM ?_ (fin (Ht.cut<|-c)<|AI ⟨f,d⟩)
   rw[AI f,AG d]
 ·refine WM ?_ (fin c<|AG fun z=>f z.1)
  rw[AG f]
def RA(h:B_ g m)(hg:m.z0<2/\m.z1<2)(hb:g.byte=b)(h1:224<=b)(h2:b<=255):Gf g m=A4 g m:=by
 have hl:b<256:=by lia
 obtain⟨q1,q2,q3,q4⟩:=AAl ⟨b,hl⟩<|by show 192<=b;lia
 rw[BE h hb q1 q2 q3 q4,VP b h1 h2]
 simp only[Gf,Ht.indirect,ABa,Cf,Sh,EZ,Bq,hb]
 refine Ae fun a s e=>Ae fun a2 s2 e2=>?_
 have sw: ∀{x y w:Int} {n k l:Nat} {F:Nat->Nat->Nat->Ht.R Ht.M},wi x n (fun i=>wi y k fun j=>wi w l fun r=>F i j r)=wi w l fun r=>wi y k fun j=>wi x n fun i=>F i j r:=fun{x y w n k l F}=>by
  rw[HI]
  simp only[HI (x:=x) (y:=w)]
  rw[HI]
 rw[sw]
 refine BB fun p1=>BB fun p2=>BB fun p3=>?_
 simp only[zp0,zp1,rp0,rW]at p1 p2 p3 ⊢
 by_cases z:m.z1=0
 ·simp only[AI z,Qq,YY]
  have it:=QG (n:=Ht.M.put (Bs m<|s2) m.z1 (Ht.unsigned a2)<|Ht.plus ((Ht.M.zone (Bs m<|s2) m.z0).was<|Ht.unsigned m.r0)<|Ht.times (Ht.M.single (Bs m<|s2)<|m.values.getD (Ht.unsigned a) 0) m.F) hb hl (p:=a2) (c:=Ht.M.single (Bs m<|s2)<|m.values.getD (Ht.unsigned a) 0) (e:=Ht.M.old2 (Ht.M.put (Bs m<|s2) m.z1 (Ht.unsigned a2)<|Ht.plus ((Ht.M.zone (Bs m<|s2) m.z0).was<|Ht.unsigned m.r0)<|Ht.times (Ht.M.single (Bs m<|s2)<|m.values.getD (Ht.unsigned a) 0) m.F) m.z1 (Ht.unsigned a2) m.z0<|Ht.unsigned m.r0)
   (by simp only[YY];rw[Yg (by exact hg.2)<|by exact hg.2];exact p2) (by simp only[Qq,uR];rw[Yg (by exact hg.2)<|by exact hg.1];exact p1)
  simp only[Qq,YY,uR]at it
  exact it
 ·simp only[AG z]
  exact QG hb hl p2 p1
def M5(h:B_ g m)(hb:g.byte=70):Dn g m=A4 g m:=by
 rw[BE h hb]
 exists Dn
 rw[hb]
 rfl
def M8(h:B_ g m)(hb:g.byte=71):Dn g m=A4 g m:=by
 rw[BE h hb]
 exists Dn
 rw[hb]
 rfl
def Nr(h:B_ g m)(hb:g.byte=72):G6 g m=A4 g m:=by
 rw[BE h hb]
 exists G6
 refine Ae fun a s e=>Ae fun a2 s2 e2=>BB fun p1=>?_
 simp only[y9,rW]
 split<;>rfl
def Pq(h:B_ g m)(hb:g.byte=73):EK g m=A4 g m:=by
 rw[BE h hb]
 exists EK
 rw[hb]
 rfl
def Pj(h:B_ g m)(hb:g.byte=74):EK g m=A4 g m:=by
 rw[BE h hb]
 exists EK
 rw[hb]
 rfl
def ZE(h:B_ g m)(hb:g.byte=41):UJ g m=A4 g m:=by
 rw[BE h hb]
 exists UJ
def Nd(h:B_ g m)(hb:g.byte=46):D9 g m=A4 g m:=by
 rw[BE h hb]
 exists D9
 rw[hb]
 refine Ae fun a s e=>BB fun p1=>?_
 rw[AG<|by decide,Int.sub_self]
def Nn(h:B_ g m)(hb:g.byte=47):D9 g m=A4 g m:=by
 rw[BE h hb]
 exists D9
 rw[hb]
 rfl
def NF(h:B_ g m)(hb:g.byte=62):Dt g m=A4 g m:=by
 rw[BE h hb]
 exists Dt
 rw[hb]
 refine Ae fun a s e=>Ae fun a2 s2 e2=>?_
 rw[HI]
 refine BB fun p1=>BB fun p2=>?_
 simp only[rW]
 by_cases z:m.z0=0
 ·rw[AI z,AI z,AG<|by decide]
  simp only[Qq]
 ·rw[AG z,AG z,AG<|by decide]
def NA(h:B_ g m)(hb:g.byte=63):Dt g m=A4 g m:=by
 rw[BE h hb]
 exists Dt
 rw[hb]
 refine Ae fun a s e=>Ae fun a2 s2 e2=>?_
 rw[HI]
 refine BB fun p1=>BB fun p2=>?_
 simp only[rW]
 by_cases z:m.z0=0
 ·rw[AI z,AI z,AI<|by decide]
  simp only[Qq]
  exact g_ (Ht.M.put (Bs m<|s2) m.z0 (Ht.unsigned a2)<|Ht.times (m.values.getD (Ht.unsigned a) 0) m.F) m.z0 (Ht.unsigned a2) (m.values.getD (Ht.unsigned a) 0) a2
 ·rw[AG z,AG z,AI<|by decide]
  exact g_ (Bs m<|s2) m.z0 (Ht.unsigned a2) (m.values.getD (Ht.unsigned a) 0) a2
def L_(h:B_ g m)(hb:g.byte=58):DQ g m=A4 g m:=by
 rw[BE h hb]
 exists DQ
 rw[hb]
 refine Ae fun a s e=>Ae fun a2 s2 e2=>?_
 rw[HI]
 refine BB fun p1=>BB fun p2=>?_
 simp only[rW]
 by_cases z:m.z1=0
 ·rw[AI z,AI z]
  simp only[Qq,YY]
  rfl
 ·rw[AG z,AG z]
  rfl
def Lx(h:B_ g m)(hb:g.byte=59):DQ g m=A4 g m:=by
 rw[BE h hb]
 exists DQ
 rw[hb]
 refine Ae fun a s e=>Ae fun a2 s2 e2=>?_
 rw[HI]
 refine BB fun p1=>BB fun p2=>?_
 simp only[rW]
 by_cases z:m.z1=0
 ·rw[AI z,AI z]
  simp only[Qq,YY]
  rfl
 ·rw[AG z,AG z]
  rfl
def VQ(h:B_ g m)(hb:g.byte=39):Na g m=A4 g m:=by
 rw[BE h hb]
 exists Na
 refine Ae fun a s e=>Ae fun a2 s2 e2=>BB fun p1=>BB fun p2=>?_
 simp only[bZ,Ht.down]
end
end GF
end
section
namespace GF
open PySem PySem.Spec PyProof.Rows L2
section
variable{g:B2}{m:Ht.M}{b:Nat}
def Ow(h:m.loop<=m.stack.length->F {m with stack:=m.stack.drop m.loop,loop:=1} (m.stack.take m.loop)=G {m with stack:=m.stack.drop m.loop,loop:=1} (m.stack.take m.loop)):uE m F=uE m G:=by
 unfold uE
 by_cases e:m.stack.length<m.loop
 ·rw[AI e,AI e]
 ·rw[AG e,AG e];exact h<|by lia
def bN{r:Ht.R α}{f:α->Ht.R β}{h:β->Ht.R Ht.M}:Ht.on (Ht.on r f) h=Ht.on r fun x=>Ht.on (f x) h:=by cases r<;>rfl
theorem TK(I:Ht.M->Prop)(h: ∀ x n F,I n->C x n F=Ht.on (B x n) F)(hp: ∀ x n n',I n->B x n= .ok n'->I n'): ∀ l n,I n->Dp C l n .ok=Ht.eachOne B l n
 | [],n,_=>rfl
 | x::l,n,hn=>by
  show C x n (fun m=>Dp C l m .ok)=Ht.on (B x n) fun y=>Ht.eachOne B l y
  rw[h x n _ hn]
  cases e:B x n with
  | error q=>rfl
  | ok a=>exact TK I h hp l a<|hp x n a hn e
def Jf(h:B_ g m)(hb:g.byte=128):Hu g m=A4 g m:=by
 rw[BE h hb]
 show _=Ht.loopPoints m 0 fun _ _=> .ok fun p m=>Ht.on (m.point 1 p) fun p=> .ok<|m.mark 1 p fun x=>if Ht.has x Ht.ON=true then Ht.lose x Ht.ON else Ht.give x Ht.ON
 rw[Rn]
 exact Ow fun e=>mn (fun x m F=>by rw[Cf,jM];rfl) _ _
theorem ND(h:B_ g m)(hb:g.byte=56):GZ g m=A4 g m:=by
 rw[BE h hb]
 show _=Ht.loopPoints m 1 fun a _=> .ok fun p m=>Ht.on (m.point m.z2 p) fun p=> .ok<|m.shift true m.z2 p<|Ht.times (a.getD 0 0) m.F
 unfold Ht.loopPoints GZ tk uE Ht.M.take
 cases e:m.stack with
 | nil=>rw[AI<|by simp only[Vz];lia];rfl
 | cons a s=>
  dsimp only
  by_cases q:s.length<m.loop
  ·rw[AI q,AI<|by simp only[HG];lia];rfl
  ·rw[AG q,AG<|by simp only[HG];lia,Nat.add_comm 1 m.loop]
   refine(TK (fun n=>n.F=m.F) (fun x n F hn=>?_) (fun x n n' hn e=>?_) _ _ rfl)
   ·rw[Cf,jM,<-hn]
    rfl
   ·rw[Cf]at e
    by_cases w:Ht.unsigned x<(n.zone n.z2).size
    ·rw[EW w]at e
     cases e
     rw[yA];exact hn
    ·rw[Fp<|by lia]at e;cases e
def lP(n:Ht.M)(l:List Int)(hl:l≠ [])(hz:n.z0<2/\n.z1<2):Dp (fun x m F=>wi x (m.zone<|zp m 1).size fun i=>wi (rp m 0) (m.zone<|zp m 0).size fun j=>F<|m.move (zp m 1) i<|-(m.now2 (zp m 1) i (zp m 0) j)) l n .ok=Ht.on n.ref0 fun r=>Ht.eachOne (fun p m=>Ht.on (m.point m.z1 p) fun p=> .ok<|m.move m.z1 p<|-m.now2 m.z1 p m.z0 r) l n:=by
 rw[Sh]
 by_cases w:Ht.unsigned n.r0<(n.zone n.z0).size
 ·rw[rp0,zp0,EW w]
  refine TK (fun k=>k.z0=n.z0/\k.z1=n.z1/\k.r0=n.r0/\Ht.unsigned n.r0<(k.zone n.z0).size) (fun x k F hn=>?_) (fun x k n' hn e=>?_) _ _ ⟨rfl,rfl,rfl,w⟩
  ·obtain⟨h1,h2,h3,h4⟩:=hn
   rw[Cf,jM]
   refine BB fun p1=>?_
   rw[rp0,zp0,h3,h1,EW h4]
   rfl
  ·obtain⟨h1,h2,h3,h4⟩:=hn
   rw[Cf]at e
   by_cases w2:Ht.unsigned x<(k.zone k.z1).size
   ·rw[EW w2]at e
    cases e
    refine⟨by rw[bZ];exact h1,by rw[yO];exact h2,by rw[AAW];exact h3,?_⟩
    rw[bD (by rw[h2];exact hz.2) hz.1]
    exact h4
   ·rw[Fp<|by lia]at e;cases e
 ·rw[rp0,zp0,Fp<|by lia]
  cases l with
  | nil=>exact absurd rfl hl
  | cons x l=>
   have st: ∀(C:Int->Ht.M->(Ht.M->Ht.R Ht.M)->Ht.R Ht.M),Dp C (x::l) n .ok=C x n fun m=>Dp C l m .ok:=fun _=>rfl
   rw[st]
   by_cases w2:Ht.unsigned x<(n.zone<|zp n 1).size
   ·refine(EW w2).trans ?_
    exact Fp<|show(n.zone n.z0).size<=Ht.unsigned n.r0 by lia
   ·exact Fp<|by lia
def gk(h:B_ g m)(hb:g.byte=60)(hl:1<=m.loop)(hz:m.z0<2/\m.z1<2):GD g m=A4 g m:=by
 rw[BE h hb]
 show _=Ht.loopPoints m 0 fun _ m=>Ht.on m.ref0 fun r=> .ok fun p m=>Ht.on (m.point m.z1 p) fun p=> .ok<|m.move m.z1 p<|-m.now2 m.z1 p m.z0 r
 rw[Rn]
 refine Ow fun e=>?_
 rw[bN]
 exact lP _ _ (fun z=>by have:=BO XB z;rw[HP,Vz]at this;lia) hz
def j5(h:B_ g m)(hb:g.byte=57):KR g m=A4 g m:=by
 rw[BE h hb]
 show _=Ht.loopPoints m 0 fun _ m=>Ht.on m.ref1 fun a=>Ht.on m.ref2 fun b=>let q:=m.old2 m.z1 b m.z0 a;let n:=m.now2 m.z1 b m.z0 a;.ok fun p m=>Ht.on (m.point m.z2 p) fun p=>let e:=m.old2 m.z2 p m.z0 a;.ok (m.move m.z2 p<|(if e=0 then 0 else if q=0 then e else Ht.cut (Ht.near (e*n) q))-m.now2 m.z2 p m.z0 a)
 rw[Rn]
 refine Ow fun e=>?_
 rw[bN,Wa]
 refine BB fun p1=>?_
 rw[bN,WY]
 refine BB fun p2=>TK (fun n=>n.z0=m.z0) (fun x n F hn=>?_) (fun x n n' hn e=>?_) _ _ rfl
 ·rw[Cf,jM]
  dsimp only
  rw[hn]
  rfl
 ·rw[Cf]at e
  by_cases w2:Ht.unsigned x<(n.zone n.z2).size
  ·rw[EW w2]at e
   cases e
   rw[bZ]
   exact hn
  ·rw[Fp<|by lia]at e;cases e
def f7(hb:g.byte=b):Ht.on (m.shifted b) F=Mo g m fun i=>F (zp m<|aM g,i,VE m (zp m<|aM g) i):=by
 unfold Ht.M.shifted Mo
 by_cases q:b%2=0
 ·have e: ¬ AD g.byte%2=1:=by rw[hb];show ¬(b:Int)%2=1;lia
  have e1:lS g=2:=AG e
  have e2:aM g=1:=AG e
  rw[AI q,AI q,e1,e2,bN,WY]
  rfl
 ·have e:AD g.byte%2=1:=by rw[hb];show(b:Int)%2=1;lia
  have e1:lS g=1:=AI e
  have e2:aM g=0:=AI e
  rw[AG q,AG q,e1,e2,bN,Wa]
  rfl
def Mt(h:B_ g m)(hb:g.byte=b)(hq:b=50\/b=51):Nu g m=A4 g m:=by
 have e0:Ht.points m b=Ht.loopPoints m 0 fun _ m=>Ht.on (m.shifted b) fun x=> .ok fun p m=>Ht.on (m.point m.z2 p) fun p=> .ok (m.shift true m.z2 p x.2.2):=by rcases hq with rfl | rfl<;>rfl
 rw[BE h hb (by rcases hq with rfl | rfl<;>decide) (by rcases hq with rfl | rfl<;>decide) (by rcases hq with rfl | rfl<;>decide) (by rcases hq with rfl | rfl<;>decide),e0,Rn]
 refine Ow fun e=>?_
 rw[bN,f7 hb]
 unfold Mo
 exact BB fun p1=>mn (fun x m F=>by rw[Cf,jM];rfl) _ _
def Ku(h:B_ g m)(hb:g.byte=b)(hq:b=52\/b=53):Ms g m=A4 g m:=by
 have e0:Ht.points m b=Ht.one m fun m c=>Ht.on (Ht.below c m.ends.length) fun c=>Ht.on (m.shifted b) fun x=> .ok (m.shiftAll true 1 (Ht.contour m.ends c) x):=by rcases hq with rfl | rfl<;>rfl
 rw[BE h hb (by rcases hq with rfl | rfl<;>decide) (by rcases hq with rfl | rfl<;>decide) (by rcases hq with rfl | rfl<;>decide) (by rcases hq with rfl | rfl<;>decide),e0,kU]
 refine Ae fun a s e=>?_
 rw[EZ]
 refine BB fun p1=>?_
 rw[f7 hb]
 unfold Mo
 refine BB fun p2=>?_
 unfold Eo Ht.M.shiftAll Ht.contour
 dsimp only
 rw[List.foldl_map]
 rfl
def QH(h:B_ g m)(hb:g.byte=b)(hq:b=54\/b=55):Ss g m=A4 g m:=by
 have e0:Ht.points m b=Ht.one m fun m z=>Ht.on (Ht.below z 2) fun z=>Ht.on (m.shifted b) fun x=> .ok (m.shiftAll false z (BM (m.zone z).size) x):=by rcases hq with rfl | rfl<;>rfl
 rw[BE h hb (by rcases hq with rfl | rfl<;>decide) (by rcases hq with rfl | rfl<;>decide) (by rcases hq with rfl | rfl<;>decide) (by rcases hq with rfl | rfl<;>decide),e0,kU]
 refine Ae fun a s e=>?_
 rw[EZ]
 refine BB fun p1=>?_
 rw[f7 hb]
 unfold Mo
 refine BB fun p2=>?_
 unfold Eo Ht.M.shiftAll
 simp only[L0]
def Ja(h:B_ g m)(hb:g.byte=b)(hq:b=129\/b=130):KI g m=A4 g m:=by
 rw[BE h hb (by rcases hq with rfl | rfl<;>decide) (by rcases hq with rfl | rfl<;>decide) (by rcases hq with rfl | rfl<;>decide) (by rcases hq with rfl | rfl<;>decide)]
 rcases hq with rfl | rfl
 ·refine .trans ?_ on2.symm
  dsimp only[qF,m_]
  refine Ae fun a s e=>Ae fun a2 s2 e2=>?_
  rw[Cf]
  refine BB fun p1=>?_
  rw[Cf]
  refine BB fun p2=>?_
  have e:xZ g=fun x=>Ht.give x Ht.ON:=by funext x;unfold xZ;rw[hb];rfl
  unfold QA
  rw[e]
 ·refine .trans ?_ on2.symm
  dsimp only[qF,m_]
  refine Ae fun a s e=>Ae fun a2 s2 e2=>?_
  rw[Cf]
  refine BB fun p1=>?_
  rw[Cf]
  refine BB fun p2=>?_
  have e:xZ g=fun x=>Ht.lose x Ht.ON:=by funext x;unfold xZ;rw[hb];rfl
  unfold QA
  rw[e]
end
section
variable{K:AS}{W:Hp}{v:Var}{g:B2}{m:Ht.M}{b:Nat}
theorem c8: ∀ l m,m.stack.length<=128->Dp rm l m .ok=m.give l
 | [],m,h=>by
  show G4 m=m.give []
  exact(AG<|show ¬ 128<m.stack.length+0 by lia).symm
 | x::l,m,h=>by
  rw[R_,Of]
  unfold gv
  by_cases e:128<=m.stack.length
  ·rw[AI e,AI e]
  ·rw[AG e,AG e]
   exact c8 l (Bs m<|Ht.cut x::m.stack)<|by show m.stack.length+1<=128;lia
def ZR(h:B_ g m)(hs:m.stack.length<=128)(hb:g.byte=b)(hq:b=64\/176<=b/\b<=183):GG g m=A4 g m:=by
 unfold GG A4 Ht.acts
 rw[c8 _ _ hs]
 dsimp only
 rw[<-h.byte,hb]
 have ha:=h.after
 unfold jb
 rw[hb]
 rcases hq with rfl |⟨q1,q2⟩
 ·rw[AI rfl,AI rfl,ha,show g.place+DB (codeB g m.inFont) g.place- (g.place+2)=DB (codeB g m.inFont) g.place-2 by lia]
 ·rw[AG fun z=>by have:=B6 z;lia,AG<|by lia,AG<|by lia,AI ⟨q1,q2⟩,ha,show g.place+DB (codeB g m.inFont) g.place- (g.place+1)=DB (codeB g m.inFont) g.place-1 by lia]
def Zf(h:B_ g m)(hs:m.stack.length<=128)(hb:g.byte=b)(hq:b=65\/184<=b/\b<=191):GQ g m=A4 g m:=by
 unfold GQ A4 Ht.acts
 rw[c8 _ _ hs]
 dsimp only
 rw[<-h.byte,hb]
 have ha:=h.after
 unfold jb
 rw[hb]
 rcases hq with rfl |⟨q1,q2⟩
 ·rw[AI rfl,AG<|by decide,AI rfl,ha,show g.place+DB (codeB g m.inFont) g.place- (g.place+2)=DB (codeB g m.inFont) g.place-2 by lia]
 ·rw[AG fun z=>by have:=B6 z;lia,AG<|by lia,AG<|by lia,AG<|by lia,AI ⟨q1,q2⟩,ha,show g.place+DB (codeB g m.inFont) g.place- (g.place+1)=DB (codeB g m.inFont) g.place-1 by lia]
def gf(hb:g.byte=b)(hq:Cy b):m.delta b a=if JS g m a=true then some (Hc m a)else none:=by
 unfold Ht.M.delta JS Hc
 dsimp only
 have e:(if b=0x5D\/b=0x73 then 0 else if b=0x71\/b=0x74 then 16 else 32)=startB g.byte:=by rw[hb];rfl
 rw[e]
 by_cases q:Ht.unsigned a/16%16+m.kept.base+startB g.byte=m.dots
 ·rw[AI q,AI<|Av q]
 ·rw[AG q,AG<|by simpa using q]
def Xq:pairsOf (p::a::l) (n+1)=(a,p)::pairsOf l n:=by
 unfold pairsOf
 rw[List.range_succ_eq_map,Fs,Oy]
 refine BO _ ?_
 apply Oi
 intro i _
 show((p::a::l).getD (2*(i+1)+1) 0,(p::a::l).getD (2*(i+1)) 0)=_
 rw[show 2*(i+1)+1=(2*i+1)+1+1 by lia,show 2*(i+1)=2*i+1+1 by lia]
 rfl
def Yu:Rx B (x::l) n .ok=B x n fun m=>Rx B l m .ok:=rfl
theorem Km(hb:g.byte=b)(hq:b=93\/b=113\/b=114): ∀ n l m,l.length=2*n->Ht.deltas b l m=Rx (fun p m F=>wi p.2 (m.zone<|zp m 0).size fun i=>if JS g m p.1=true then F (m.move (zp m 0) i<|Hc m p.1)else F m) (pairsOf l n) m .ok
 | 0,l,m,h=>by
  cases l with
  | nil=>rfl
  | cons x l=>simp at h
 | n+1,l,m,h=>by
  match l,h with
  | p::a::l,h=>
   rw[Xq]
   have e:Ht.deltas b (p::a::l) m=Ht.on (m.point m.z0 p) fun i=>Ht.deltas b l (match m.delta b a with | some d=>m.move m.z0 i d | none=>m):=by rcases hq with rfl | rfl | rfl<;>rfl
   rw[e,Cf,Yu]
   refine BB fun p1=>?_
   rw[gf hb<|by unfold Cy;lia]
   have hl:l.length=2*n:=by simp only[HG]at h;lia
   by_cases q:JS g m a=true
   ·rw[AI q,AI q]
    exact Km hb hq n l _ hl
   ·rw[AG q,AG q]
    exact Km hb hq n l _ hl
theorem IE(hb:g.byte=b)(hq:b=115\/b=116\/b=117): ∀ n l m,l.length=2*n->Ht.deltas b l m=Rx (fun p m F=>wi p.2 (iV m.values).length fun i=>if JS g m p.1=true then F {m with values:=m.values.set i<|Ht.cut<|m.values.getD i 0+Hc m p.1}else F m) (pairsOf l n) m .ok
 | 0,l,m,h=>by
  cases l with
  | nil=>rfl
  | cons x l=>simp at h
 | n+1,l,m,h=>by
  match l,h with
  | p::a::l,h=>
   rw[Xq]
   have e:Ht.deltas b (p::a::l) m=Ht.on (Ht.below p m.values.length) fun i=>Ht.deltas b l (match m.delta b a with | some d=>{m with values:=m.values.set i<|Ht.cut<|m.values.getD i 0+d} | none=>m):=by rcases hq with rfl | rfl | rfl<;>rfl
   rw[e,EZ,Yu,Bq]
   refine BB fun p1=>?_
   rw[gf hb<|by unfold Cy;lia]
   have hl:l.length=2*n:=by simp only[HG]at h;lia
   by_cases q:JS g m a=true
   ·rw[AI q,AI q]
    exact IE hb hq n l _ hl
   ·rw[AG q,AG q]
    exact IE hb hq n l _ hl
def Rv(hq:Cy b):Ht.points m b=Ht.on (m.take 1) fun x=>Ht.on (x.2.take<|2*Ht.unsigned (x.1.getD 0 0)) fun y=>Ht.deltas b y.1 y.2:=by rcases hq with rfl | rfl | rfl | rfl | rfl | rfl<;>rfl
theorem YH{D:List Int->Ht.M->Ht.R Ht.M}(h: ∀ n l m,l.length=2*n->D l m=F m (pairsOf l n)):(Ht.on (m.take 1) fun x=>Ht.on (x.2.take<|2*Ht.unsigned (x.1.getD 0 0)) fun y=>D y.1 y.2)=To m F:=by
 unfold To tk
 unfold Ht.M.take
 cases e:m.stack with
 | nil=>rfl
 | cons a s=>
  rw[AG<|by simp]
  show Ht.on (if s.length<2*Ht.unsigned a then _ else _) _=t_ (Bs m<|s) _ _
  unfold t_
  by_cases q:s.length<2*Ht.unsigned a
  ·rw[AI q]
   show _=if s.length<2*Ht.unsigned a then _ else _
   rw[AI q]
   rfl
  ·rw[AG q]
   show _=if s.length<2*Ht.unsigned a then _ else _
   rw[AG q]
   exact h (Ht.unsigned a) (s.take<|2*Ht.unsigned a) _<|by rw[HP];lia
def IC(h:B_ g m)(hb:g.byte=b)(hq:b=93\/b=113\/b=114):NQ g m=A4 g m:=by
 rw[BE h hb (by rcases hq with rfl | rfl | rfl<;>decide) (by rcases hq with rfl | rfl | rfl<;>decide) (by rcases hq with rfl | rfl | rfl<;>decide) (by rcases hq with rfl | rfl | rfl<;>decide),Rv (by unfold Cy;lia)]
 exact(YH fun n l m hl=>Km hb hq n l m hl).symm
def GO(h:B_ g m)(hb:g.byte=b)(hq:b=115\/b=116\/b=117):Kr g m=A4 g m:=by
 rw[BE h hb (by rcases hq with rfl | rfl | rfl<;>decide) (by rcases hq with rfl | rfl | rfl<;>decide) (by rcases hq with rfl | rfl | rfl<;>decide) (by rcases hq with rfl | rfl | rfl<;>decide),Rv (by unfold Cy;lia)]
 exact(YH fun n l m hl=>IE hb hq n l m hl).symm
def v_(a b c d:Ht.Pos):c2 (Lo a b c d)=(Ht.crossing a.1 b.1 c.1 d.1 ((c.1-a.1)*(d.2-c.2)- (c.2-a.2)*(d.1-c.1))<|(b.1-a.1)*(d.2-c.2)- (b.2-a.2)*(d.1-c.1),Ht.crossing a.2 b.2 c.2 d.2 ((c.1-a.1)*(d.2-c.2)- (c.2-a.2)*(d.1-c.1))<|(b.1-a.1)*(d.2-c.2)- (b.2-a.2)*(d.1-c.1)):=by
 unfold Lo Ht.crossing
 show c2 (if(b.1-a.1)*(d.2-c.2)- (b.2-a.2)*(d.1-c.1)=0 then _ else _)=_
 by_cases t:(b.1-a.1)*(d.2-c.2)- (b.2-a.2)*(d.1-c.1)=0
 ·rw[AI t,AI t,AI t];rfl
 ·rw[AG t,AG t,AG t];rfl
def jj(n:Ht.M)(hy:y<2)(q:LH (n.zone y))(hp:p<(n.zone y).size)(N:Ht.Pos)(f:Nat->Nat):(Ce n y p ((n.zone y).was p) N<|(n.zone y).mark p).mark y p f=n.setZone y {n.zone y with now:=(n.zone y).now.set p N,marks:=(n.zone y).marks.set p<|f<|(n.zone y).mark p}:=by
 have e1:((Ce n y p ((n.zone y).was p) N<|(n.zone y).mark p).zone y)=⟨(n.zone y).org.set p<|(n.zone y).was p,(n.zone y).now.set p N,(n.zone y).marks.set p<|(n.zone y).mark p⟩:=DT hy
 have hm:p<(n.zone y).marks.length:=by have:=q.lm;unfold Ht.Zone.size at hp;lia
 have ho:p<(n.zone y).org.length:=by have:=q.lo;unfold Ht.Zone.size at hp;lia
 rw[WD,aG hy,e1]
 unfold Ce
 have a1:Ht.Zone.was ⟨(n.zone y).org.set p<|(n.zone y).was p,(n.zone y).now.set p N,(n.zone y).marks.set p<|(n.zone y).mark p⟩ p=(n.zone y).was p:=CJ ho
 have a2:Ht.Zone.at_ ⟨(n.zone y).org.set p<|(n.zone y).was p,(n.zone y).now.set p N,(n.zone y).marks.set p<|(n.zone y).mark p⟩ p=N:=CJ hp
 have a3:Ht.Zone.mark ⟨(n.zone y).org.set p<|(n.zone y).was p,(n.zone y).now.set p N,(n.zone y).marks.set p<|(n.zone y).mark p⟩ p=(n.zone y).mark p:=CJ hm
 rw[a1,a2,a3]
 have a4:(n.zone y).org.set p ((n.zone y).was p)=(n.zone y).org:=Hi
 rw[a4]
def tT(h:c<=m.stack.length->F (Bs m<|m.stack.drop c) (m.stack.take c)=G (Bs m<|m.stack.drop c) (m.stack.take c)):t_ m c F=t_ m c G:=by
 unfold t_
 by_cases e:m.stack.length<c
 ·rw[AI e,AI e]
 ·rw[AG e,AG e];exact h<|by lia
def wi5{F G:Nat->Nat->Nat->Nat->Nat->Ht.R Ht.M}(h:Ht.unsigned x4<n4->F (Ht.unsigned x0) (Ht.unsigned x1) (Ht.unsigned x2) (Ht.unsigned x3) (Ht.unsigned x4)=G (Ht.unsigned x0) (Ht.unsigned x1) (Ht.unsigned x2) (Ht.unsigned x3) (Ht.unsigned x4)):
  (wi x0 n0 fun d=>wi x1 n1 fun c=>wi x2 n2 fun b=>wi x3 n3 fun a=>wi x4 n4 fun p=>F d c b a p)=(wi x4 n4 fun p=>wi x3 n3 fun a=>wi x2 n2 fun b=>wi x1 n1 fun c=>wi x0 n0 fun d=>G d c b a p):=by
 unfold wi
 by_cases h0:Ht.unsigned x0<n0<;>by_cases h1:Ht.unsigned x1<n1<;>by_cases h2:Ht.unsigned x2<n2<;>by_cases h3:Ht.unsigned x3<n3<;>by_cases h4:Ht.unsigned x4<n4<;>simp only[h0,h1,h2,h3,h4,D8,FH]
 exact h h4
def XO(h:B_ g m)(hb:g.byte=15)(hg:Good K W g v m):Jd g m=A4 g m:=by
 rw[BE h hb]
 refine .trans ?_ Su.symm
 simp only[Cf]
 refine tT fun e=>wi5 fun p4=>?_
 rw[v_]
 have q:=E1 hg hg.z2
 exact BO G4<|jj (Bs m<|m.stack.drop 5) hg.z2 q p4 _ _
end
section
def Xu: ∀{N e:Nat},e<N->p (f e)=true->(∀ j,j<e->p (f j)=false)->((BM N).map f).find? p=some (f e):=by
 intro N e h1 h2 h3
 have hr:(BM N).map f=(BM e).map f++f e::((BM<|N-e-1).map fun j=>f<|e+1+j):=by
  apply Oc
  intro i
  by_cases q:i<N
  ·rw[CY,Gr q]
   by_cases q1:i<e
   ·rw[WE<|by rw[A8,CO];exact q1,CY,Gr q1]
   ·rw[V5<|by rw[A8,CO];lia,A8,CO]
    by_cases q2:i=e
    ·subst q2;rw[Rp];rfl
    ·obtain⟨k,rfl⟩: ∃ k,i=e+1+k:=⟨i-e-1,by lia⟩
     rw[show e+1+k-e=k+1 by lia,Ru,CY,Gr<|by lia]
     rfl
  ·rw[EG<|by rw[A8,CO];lia,EG<|by rw[E8,A8,CO,HG,A8,CO];lia]
 rw[hr,List.find?_append]
 have hn:((BM e).map f).find? p=none:=by
  rw[fU]
  intro x hx
  obtain⟨j,hj,rfl⟩:=Fd.mp hx
  rw[h3 j<|O_.mp hj]
  simp
 rw[hn,KJ,h2]
 rfl
noncomputable def cs(s n:Nat):List Nat:=(BM n).map fun i=>s+i
def j4:(cs s n).length=n:=by unfold cs;rw[A8,CO]
def Yk(h:i<n):(cs s n).getD i 0=s+i:=by
 unfold cs
 rw[Cc,CY,Gr h]
 rfl
def R7(h:i<n):(cs s n).drop (i+1)++(cs s n).take i=(BM<|n-1).map fun e=>s+(i+1+e)%n:=by
 have l1:((cs s n).drop<|i+1).length=n- (i+1):=by rw[Gs,j4]
 apply Oc
 intro j
 by_cases q:j<n-1
 ·rw[CY,Gr q]
  by_cases q1:j<n- (i+1)
  ·rw[WE<|by rw[l1];exact q1,V7]
   unfold cs
   rw[CY,Gr<|by lia]
   show some (s+(i+1+j))=some (s+(i+1+j)%n)
   rw[Bu<|by lia]
  ·rw[V5<|by rw[l1];lia,l1,rK,AI<|by lia]
   unfold cs
   rw[CY,Gr<|by lia]
   show some (s+(j- (n- (i+1))))=some (s+(i+1+j)%n)
   have:(i+1+j)%n=j- (n- (i+1)):=by
    rw[E7<|by lia,Bu<|by lia]
    lia
   rw[this]
 ·rw[EG<|by rw[E8,l1,HP,j4];lia,EG<|by rw[A8,CO];lia]
def xt(h:i<n):((cs s n).drop (i+1)++(cs s n).take i).reverse=(BM<|n-1).map fun e=>s+(i+n-1-e)%n:=by
 rw[R7 h]
 apply Oc
 intro j
 by_cases q:j<n-1
 ·rw[pO<|by rw[A8,CO];exact q,A8,CO,CY,Gr<|by lia,CY,Gr q]
  show some (s+(i+1+(n-1-1-j))%n)=some (s+(i+n-1-j)%n)
  rw[show i+1+(n-1-1-j)=i+n-1-j by lia]
 ·rw[EG<|by rw[Ek,A8,CO];lia,EG<|by rw[A8,CO];lia]
noncomputable def tb(x:Bool):Nat:=if x=true then Ht.INX else Ht.INY
noncomputable def Tc(z:Ht.Zone)(x:Bool)(p:Nat):Bool:=Ht.has (z.mark p) (tb x)
noncomputable def lE(op o1 n1 o2 n2:Int):Int:=
 if op<=(if o2<o1 then o2 else o1)then(if o2<o1 then n2 else n1)+(op- (if o2<o1 then o2 else o1))
 else if(if o2<o1 then o1 else o2)<=op then(if o2<o1 then n1 else n2)+(op- (if o2<o1 then o1 else o2))
 else(if o2<o1 then n2 else n1)+Ht.near ((op- (if o2<o1 then o2 else o1))*((if o2<o1 then n1 else n2)- (if o2<o1 then n2 else n1))) ((if o2<o1 then o1 else o2)- (if o2<o1 then o2 else o1))
variable{z:Ht.Zone}{x:Bool}{s n i:Nat}
def VG(h:i<n)(t:Tc z x (s+i)=true):Ht.led z x (cs s n) i=Ht.axis x (z.at_<|s+i):=by
 unfold Ht.led
 dsimp only
 rw[Yk h]
 exact AI t
def yf(hf:f<n)(hd:d<n)(hj:j+1<d)(tf:Tc z x (s+f)=true)(ts:Tc z x (s+(f+d)%n)=true)(un: ∀ e,0<e->e<d->Tc z x (s+(f+e)%n)=false):
  Ht.led z x (cs s n) ((f+1+j)%n)=Ht.cut (lE (Ht.axis x<|z.was<|s+(f+1+j)%n) (Ht.axis x<|z.was<|s+f) (Ht.axis x<|z.at_<|s+f) (Ht.axis x<|z.was<|s+(f+d)%n)<|Ht.axis x<|z.at_<|s+(f+d)%n):=by
 have n0:0<n:=by lia
 obtain⟨i,hi⟩: ∃ i,i=(f+1+j)%n:=⟨_,rfl⟩
 have il:i<n:=by rw[hi];exact FD _ n0
 have ui:Tc z x (s+i)=false:=by rw[hi,show f+1+j=f+(1+j) by lia];exact un (1+j) (by lia)<|by lia
 have nx:((cs s n).drop (i+1)++(cs s n).take i).find? (Tc z x)=some (s+(f+d)%n):=by
  rw[R7 il]
  have e1: ∀ e,(i+1+e)%n=(f+(j+2+e))%n:=fun e=>by rw[hi,show(f+1+j)%n+1+e=(f+1+j)%n+(1+e) by lia,bc];congr 1;lia
  have:=Xu (f:=fun e=>s+(i+1+e)%n) (p:=Tc z x) (N:=n-1) (e:=d-2-j) (by lia) (by
   show Tc z x (s+(i+1+(d-2-j))%n)=true
   rw[e1,show j+2+(d-2-j)=d by lia];exact ts) (fun e he=>by
   show Tc z x (s+(i+1+e)%n)=false
   rw[e1];exact un _ (by lia)<|by lia)
  rw[this]
  rw[e1,show j+2+(d-2-j)=d by lia]
 have bk:((cs s n).drop (i+1)++(cs s n).take i).reverse.find? (Tc z x)=some (s+f):=by
  rw[xt il]
  have e1: ∀ e,e<=j->(i+n-1-e)%n=(f+(j-e))%n:=fun e he=>by
   have:i+n-1-e=i+(n-1-e):=by lia
   rw[this,hi,bc,show f+1+j+(n-1-e)=(f+(j-e))+n by lia,Pa]
  have:=Xu (f:=fun e=>s+(i+n-1-e)%n) (p:=Tc z x) (N:=n-1) (e:=j) (by lia) (by
   show Tc z x (s+(i+n-1-j)%n)=true
   rw[e1 j<|BS _,Rp,fA,Bu hf];exact tf) (fun e he=>by
   show Tc z x (s+(i+n-1-e)%n)=false
   rw[e1 e<|by lia];exact un _ (by lia)<|by lia)
  rw[this]
  rw[e1 j<|BS _,Rp,fA,Bu hf]
 rw[<-hi]
 unfold Ht.led
 dsimp only
 rw[Yk il]
 have c1: ¬ Ht.has (z.mark<|s+i) (if x=true then Ht.INX else Ht.INY)=true:=by
  have:Ht.has (z.mark<|s+i) (if x=true then Ht.INX else Ht.INY)=false:=ui
  rw[this];decide
 rw[AG c1]
 have nx':Rq (fun p=>Ht.has (z.mark p)<|if x=true then Ht.INX else Ht.INY) ((cs s n).drop (i+1)++(cs s n).take i)=some (s+(f+d)%n):=nx
 have bk':Rq (fun p=>Ht.has (z.mark p)<|if x=true then Ht.INX else Ht.INY) ((cs s n).drop (i+1)++(cs s n).take i).reverse=some (s+f):=bk
 rw[nx',bk']
 dsimp only
 have ne: ¬ s+f=s+(f+d)%n:=fun q=>by
  have q':f=(f+d)%n:=by lia
  rcases Dd (f+d) n with w | w
  ·rw[Bu w]at q';lia
  ·rw[E7 w,Bu<|by lia]at q';lia
 rw[AG ne]
 unfold lE
 by_cases c:Ht.axis x (z.was<|s+(f+d)%n)<Ht.axis x (z.was<|s+f)
 ·simp only[AI c]
  split
  ·rfl
  ·split<;>rfl
 ·simp only[AG c]
  split
  ·rfl
  ·split<;>rfl
def yM(ht:t<n)(h:i<n)(ne:i≠t)(tt:Tc z x (s+t)=true)(un: ∀ e,e<n->e≠t->Tc z x (s+e)=false):
  Ht.led z x (cs s n) i=Ht.cut (Ht.axis x (z.at_<|s+i)+(Ht.axis x (z.at_<|s+t)-Ht.axis x (z.was<|s+t))):=by
 have n0:0<n:=by lia
 have nx:((cs s n).drop (i+1)++(cs s n).take i).find? (Tc z x)=some (s+t):=by
  rw[R7 h]
  obtain⟨e0,he0,hl0⟩: ∃ e0,(i+1+e0)%n=t/\e0<n-1:=by
   by_cases q:i<t
   ·exact⟨t-i-1,by rw[Bu<|by lia];lia,by lia⟩
   ·exact⟨t+n-i-1,by rw[show i+1+(t+n-i-1)=t+n by lia,Pa,Bu ht],by lia⟩
  have:=Xu (f:=fun e=>s+(i+1+e)%n) (p:=Tc z x) (N:=n-1) (e:=e0) hl0 (by show Tc z x (s+(i+1+e0)%n)=true;rw[he0];exact tt) (fun e he=>by
   show Tc z x (s+(i+1+e)%n)=false
   refine un _ (FD _ n0) fun q=>?_
   have q2:(i+1+e)%n=(i+1+e0)%n:=by rw[q,he0]
   rcases Dd (i+1+e0) n with w | w
   ·rw[Bu w,Bu<|by lia]at q2;lia
   ·rcases Dd (i+1+e) n with w2 | w2
    ·rw[Bu w2,E7 w,Bu<|by lia]at q2;lia
    ·rw[E7 w2,Bu<|by lia,E7 w,Bu<|by lia]at q2;lia)
  rw[this]
  rw[he0]
 have bk:((cs s n).drop (i+1)++(cs s n).take i).reverse.find? (Tc z x)=some (s+t):=by
  cases e:((cs s n).drop (i+1)++(cs s n).take i).reverse.find? (Tc z x)with
  | none=>
   have q:=fU.mp e (s+t)<|oy.mpr<|Wd nx
   exact absurd tt q
  | some y=>
   have m1:=oy.mp<|Wd e
   rw[R7 h]at m1
   obtain⟨e1,_,rfl⟩:=Fd.mp m1
   have ty:=lZ e
   by_cases q:(i+1+e1)%n=t
   ·rw[q]
   ·rw[un _ (FD _ n0) q]at ty;cases ty
 unfold Ht.led
 dsimp only
 rw[Yk h]
 have c1: ¬ Ht.has (z.mark<|s+i) (if x=true then Ht.INX else Ht.INY)=true:=by
  have:Ht.has (z.mark<|s+i) (if x=true then Ht.INX else Ht.INY)=false:=un i h ne
  rw[this];decide
 rw[AG c1]
 have nx':Rq (fun p=>Ht.has (z.mark p)<|if x=true then Ht.INX else Ht.INY) ((cs s n).drop (i+1)++(cs s n).take i)=some (s+t):=nx
 have bk':Rq (fun p=>Ht.has (z.mark p)<|if x=true then Ht.INX else Ht.INY) ((cs s n).drop (i+1)++(cs s n).take i).reverse=some (s+t):=bk
 rw[nx',bk']
 dsimp only
 rw[AI rfl]
def vT(h:i<n)(un: ∀ e,e<n->Tc z x (s+e)=false):Ht.led z x (cs s n) i=Ht.axis x (z.at_<|s+i):=by
 have n0:0<n:=by lia
 have nx:((cs s n).drop (i+1)++(cs s n).take i).find? (Tc z x)=none:=by
  rw[R7 h,fU]
  intro y hy
  obtain⟨e,_,rfl⟩:=Fd.mp hy
  rw[un _<|FD _ n0]
  decide
 unfold Ht.led
 dsimp only
 rw[Yk h]
 have c1: ¬ Ht.has (z.mark<|s+i) (if x=true then Ht.INX else Ht.INY)=true:=by
  have:Ht.has (z.mark<|s+i) (if x=true then Ht.INX else Ht.INY)=false:=un i h
  rw[this];decide
 rw[AG c1]
 have nx':Rq (fun p=>Ht.has (z.mark p)<|if x=true then Ht.INX else Ht.INY) ((cs s n).drop (i+1)++(cs s n).take i)=none:=nx
 rw[nx']
end
end GF
end
section
namespace GF
open PySem PySem.Spec PyProof.Rows L2
variable{P:BH}{w:Ap}{K:AS}{mg:Str->Option AN}{base:Ay}{A:B4}[T:Txt K mg A]
noncomputable def kx(x:Bool):Nat:=if x=true then 0 else 1
def Cg:Wz (pV p) (AD<|kx x)=some (.int<|Ht.axis x p):=by cases x<;>rfl
def AA2:uA (pV p).length (AD<|kx x)=some (kx x):=by cases x<;>rfl
def xU:(pV p).set (kx x) (.int v)=pV (Ht.withAxis x p v):=by cases x<;>rfl
def UI(h:LJ p):FN (Ht.axis x p):=by cases x<;>first | exact h.1 | exact h.2
def ni(h:LJ p)(hv:FN v):LJ (Ht.withAxis x p v):=by cases x<;>first | exact⟨h.1,hv⟩ | exact⟨hv,h.2⟩
def Ak:(1:Nat)<2:=by decide
inductive ABA(K:AS)(A:B4)(vs:List V)(H:Hp)(Q:VK)(E:XK):Prop
 | mk: ∀ W g v m p a b x,vs= [.ref (g.pp 1 p),.ref (g.pp 1 a),.ref (g.pp 1 b),.int (AD (kx x))]->R K A W g v m H->(p<(m.zone 1).size/\a<(m.zone 1).size/\b<(m.zone 1).size)->Q (.int (lE (Ht.axis x ((m.zone 1).was p)) (Ht.axis x ((m.zone 1).was a)) (Ht.axis x ((m.zone 1).at_ a)) (Ht.axis x ((m.zone 1).was b)) (Ht.axis x ((m.zone 1).at_ b)))) H->ABA K A vs H Q E
def eZ :O0 P w base 2 96 ["point","one","other","axis"] (ABA K A):=by
 refine T.Z9.F.DL ["point","one","other","axis","low","high","old","span_old","span_now"] fun H vs Q E hr h=>?_
 obtain⟨W,g,v,m,p,a,b,x,rfl,h,⟨hp,ha,hb⟩,k⟩:=h
 refine⟨_,(AB (AO 4<|Bm (A0 Dq (A9 Ab (AR Aj) A6)<|A9 Ab (AR AV) A6) Aj AV)<|AB (AO 5<|Bm (A0 Dq (A9 Ab (AR Aj) A6)<|A9 Ab (AR AV) A6) AV Aj)<|AB (AO 6<|A9 Ab (AR AH) A6)<|AB (Aq (A0 IT (pv 6)<|A9 Ab (AR CG) A6) (AF<|AY<|AU BJ (A9 Ab (AR CG) A6)<|AU B3 (pv 6)<|A9 Ab (AR CG) A6) AX)<|AB (Aq (A0 Ut (pv 6)<|A9 Ab (AR ET) A6) (AF<|AY<|AU BJ (A9 Ab (AR ET) A6)<|AU B3 (pv 6)<|A9 Ab (AR ET) A6) AX)<|AB (AO 7<|AU B3 (A9 Ab (AR ET) A6)<|A9 Ab (AR CG) A6)<|AB (AO 8<|AU B3 (A9 Ab (AR ET) A6)<|A9 Ab (AR CG) A6)<|AF<|AY<|AU BJ (A9 Ab (AR CG) A6)<|Ah GU T.near<|Ax (AU Bb (AU B3 (pv 6)<|A9 Ab (AR CG) A6)<|pv 8)<|pv 7),?_⟩
 unfold lE at k
 by_cases c:Ht.axis x ((m.zone 1).was b)<Ht.axis x ((m.zone 1).was a)
 ·simp only[AI c]at k
  refine⟨h.pt Ak hb,Aa,Bx _ _ _,BF.of<|h.po Ak hb,Cg,h.pt Ak ha,Aa,Bx _ _ _,BF.of<|h.po Ak ha,Cg,A7 (fun _=>?_) fun q=>absurd (Av c) q⟩
  refine⟨h.pt Ak hb,Aa,Bx _ _ _,BF.of<|h.po Ak hb,Cg,h.pt Ak ha,Aa,Bx _ _ _,BF.of<|h.po Ak ha,Cg,A7 (fun _=>?_) fun q=>absurd (Av c) q⟩
  refine⟨h.pt Ak hp,Aa,Bx _ _ _,BF.of<|h.po Ak hp,Cg,⟨h.pt Ak hb,Aa,Bx _ _ _,BF.of<|h.po Ak hb,Cg,A7 (fun e=>?_) fun e=>?_⟩⟩
  ·rw[AI<|An e]at k
   exact⟨h.pt Ak hb,Aa,CF _ _ _,BF.of<|h.pn Ak hb,Cg,h.pt Ak hb,Aa,Bx _ _ _,BF.of<|h.po Ak hb,Cg,k⟩
  have e1:=Ew<|Eu.mpr e
  rw[AG e1]at k
  refine⟨h.pt Ak ha,Aa,Bx _ _ _,BF.of<|h.po Ak ha,Cg,A7 (fun e=>?_) fun e=>?_⟩
  ·rw[AI<|An e]at k
   exact⟨h.pt Ak ha,Aa,CF _ _ _,BF.of<|h.pn Ak ha,Cg,h.pt Ak ha,Aa,Bx _ _ _,BF.of<|h.po Ak ha,Cg,k⟩
  have e2:=Ew<|Eu.mpr e
  rw[AG e2]at k
  refine⟨h.pt Ak ha,Aa,Bx _ _ _,BF.of<|h.po Ak ha,Cg,h.pt Ak hb,Aa,Bx _ _ _,BF.of<|h.po Ak hb,Cg,⟨h.pt Ak ha,Aa,CF _ _ _,BF.of<|h.pn Ak ha,Cg,h.pt Ak hb,Aa,CF _ _ _,BF.of<|h.pn Ak hb,Cg,?_⟩⟩
  have i1:=UI (x:=x)<|Fv h.good Ak hp
  have i2:=UI (x:=x)<|Fv h.good Ak hb
  have i3:=UI (x:=x)<|Fv h.good Ak ha
  refine⟨h.pt Ak hb,Aa,CF _ _ _,BF.of<|h.pn Ak hb,Cg,h.pt Ak hb,Aa,Bx _ _ _,BF.of<|h.po Ak hb,Cg,.inl<|by unfold FN at*;lia,_,_,rfl,⟨by intro q;lia,?_⟩,k⟩
  unfold FN at*
  have:(Ht.axis x ((m.zone 1).was a)-Ht.axis x ((m.zone 1).was b)).natAbs<=8589934592:=by lia
  exact Er this<|by decide
 ·simp only[AG c]at k
  refine⟨h.pt Ak hb,Aa,Bx _ _ _,BF.of<|h.po Ak hb,Cg,h.pt Ak ha,Aa,Bx _ _ _,BF.of<|h.po Ak ha,Cg,A7 (fun q=>absurd (An q) c) fun _=>⟨h.pt Ak hb,Aa,Bx _ _ _,BF.of<|h.po Ak hb,Cg,h.pt Ak ha,Aa,Bx _ _ _,BF.of<|h.po Ak ha,Cg,A7 (fun q=>absurd (An q) c) fun _=>⟨h.pt Ak hp,Aa,Bx _ _ _,BF.of<|h.po Ak hp,Cg,h.pt Ak ha,Aa,Bx _ _ _,BF.of<|h.po Ak ha,Cg,A7 (fun e=>?_) fun e=>?_⟩⟩⟩
  ·rw[AI<|An e]at k
   exact⟨h.pt Ak ha,Aa,CF _ _ _,BF.of<|h.pn Ak ha,Cg,h.pt Ak ha,Aa,Bx _ _ _,BF.of<|h.po Ak ha,Cg,k⟩
  rw[AG<|Ew<|Eu.mpr e]at k
  refine⟨h.pt Ak hb,Aa,Bx _ _ _,BF.of<|h.po Ak hb,Cg,A7 (fun e=>?_) fun e=>?_⟩
  ·rw[AI<|An e]at k
   exact⟨h.pt Ak hb,Aa,CF _ _ _,BF.of<|h.pn Ak hb,Cg,h.pt Ak hb,Aa,Bx _ _ _,BF.of<|h.po Ak hb,Cg,k⟩
  have e2:=Ew<|Eu.mpr e
  rw[AG e2]at k
  refine⟨h.pt Ak hb,Aa,Bx _ _ _,BF.of<|h.po Ak hb,Cg,h.pt Ak ha,Aa,Bx _ _ _,BF.of<|h.po Ak ha,Cg,⟨h.pt Ak hb,Aa,CF _ _ _,BF.of<|h.pn Ak hb,Cg,h.pt Ak ha,Aa,CF _ _ _,BF.of<|h.pn Ak ha,Cg,?_⟩⟩
  have i1:=UI (x:=x)<|Fv h.good Ak hp
  have i2:=UI (x:=x)<|Fv h.good Ak ha
  have i3:=UI (x:=x)<|Fv h.good Ak hb
  refine⟨h.pt Ak ha,Aa,CF _ _ _,BF.of<|h.pn Ak ha,Cg,h.pt Ak ha,Aa,Bx _ _ _,BF.of<|h.po Ak ha,Cg,.inl<|by unfold FN at*;lia,_,_,rfl,⟨by intro q;lia,?_⟩,k⟩
  unfold FN at*
  have:(Ht.axis x ((m.zone 1).was b)-Ht.axis x ((m.zone 1).was a)).natAbs<=8589934592:=by lia
  exact Er this<|by decide
structure LS(m0 m:Ht.M)(x:Bool)(s n:Nat)(D:Nat->Prop):Prop where
 eq:m={m0 with zone1:={m0.zone1 with now:=m.zone1.now}}
 len:m.zone1.now.length=m0.zone1.now.length
 out: ∀ p,¬(s<=p/\p<s+n)->m.zone1.at_ p=m0.zone1.at_ p
 dn: ∀ i,i<n->D i->m.zone1.at_ (s+i)=Ht.withAxis x (m0.zone1.at_ (s+i)) (Ht.led m0.zone1 x (cs s n) i)
 nd: ∀ i,i<n-> ¬ D i->m.zone1.at_ (s+i)=m0.zone1.at_ (s+i)
def jk:Ht.withAxis x p (Ht.axis x p)=p:=by cases x<;>rfl
def zQ:Ht.withAxis x (Ht.withAxis x p u) v=Ht.withAxis x p v:=by cases x<;>rfl
section
variable{m0 m:Ht.M}{x:Bool}{s n i:Nat}{D D':Nat->Prop}
def LS.refl:LS m0 m0 x s n (fun _=>False):=⟨rfl,rfl,fun _ _=>rfl,fun _ _ h=>h.elim,fun _ _ _=>rfl⟩
def LS.was(h:LS m0 m x s n D)(p:Nat):(m.zone 1).was p=(m0.zone 1).was p:=by rw[h.eq];rfl
def LS.size(h:LS m0 m x s n D):(m.zone 1).size=(m0.zone 1).size:=h.len
def LS.tat(h:LS m0 m x s n D)(hi:i<n)(t:Tc m0.zone1 x (s+i)=true):(m.zone 1).at_ (s+i)=(m0.zone 1).at_ (s+i):=by
 by_cases q:D i
 ·have:=h.dn i hi q
  rw[VG hi t,jk]at this
  exact this
 ·exact h.nd i hi q
def LS.more(h:LS m0 m x s n D)(hD: ∀ i,D i->D' i)(hn: ∀ i,i<n->D' i-> ¬ D i->Tc m0.zone1 x (s+i)=true\/Ht.led m0.zone1 x (cs s n) i=Ht.axis x (m0.zone1.at_<|s+i)):LS m0 m x s n D':=by
 refine⟨h.eq,h.len,h.out,fun i hi d=>?_,fun i hi d=>h.nd i hi fun q=>d<|hD i q⟩
 by_cases q:D i
 ·exact h.dn i hi q
 ·rw[h.nd i hi q]
  rcases hn i hi d q with t | t
  ·rw[VG hi t,jk]
  ·rw[t,jk]
def wZ:Ce m 1 i ((m.zone 1).was i) q ((m.zone 1).mark i)={m with zone1:={m.zone1 with now:=m.zone1.now.set i q}}:=by
 unfold Ce Ht.Zone.was Ht.Zone.mark
 rw[Hi,Hi]
 rfl
def LS.step(h:LS m0 m x s n D)(hi:i<n)(hs:s+n<=m0.zone1.size)(hu:u=Ht.led m0.zone1 x (cs s n) i):
  LS m0 (Ce m 1 (s+i) ((m.zone 1).was<|s+i) (Ht.withAxis x ((m.zone 1).at_<|s+i) u)<|(m.zone 1).mark<|s+i) x s n (fun j=>D j\/j=i):=by
 rw[wZ]
 have hl:s+i<m.zone1.now.length:=by rw[h.len];unfold Ht.Zone.size at hs;lia
 have at2: ∀ p,Ht.Zone.at_ {m.zone1 with now:=m.zone1.now.set (s+i)<|Ht.withAxis x ((m.zone 1).at_<|s+i) u} p=if p=s+i then Ht.withAxis x ((m.zone 1).at_<|s+i) u else m.zone1.at_ p:=fun p=>by
  unfold Ht.Zone.at_
  by_cases q:p=s+i
  ·subst q;rw[AI rfl];exact CJ hl
  ·rw[AG q];exact Ef q
 have am:(m.zone 1).at_ (s+i)=m.zone1.at_ (s+i):=rfl
 refine⟨?_,?_,fun p hp=>?_,fun j hj hd=>?_,fun j hj hd=>?_⟩
 ·have:=h.eq
  rw[this]
 ·rw[DR];exact h.len
 ·rw[at2,AG<|by lia]
  exact h.out p hp
 ·rw[at2]
  by_cases q:j=i
  ·subst q
   rw[AI rfl,hu,am]
   by_cases w:D j
   ·rw[h.dn j hj w,zQ]
   ·rw[h.nd j hj w]
  ·rw[AG<|by lia]
   exact h.dn j hj<|hd.resolve_right q
 ·rw[at2,AG fun q=>hd<|.inr<|by lia]
  exact h.nd j hj fun q=>hd<|.inl q
theorem o6{f:Nat->Nat->Ht.Pos}: ∀(k:Nat) (L:List Ht.Pos) (p:Nat),s+k<=L.length->((BM k).foldl (fun(l:List Ht.Pos) (i:Nat)=>l.set (s+i)<|f 0 i) L).getD p (0,0)=(if s<=p/\p<s+k then f 0 (p-s)else L.getD p (0,0))/\((BM k).foldl (fun(l:List Ht.Pos) (i:Nat)=>l.set (s+i)<|f 0 i) L).length=L.length
 | 0,L,p,_=>⟨by rw[AG<|by lia];rfl,rfl⟩
 | k+1,L,p,h=>by
  obtain⟨h1,h2⟩:=o6 k L p<|by lia
  rw[Ha,Vs]
  refine⟨?_,by show(pJ _ _ _).length=_;rw[DR];exact h2⟩
  show(pJ _ _ _).getD p (0,0)=_
  by_cases q:p=s+k
  ·subst q
   rw[CJ<|by rw[h2];lia,AI<|by lia,show s+k-s=k by lia]
  ·rw[Ef q,h1]
   by_cases w:s<=p/\p<s+k
   ·rw[AI w,AI<|by lia]
   ·rw[AG w,AG<|by lia]
def LS.fin(h:LS m0 m x s n D)(hs:s+n<=m0.zone1.size)(all: ∀ i,i<n->D i):m={m0 with zone1:=Ht.ledContour x m0.zone1<|cs s n}:=by
 have e:m.zone1.now=(Ht.ledContour x m0.zone1<|cs s n).now:=by
  unfold Ht.ledContour
  dsimp only
  rw[j4]
  have fe:(BM n).foldl (fun l (i:Nat)=>l.set ((cs s n).getD i 0)<|Ht.withAxis x (m0.zone1.at_<|(cs s n).getD i 0)<|Ht.led m0.zone1 x (cs s n) i) m0.zone1.now=(BM n).foldl (fun l (i:Nat)=>l.set (s+i)<|Ht.withAxis x (m0.zone1.at_<|s+i)<|Ht.led m0.zone1 x (cs s n) i) m0.zone1.now:=by
   have: ∀(ks:List Nat) (L:List Ht.Pos),(∀ i∈ks,i<n)->ks.foldl (fun l (i:Nat)=>l.set ((cs s n).getD i 0)<|Ht.withAxis x (m0.zone1.at_<|(cs s n).getD i 0)<|Ht.led m0.zone1 x (cs s n) i) L=ks.foldl (fun l (i:Nat)=>l.set (s+i)<|Ht.withAxis x (m0.zone1.at_<|s+i)<|Ht.led m0.zone1 x (cs s n) i) L:=by
    intro ks
    induction ks with
    | nil=>intro L _;rfl
    | cons a ks ih=>
     intro L hk
     rw[Wj,Wj,Yk<|hk a<|D0 ..]
     exact ih _ fun i hi=>hk i<|C0 _ hi
   exact this _ _ fun i hi=>O_.mp hi
  rw[fe]
  have fa:=fun p=>o6 (s:=s) (f:=fun _ i=>Ht.withAxis x (m0.zone1.at_<|s+i)<|Ht.led m0.zone1 x (cs s n) i) n m0.zone1.now p hs
  apply Oc
  intro p
  by_cases q:p<m.zone1.now.length
  ·have q2:p<m0.zone1.now.length:=by rw[<-h.len];exact q
   have g1:m.zone1.now.getD p (0,0)=((BM n).foldl (fun l (i:Nat)=>l.set (s+i)<|Ht.withAxis x (m0.zone1.at_<|s+i)<|Ht.led m0.zone1 x (cs s n) i) m0.zone1.now).getD p (0,0):=by
    rw[(fa p).1]
    by_cases w:s<=p/\p<s+n
    ·rw[AI w]
     have:=h.dn (p-s) (by lia)<|all _<|by lia
     rw[show s+(p-s)=p by lia]at this
     rw[show s+(p-s)=p by lia]
     exact this
    ·rw[AG w]
     exact h.out p w
   have q3:p<((BM n).foldl (fun l (i:Nat)=>l.set (s+i)<|Ht.withAxis x (m0.zone1.at_<|s+i)<|Ht.led m0.zone1 x (cs s n) i) m0.zone1.now).length:=by rw[(fa p).2];exact q2
   rw[Cc,Cc,CS q,CS q3]at g1
   rw[CS q,CS q3]
   exact BO some g1
  ·rw[EG<|by lia,EG<|by rw[(fa p).2,<-h.len];lia]
 have he:=h.eq
 rw[e]at he
 rw[he]
 rfl
end
noncomputable def PL(g:B2)(s n:Nat):List V:=(BM n).map fun i=>V.ref (g.pp 1<|s+i)
def Yd(h:i<n):(PL g s n)[i]?=some (.ref<|g.pp 1<|s+i):=by
 unfold PL
 rw[CY,Gr h]
 rfl
def Uc:(PL g s n).length=n:=by unfold PL;rw[A8,CO]
def vj(h:(PL g s n)[i]?=some x):i<n/\x= .ref (g.pp 1<|s+i):=by
 have hi:i<n:=by
  rcases Dd i n with q | q
  ·exact q
  ·rw[EG<|by rw[Uc];exact q]at h;cases h
 rw[Yd hi]at h
 exact⟨hi,(C_ h).symm⟩
def wH:(AD a+1)%((PL g s n).length:Int)=AD ((a+1)%n):=by
 rw[Uc]
 rfl
inductive ACV(K:AS)(A:B4)(vs:List V)(H:Hp)(Q:VK)(E:XK):Prop
 | mk: ∀ z W v m0 r E' L s n t x,vs= [.ref L,.int (AD t),.int (AD (kx x))]->BX K A E' z W v m0 H r->W L=some (.lst (PL z.g s n))->s+n<=(m0.zone 1).size->t<n->Tc m0.zone1 x (s+t)=true->((∀ e,e<n->e≠t->Tc m0.zone1 x (s+e)=false))->(∀ m' H',LS m0 m' x s n (fun _=>True)->BX K A E' z W v m' H' r->Q .non H')->ACV K A vs H Q E
inductive ACU(K:AS)(A:B4)(vs:List V)(H:Hp)(Q:VK)(E:XK):Prop
 | mk: ∀ z W v m0 m r E' L s n f d x D,vs= [.ref L,.int (AD f),.int (AD ((f+d)%n)),.int (AD (kx x))]->LS m0 m x s n D->BX K A E' z W v m H r->W L=some (.lst (PL z.g s n))->s+n<=(m0.zone 1).size->(f<n/\0<d/\d<n)->Tc m0.zone1 x (s+f)=true->Tc m0.zone1 x (s+(f+d)%n)=true->((∀ e,0<e->e<d->Tc m0.zone1 x (s+(f+e)%n)=false))->(∀ m' H',LS m0 m' x s n (fun i=>D i\/ ∃ e,0<e/\e<d/\i=(f+e)%n)->BX K A E' z W v m' H' r->Q .non H')->ACU K A vs H Q E
section
variable{W:Hp}{v:Var}{m:Ht.M}{H:Hp}{Q:VK}{E E':XK}{z:Fx}{r:Ht.R Ht.M}
def AFq(c:BX K A E z W v m H r)(h:p<(m.zone 1).size/\a<(m.zone 1).size/\b<(m.zone 1).size)(k:Q (.int<|lE (Ht.axis x<|(m.zone 1).was p) (Ht.axis x<|(m.zone 1).was a) (Ht.axis x<|(m.zone 1).at_ a) (Ht.axis x<|(m.zone 1).was b)<|Ht.axis x<|(m.zone 1).at_ b) H):ABA K A [.ref<|z.g.pp 1 p,.ref<|z.g.pp 1 a,.ref<|z.g.pp 1 b,.int<|AD<|kx x] H Q E':=⟨W,z.g,v,m,p,a,b,x,rfl,c.h,h,k⟩
end
def z6{f a b n:Nat}(hf:f<n)(ha:a<n)(hb:b<n)(h:(f+a)%n=(f+b)%n):a=b:=by
 rcases Dd (f+a) n with p | p<;>rcases Dd (f+b) n with q | q
 ·rw[Bu p,Bu q]at h;lia
 ·rw[Bu p,E7 q,Bu<|by lia]at h;lia
 ·rw[Bu q,E7 p,Bu<|by lia]at h;lia
 ·rw[E7 p,Bu<|by lia,E7 q,Bu<|by lia]at h;lia
noncomputable def AA7(σ:List (Option V)):Nat:=match σ.getD 4 none with
 | some (V.int i)=>i.toNat
 | _=>0
def AAq(hf:f<n)(hj:j+1<=d)(hd:d<n):((f+d)%n+n- (f+1+j)%n)%n=d-1-j:=by
 rcases Dd (f+d) n with p | p
 ·rw[Bu p,Bu<|show f+1+j<n by lia,show f+d+n- (f+1+j)=(d-1-j)+n by lia,Pa,Bu<|by lia]
 ·have e:(f+d)%n=f+d-n:=by rw[E7 p,Bu<|by lia]
  rw[e]
  rcases Dd (f+1+j) n with q | q
  ·rw[Bu q,show f+d-n+n- (f+1+j)=d-1-j by lia,Bu<|by lia]
  ·have e2:(f+1+j)%n=f+1+j-n:=by rw[E7 q,Bu<|by lia]
   rw[e2,show f+d-n+n- (f+1+j-n)=(d-1-j)+n by lia,Pa,Bu<|by lia]
def Yw :O0 P w base 2 97 ["points","touched","axis"] (ACV K A):=by
 refine T.Uu.F.DL ["points","touched","axis","leader","moved","number","point"] fun H vs Q E hr h=>?_
 obtain⟨z,W,v,m0,r,E',L,s',n,t,x,rfl,c,hL,hs,ht,tt,un,k⟩:=h
 refine⟨_,(AB (AO 3<|A9 Ab AH AV)<|AB (AO 4<|AU B3 (A9 Ab (AR A6) Aj)<|A9 Ab (AR A6) Aj)<|AF<|EM Ir rfl (SD rfl T.k.Hl<|Af AH) (RH rfl<|Dk (Fe 5)<|Dk (Fe 6) MX)<|AF<|Aq (A0 Ep ET AV) (AF<|Hz (Ah Dx T.cut<|Af<|AU BJ (A9 Ab (AR<|pv 6) Aj) CG)<|Hx (AR<|pv 6) Aj set_list) AX),?_⟩
 have hz: ∀ i,i<n->s'+i<(m0.zone 1).size:=fun i hi=>by lia
 refine⟨BF.of<|c.h.sub _ _ hL,Kd<|Yd ht,c.h.pt Ak<|hz t ht,Aa,CF _ _ _,BF.of<|c.h.pn Ak<|hz t ht,Cg,c.h.pt Ak<|hz t ht,Aa,Bx _ _ _,BF.of<|c.h.po Ak<|hz t ht,Cg,?_⟩
 obtain⟨mv,hmv⟩: ∃ mv,mv=Ht.axis x ((m0.zone 1).at_ (s'+t))-Ht.axis x ((m0.zone 1).was (s'+t)):=⟨_,rfl⟩
 delta V3 RI
 dsimp only
 rw[<-hmv]
 refine⟨_,_,rfl,BF.of<|c.h.sub _ _ hL,?_⟩
 refine Np (a:=L) (xs:=PL z.g s' n) (fun i σ H'=> ∃ m o1 o2,σ= [some<|.ref L,some<|.int<|AD t,some<|.int<|AD<|kx x,some<|.ref<|z.g.pp 1<|s'+t,some<|.int mv,o1,o2]/\LS m0 m x s' n (fun j=>j<i)/\BX K A E' z W v m H' r) ⟨m0,none,none,rfl,LS.refl.more (fun _ q=>q.elim) fun _ _ q _=>absurd q<|HM _,c⟩ ?_ ?_ ?_
 ·rintro i σ H1 hi ⟨m,o1,o2,rfl,ls,c⟩
  exact BF.of<|c.h.sub _ _ hL
 ·rintro i y σ H1 tp hy htp ⟨m,o1,o2,rfl,ls,c⟩
  obtain⟨hi,rfl⟩:=vj hy
  replace c:=c.new (o:= .tup [.int (i:Nat),.ref<|z.g.pp 1<|s'+i]) htp
  have hiS:s'+i<(m.zone 1).size:=by rw[ls.size];exact hz i hi
  refine⟨_,_,rfl,Dh.of AJ,rfl,_,_,rfl,_,_,rfl,rfl,rfl,A7 (fun e=>?_) fun e=>?_⟩
  ·refine⟨c.h.pt Ak hiS,Aa,CF _ _ _,BF.of<|c.h.pn Ak hiS,Cg,_,rfl,trivial,c.h.pt Ak hiS,Aa,CF _ _ _,_,_,_,kx x,rfl,rfl,c.h.pn Ak hiS,AA2,?_⟩
   rw[xU]
   have at0:(m.zone 1).at_ (s'+i)=m0.zone1.at_ (s'+i):=ls.nd i hi<|GC _
   have hu:Ht.cut (Ht.axis x ((m.zone 1).at_<|s'+i)+mv)=Ht.led m0.zone1 x (cs s' n) i:=by
    rw[yM ht hi (neN e) tt un,hmv,at0]
    rfl
   exact⟨_,_,_,rfl,(ls.step hi hs hu).more (fun j q=>by lia) fun j _ q1 q2=>by lia,c.go same_refl (c.h.pz Ak hiS<|ni (Ln c.h.good Ak hiS)<|Du _) Fg EY⟩
  ·refine⟨m,_,_,rfl,ls.more (fun j q=>by lia) fun j _ q1 q2=>?_,c⟩
   have:j=t:=by lia
   rw[this]
   exact .inl tt
 ·rintro σ H1 ⟨m,o1,o2,rfl,ls,c⟩
  rw[Uc]at ls
  exact k m H1 (ls.more (fun _ _=>trivial) fun j hj _ q=>absurd hj q) c
def Y0 :O0 P w base 3 98 ["points","first","second","axis"] (ACU K A):=by
 refine T.VF.F.DL ["points","first","second","axis","number"] fun H vs Q E hr h=>?_
 obtain⟨z,W,v,m0,m,r,E',L,s',n,f,d,x,D,rfl,ls,c,hL,hs,⟨hf,hd0,hdn⟩,tf,ts,un,k⟩:=h
 refine⟨_,(AB (AO 4<|AU Dz (AU BJ AV AE)<|Dc T.k.CD<|Af AH)<|AF<|JH Ir (A0 Ep CG Aj)<|AB (Hz (Ah Dx T.cut<|Af<|Ah eZ T.Z9<|RQ (A9 Ab AH CG) (A9 Ab AH AV) (A9 Ab AH Aj) A6)<|Hx (AR<|A9 Ab AH CG) A6 set_list)<|AF<|AO 4<|AU Dz (AU BJ CG AE)<|Dc T.k.CD<|Af AH),?_⟩
 have n0:0<n:=by lia
 have ln:(0:Int)<((PL z.g s' n).length:Int):=by rw[Uc];exact BQ.mpr n0
 have hsec:(f+d)%n<n:=FD _ n0
 have hz: ∀ i,i<n->s'+i<(m0.zone 1).size:=fun i hi=>by lia
 refine⟨.inl<|BF.of<|c.h.sub _ _ hL,ln,?_⟩
 show RZ 4 (.int<|(AD f+1)%((PL z.g s' n).length:Int)) _ _ _
 rw[wH]
 refine NP (fun σ H'=> ∃ j m,j+1<=d/\σ= [some<|.ref L,some<|.int<|AD f,some<|.int<|AD<|(f+d)%n,some<|.int<|AD<|kx x,some<|.int<|AD<|(f+1+j)%n]/\LS m0 m x s' n (fun i=>D i\/ ∃ e,0<e/\e<1+j/\i=(f+e)%n)/\BX K A E' z W v m H' r) (fun σ _=>((f+d)%n+n-AA7 σ)%n) ⟨0,m,by lia,rfl,ls.more (fun _ q=> .inl q) fun i _ q1 q2=>?_,c⟩ ?_ fun σ H1 Q1 Q2 hq h=>Jg.mono h fun x h=>Jg.mono h fun y h=>⟨h.1,hq _ _ h.2⟩
 ·rcases q1 with q |⟨e,e1,e2,_⟩
  ·exact absurd q q2
  ·lia
 ·rintro σ H1 ⟨j,m1,hj,rfl,ls,c⟩
  have hnum:(f+1+j)%n<n:=FD _ n0
  have pS:s'+(f+1+j)%n<(m1.zone 1).size:=by rw[ls.size];exact hz _ hnum
  have fS:s'+f<(m1.zone 1).size:=by rw[ls.size];exact hz _ hf
  have sS:s'+(f+d)%n<(m1.zone 1).size:=by rw[ls.size];exact hz _ hsec
  refine⟨rfl,A7 (fun e=>?_) fun e=>?_⟩
  ·have jd:j+1<d:=by
    rcases Dd (j+1) d with q | q
    ·exact q
    ·exact absurd (by rw[show f+1+j=f+d by lia])<|neN e
   refine⟨BF.of<|c.h.sub _ _ hL,Kd<|Yd hnum,BF.of<|c.h.sub _ _ hL,Kd<|Yd hf,BF.of<|c.h.sub _ _ hL,Kd<|Yd hsec,AFq c ⟨pS,fS,sS⟩<|⟨_,rfl,trivial,BF.of<|c.h.sub _ _ hL,Kd<|Yd hnum,c.h.pt Ak pS,Aa,CF _ _ _,_,_,_,kx x,rfl,rfl,c.h.pn Ak pS,AA2,?_⟩⟩
   rw[xU]
   have hu:Ht.cut (lE (Ht.axis x<|(m1.zone 1).was<|s'+(f+1+j)%n) (Ht.axis x<|(m1.zone 1).was<|s'+f) (Ht.axis x<|(m1.zone 1).at_<|s'+f) (Ht.axis x<|(m1.zone 1).was<|s'+(f+d)%n)<|Ht.axis x<|(m1.zone 1).at_<|s'+(f+d)%n)=Ht.led m0.zone1 x (cs s' n) ((f+1+j)%n):=by
    rw[yf hf hdn jd tf ts un,ls.was,ls.was,ls.was,ls.tat hf tf,ls.tat hsec ts]
    rfl
   have c2:=c.go same_refl (c.h.pz Ak pS (n:=Ht.withAxis x ((m1.zone 1).at_<|s'+(f+1+j)%n)<|Ht.cut<|lE (Ht.axis x<|(m1.zone 1).was<|s'+(f+1+j)%n) (Ht.axis x<|(m1.zone 1).was<|s'+f) (Ht.axis x<|(m1.zone 1).at_<|s'+f) (Ht.axis x<|(m1.zone 1).was<|s'+(f+d)%n)<|Ht.axis x<|(m1.zone 1).at_<|s'+(f+d)%n)<|ni (Ln c.h.good Ak pS)<|Du _) Fg EY
   refine⟨.inl<|BF.of<|c2.h.sub _ _ hL,ln,?_⟩
   have en:(AD ((f+1+j)%n)+1)%((PL z.g s' n).length:Int)=AD ((f+1+(j+1))%n):=by
    rw[wH,show f+1+(j+1)=f+1+j+1 by lia,bc]
   refine⟨⟨j+1,_,by lia,?_,(ls.step hnum hs hu).more (fun i q=>?_) fun i _ q1 q2=>?_,c2⟩,?_⟩
   ·show [some<|V.ref L,_,_,_,some<|V.int<|(AD ((f+1+j)%n)+1)%((PL z.g s' n).length:Int)]=_
    rw[en]
   ·rcases q with(q |⟨e,a1,a2,a3⟩) | q
    ·exact .inl q
    ·exact .inr ⟨e,a1,by lia,a3⟩
    ·exact .inr ⟨1+j,by lia,by lia,by rw[q];congr 1;lia⟩
   ·rcases q1 with q |⟨e,a1,a2,a3⟩
    ·exact absurd (.inl<|.inl q) q2
    ·rcases Dd e (1+j)with w | w
     ·exact absurd (.inl<|.inr ⟨e,a1,w,a3⟩) q2
     ·have:e=1+j:=by lia
      exact absurd (.inr<|by rw[a3,this];congr 1;lia) q2
   ·show((f+d)%n+n-AA7 [some<|V.ref L,some<|V.int<|AD f,some<|V.int<|AD<|(f+d)%n,some<|V.int<|AD<|kx x,some<|V.int<|(AD ((f+1+j)%n)+1)%((PL z.g s' n).length:Int)])%n<((f+d)%n+n- (f+1+j)%n)%n
    rw[en]
    show((f+d)%n+n- (f+1+(j+1))%n)%n<((f+d)%n+n- (f+1+j)%n)%n
    rw[AAq hf (by lia) hdn,AAq hf (by lia) hdn]
    lia
  ·have jd:1+j=d:=z6 hf (by lia) hdn (by rw[<-(eqN e)];congr 1;lia)
   refine k m1 H1 (ls.more (fun i q=>?_) fun i _ q1 q2=>?_) c
   ·rcases q with q |⟨e,a1,a2,a3⟩
    ·exact .inl q
    ·exact .inr ⟨e,a1,by lia,a3⟩
   ·rcases q1 with q |⟨e,a1,a2,a3⟩
    ·exact absurd (.inl q) q2
    ·exact absurd (.inr ⟨e,a1,by lia,a3⟩) q2
end GF
end
section
namespace GF
open PySem PySem.Spec PyProof.Rows L2
section
noncomputable def Tl(z:Ht.Zone)(x:Bool)(s n:Nat):List Nat:=(BM n).filter fun i=>Tc z x (s+i)
variable{z:Ht.Zone}{x:Bool}{s n:Nat}
def uh:i∈Tl z x s n↔i<n/\Tc z x (s+i)=true:=by
 unfold Tl
 rw[V4,O_]
def lg:Tl z x s (n+1)=if Tc z x (s+n)=true then Tl z x s n++ [n]else Tl z x s n:=by
 unfold Tl
 rw[Ha,List.filter_append]
 by_cases q:Tc z x (s+n)=true
 ·rw[AI q];simp[q]
 ·rw[AG q];simp[q]
def ACW:(Tl z x s n).length<=n:=by
 unfold Tl
 exact CC (List.length_filter_le _ _)<|by rw[CO];exact BS _
def rh:(Tl z x s n).Pairwise (· < ·):=yd _ List.pairwise_lt_range
def YL(h:i<j)(hj:j<(Tl z x s n).length):(Tl z x s n).getD i 0<(Tl z x s n).getD j 0:=by
 rw[Cc,Cc,CS hj,CS<|by lia]
 exact(List.pairwise_iff_getElem.mp (rh) i j (by lia) hj h)
def MC(hj:j<(Tl z x s n).length):(Tl z x s n).getD j 0<n/\Tc z x (s+(Tl z x s n).getD j 0)=true:=by
 have:(Tl z x s n).getD j 0∈Tl z x s n:=by
  rw[Cc,CS hj]
  exact V1 hj
 exact uh.mp this
def Wh(h:i<n)(t:Tc z x (s+i)=true): ∃ j,j<(Tl z x s n).length/\(Tl z x s n).getD j 0=i:=by
 obtain⟨j,hj,e⟩:=List.getElem_of_mem<|uh.mpr ⟨h,t⟩
 refine⟨j,hj,?_⟩
 rw[Cc,CS hj]
 exact e
noncomputable def gap(T:List Nat)(n j:Nat):Nat:=if j+1<T.length then T.getD (j+1) 0-T.getD j 0 else T.getD 0 0+n-T.getD j 0
def ACj(hk:1<(Tl z x s n).length)(hj:j<(Tl z x s n).length):0<gap (Tl z x s n) n j/\gap (Tl z x s n) n j<n/\((Tl z x s n).getD j 0+gap (Tl z x s n) n j)%n=(Tl z x s n).getD ((j+1)%(Tl z x s n).length) 0/\
  ∀ e,0<e->e<gap (Tl z x s n) n j->Tc z x (s+((Tl z x s n).getD j 0+e)%n)=false:=by
 have gj:=MC hj
 unfold gap
 by_cases q:j+1<(Tl z x s n).length
 ·rw[AI q]
  have lt:=YL (show j<j+1 by lia) q
  have g1:=MC q
  refine⟨by lia,by lia,?_,fun e h1 h2=>?_⟩
  ·rw[Bu<|q,Bu<|by lia]
   lia
  ·rw[Bu<|by lia]
   cases w:Tc z x (s+((Tl z x s n).getD j 0+e))with
   | false=>rfl
   | true=>
    obtain⟨p,hp,ep⟩:=Wh (show(Tl z x s n).getD j 0+e<n by lia) w
    rcases Dd p (j+1)with r | r
    ·rcases Dd p j with r2 | r2
     ·have:=YL r2 hj;lia
     ·have:p=j:=by lia
      subst this;lia
    ·rcases Dd (j+1) p with r2 | r2
     ·have:=YL r2 hp;lia
     ·have:p=j+1:=by lia
      subst this;lia
 ·rw[AG q]
  have hj':j=(Tl z x s n).length-1:=by lia
  have lt:=YL (z:=z) (x:=x) (s:=s) (n:=n) (show 0<j by lia) hj
  have g0:=MC (z:=z) (x:=x) (s:=s) (n:=n) (j:=0)<|by lia
  refine⟨by lia,by lia,?_,fun e h1 h2=>?_⟩
  ·rw[show j+1=(Tl z x s n).length by lia,Nat.mod_self,show(Tl z x s n).getD j 0+((Tl z x s n).getD 0 0+n- (Tl z x s n).getD j 0)=(Tl z x s n).getD 0 0+n by lia,Pa,Bu g0.1]
  ·cases w:Tc z x (s+((Tl z x s n).getD j 0+e)%n)with
   | false=>rfl
   | true=>
    obtain⟨p,hp,ep⟩:=Wh (FD _<|by lia) w
    rcases Dd ((Tl z x s n).getD j 0+e) n with r | r
    ·rw[Bu r]at ep
     rcases Dd p j with r2 | r2
     ·have:=YL r2 hj;lia
     ·have:p=j:=by lia
      subst this;lia
    ·rw[E7 r,Bu<|by lia]at ep
     rcases Nat.eq_zero_or_pos p with r2 | r2
     ·subst r2;lia
     ·have:=YL r2 hp;lia
theorem ivt{Pr:Nat->Prop}(dec: ∀ i,Pr i\/ ¬ Pr i): ∀ k,Pr 0-> ¬ Pr k-> ∃ j,j<k/\Pr j/\ ¬ Pr (j+1)
 | 0,h0,hk=>absurd h0 hk
 | k+1,h0,hk=>by
  rcases dec k with p | p
  ·exact⟨k,O1 _,p,hk⟩
  ·obtain⟨j,h1,h2,h3⟩:=ivt dec k h0 p
   exact⟨j,by lia,h2,h3⟩
def AAD(hk:1<(Tl z x s n).length)(hi:i<n)(u:Tc z x (s+i)=false): ∃ j,j<(Tl z x s n).length/\ ∃ e,0<e/\e<gap (Tl z x s n) n j/\i=((Tl z x s n).getD j 0+e)%n:=by
 have ne: ∀ j,j<(Tl z x s n).length->(Tl z x s n).getD j 0≠i:=fun j hj q=>by
  have:=(MC hj).2
  rw[q,u]at this;cases this
 have g0:=MC (z:=z) (x:=x) (s:=s) (n:=n) (j:=0)<|by lia
 have gl:=MC (z:=z) (x:=x) (s:=s) (n:=n) (j:=(Tl z x s n).length-1)<|by lia
 have l0:=YL (z:=z) (x:=x) (s:=s) (n:=n) (i:=0) (j:=(Tl z x s n).length-1) (by lia)<|by lia
 by_cases a:(Tl z x s n).getD 0 0<i
 ·by_cases b:(Tl z x s n).getD ((Tl z x s n).length-1) 0<i
  ·refine⟨(Tl z x s n).length-1,by lia,i- (Tl z x s n).getD ((Tl z x s n).length-1) 0,by lia,?_,?_⟩
   ·unfold gap;rw[AG<|by lia];lia
   ·rw[Bu<|by lia];lia
  ·obtain⟨j,h1,h2,h3⟩:=ivt (Pr:=fun j=>(Tl z x s n).getD j 0<i) (fun j=>Dd _ _ |>.imp id Nat.not_lt.mpr) ((Tl z x s n).length-1) a b
   have h4:=ne (j+1)<|by lia
   refine⟨j,by lia,i- (Tl z x s n).getD j 0,by lia,?_,?_⟩
   ·unfold gap;rw[AI<|by lia];lia
   ·rw[Bu<|by lia];lia
 ·have h4:=ne 0 (by lia)
  refine⟨(Tl z x s n).length-1,by lia,i+n- (Tl z x s n).getD ((Tl z x s n).length-1) 0,by lia,?_,?_⟩
  ·unfold gap;rw[AG<|by lia];lia
  ·rw[show(Tl z x s n).getD ((Tl z x s n).length-1) 0+(i+n- (Tl z x s n).getD ((Tl z x s n).length-1) 0)=i+n by lia,Pa,Bu hi]
end
end GF
end
section
namespace GF
open PySem PySem.Spec PyProof.Rows L2
variable{P:BH}{w:Ap}{K:AS}{mg:Str->Option AN}{base:Ay}{A:B4}[T:Txt K mg A]
def zO{gg:TG}{tt:TT}{te:TE}{Qd:Hp->Prop}(Pv:Nat->Hp->Prop)(h0:Pv 0 (upd H1 D<|.lst []))(hl: ∀ i H,i<=xs.length->Pv i H->BF K H a xs)
  (hs: ∀ i x H t,xs[i]?=some x->H t=none->Pv i H->gg (.ref t) (wipe σ vs) (upd H t<|.tup [.int (i:Nat),x]) fun σ2 H2=>wipe σ2 vs=wipe σ vs/\tt σ2 H2 fun b H3=>
   if b=true then te σ2 H3 fun y H4=> ∃ acc,H4 D=some (.lst acc)/\acc.length<sizeLine/\Pv (i+1) (upd H4 D<|.lst<|acc++ [y])else Pv (i+1) H3) (hd: ∀ H,Pv xs.length H->Qd H):
  ∃ W:Nat->Nat->Hp->Prop,(∃ m,W 0 m<|upd H1 D<|.lst [])/\ ∀ i m H,W i m H->
   ((Ite K a).stop i H/\Qd H)\/((Ite K a).go i H/\ ∃ Nx:Hp->Prop,(∀ H',Nx H'-> ∃ m',m'<m/\W (i+1) m' H')/\ ∀ x H',(Ite K a).uC i H x H'->gg x (wipe σ vs) H' fun σ2 H2=>wipe σ2 vs=wipe σ vs/\tt σ2 H2 fun b H3=>
    if b=true then te σ2 H3 fun y H4=> ∃ acc,H4 D=some (.lst acc)/\acc.length<sizeLine/\Nx (upd H4 D<|.lst<|acc++ [y])else Nx H3):=by
 refine⟨fun i m H=>m=xs.length-i/\i<=xs.length/\Pv i H,⟨xs.length,by simp,B7 _,h0⟩,?_⟩
 rintro i m H ⟨rfl,hi,p⟩
 have q:=hl i H hi p
 by_cases hlt:i<xs.length
 ·refine .inr ⟨⟨xs,xs[i],q,by simp[hlt]⟩,Pv<|i+1,fun H' p'=>⟨xs.length- (i+1),by lia,rfl,hlt,p'⟩,fun x H' y=>?_⟩
  obtain⟨t,x',rfl,ht,rfl,y⟩:=y
  exact hs i x' H t (y xs q) ht p
 ·have e:i=xs.length:=by lia
  subst e
  exact .inl ⟨⟨xs,q,BS _⟩,hd H p⟩
def RL.new(h:RL K A W g v m H l o)(f:H k=none):RL K A W g v m (upd H k o') l o:=by
 exact⟨h.r.new f,by rw[AQ<|Ac h.at_ f];exact h.at_,h.w,h.ne⟩
def AC0(h:k<8):(!decide (V.int (Dg (AD k)<|AD<|tb x)=V.int 0))=Ht.has k (tb x):=by
 have:=xg<|by assumption
 cases x<;>rcases this with rfl | rfl | rfl | rfl | rfl | rfl | rfl | rfl<;>decide+kernel
inductive ABG(K:AS)(A:B4)(vs:List V)(H:Hp)(Q:VK)(E:XK):Prop
 | mk: ∀ z W v m0 r E' L s n x,vs= [.ref L,.int (AD (kx x))]->BX K A E' z W v m0 H r->W L=some (.lst (PL z.g s n))->s+n<=(m0.zone 1).size->(∀ W' H',Bc W W'->BX K A E' z W' v {m0 with zone1:=Ht.ledContour x m0.zone1 (cs s n)} H' r->Q .non H')->ABG K A vs H Q E
section
variable{W:Hp}{v:Var}{m0 m:Ht.M}{H:Hp}{Q:VK}{E E':XK}{z:Fx}{r:Ht.R Ht.M}{L:AK}{s n t f d:Nat}{x:Bool}{D:Nat->Prop}
def AFU(c:BX K A E z W v m0 H r)(hL:W L=some (.lst<|PL z.g s n))(hs:s+n<=(m0.zone 1).size)(ht:t<n)(tt:Tc m0.zone1 x (s+t)=true)(un: ∀ e,e<n->e≠t->Tc m0.zone1 x (s+e)=false)(k: ∀ m' H',LS m0 m' x s n (fun _=>True)->BX K A E z W v m' H' r->Q .non H'):ACV K A [.ref L,.int<|AD t,.int<|AD<|kx x] H Q E':=⟨z,W,v,m0,r,E,L,s,n,t,x,rfl,c,hL,hs,ht,tt,un,k⟩
def AFz(ls:LS m0 m x s n D)(c:BX K A E z W v m H r)(hL:W L=some (.lst<|PL z.g s n))(hs:s+n<=(m0.zone 1).size)(h3:f<n/\0<d/\d<n)(tf:Tc m0.zone1 x (s+f)=true)(ts:Tc m0.zone1 x (s+(f+d)%n)=true)(un: ∀ e,0<e->e<d->Tc m0.zone1 x (s+(f+e)%n)=false)
  (k: ∀ m' H',LS m0 m' x s n (fun i=>D i\/ ∃ e,0<e/\e<d/\i=(f+e)%n)->BX K A E z W v m' H' r->Q .non H'):ACU K A [.ref L,.int<|AD f,.int<|AD<|(f+d)%n,.int<|AD<|kx x] H Q E':=⟨z,W,v,m0,m,r,E,L,s,n,f,d,x,D,rfl,ls,c,hL,hs,h3,tf,ts,un,k⟩
end
def zj{x:Bool}{σ:L2.St}{H:Hp}{Q:VK}(h:tC (.int<|AD<|tb x) σ H Q):if decide (V.int (AD<|kx x)=V.int 0)=true then tC (.int 2) σ H Q else tC (.int 4) σ H Q:=by cases x<;>exact h
def Vj :O0 P w base 4 99 ["points","axis"] (ABG K A):=by
 refine T.Sr.F.DL ["points","axis","mark","touched","place","first","number","point"] @fun _ _ _ s H vs Q E hr h=>?_
 obtain⟨z,W,v,m0,r,E',L,s',n,x,rfl,c,hL,hs,k⟩:=h
 refine⟨_,(AB (lH (i:=2) (show Iu (["points","axis","mark","touched","place","first","number","point"]:List Str) by decide+kernel) rfl (DD rfl)<|Bm (A0 BD AV AE) (Bt T.k.Nq)<|Bt T.k.Nl)<|AB (XU (i:=3) (own:= [("number",6),("point",7)]) rfl (show Iu (["points","axis","mark","touched","place","first","number","point"]:List Str) by decide+kernel) rfl rfl (fz rfl rfl rfl<|by decide+kernel) (SD rfl T.k.Hl<|Af AH) (show NY ["points","axis","mark","touched","place","first","number","point"] (BZ<|top 122) _ _ from K4<|by decide+kernel) (fun _ _ _ _ _=>(show PG _ _ (AEN K 2 _)from RH rfl<|Dk (Fe 6)<|Dk (Fe 7) MX)) (fun _ _ _ _ _=>(y3<|A0 Ep (AU Tf (show PE _ _ (vE K _ _)from dU (pv 7) rfl) Aj) AE)) fun _ _ _ _ _=>(pv 6))<|AB (Aq (A0 BD (Dc T.k.CD<|Af A6) AE) (AF<|Ad<|Ah Yw T.Uu<|CH AH (A9 Ab A6 AE) AV) AX)<|AF<|Aq (A0 DE (Dc T.k.CD<|Af A6) AE) (AF<|EM Ir rfl (SD rfl T.k.Hl<|Af A6) (RH rfl<|Dk (Fe 4)<|Dk (Fe 5) MX)<|AF<|Ad<|Ah Y0 T.VF<|RQ AH ET (A9 Ab A6<|AU Dz (AU BJ CG AE)<|Dc T.k.CD<|Af A6) AV) AX),?_⟩
 refine⟨rfl,zj ⟨_,_,rfl,BF.of<|c.h.sub _ _ hL,fun D hD=>?_⟩⟩
 refine zO (K:=K) (a:=L) (xs:=PL z.g s' n) (fun i H'=>RL K A W z.g v m0 H' D<|.lst<|eV<|Tl m0.zone1 x s' i) (RL.lG c.h hD) ?_ ?_ ?_
 ·intro i H1 _ hR
  exact BF.of<|hR.r.sub _ _ hL
 ·intro i y H1 t hy ht hR
  obtain⟨hi,rfl⟩:=vj hy
  have hR2:=hR.new (o':= .tup [.int (i:Nat),.ref<|z.g.pp 1<|s'+i]) ht
  have hiS:s'+i<(m0.zone 1).size:=by lia
  have mk8:=KO hR2.r.good Ak hiS
  refine⟨_,_,rfl,Dh.of AJ,rfl,_,_,rfl,_,_,rfl,rfl,rfl,hR2.r.pt Ak hiS,Aa,K_ _ _ _,rfl,?_⟩
  have be:=AC0 (x:=x) mk8
  refine A7 (fun w=>?_) fun w=>?_
  ·have q:Tc m0.zone1 x (s'+i)=true:=be.symm.trans w
   refine⟨_,hR2.at_,?_,?_⟩
   ·unfold eV;rw[A8]
    have l1:=ACW (z:=m0.zone1) (x:=x) (s:=s') (n:=i)
    have l2:(m0.zone 1).size<=64:=c.h.good.zone1.ZA
    exact Er (show _<=64 by lia)<|by decide
   ·rw[lg,AI q]
    show RL K A W z.g v m0 _ D (.lst<|List.map _<|_++ [i])
    rw[FF]
    exact hR2.ACh
  ·have q: ¬ Tc m0.zone1 x (s'+i)=true:=fun q=>w (be.trans q)
   rw[lg,AG q]
   exact hR2
 intro H1 hR
 rw[Uc]at hR
 obtain⟨T,hT⟩: ∃ T,T=Tl m0.zone1 x s' n:=⟨_,rfl⟩
 have sW:Bc W (upd W D<|.lst<|eV T):=Bd hR.w
 have c1:=c.go sW<|by rw[hT];exact hR.lB
 have hL1:=sW _ _ hL
 have hTL: ∀{H2:Hp} {m2:Ht.M},R K A (upd W D<|.lst<|eV T) z.g v m2 H2->BF K H2 D (eV T):=fun h=>BF.of<|h.sub _ _ AJ
 have lenT:((eV T).length:Int)=AD T.length:=wz
 refine⟨.inl<|hTL c1.h,rfl,?_⟩
 rw[lenT]
 refine A7 (fun e=>?_) fun e=>?_
 ·have e1:=B6 (V.int.inj<|An e)
  have g0:=MC (z:=m0.zone1) (x:=x) (s:=s') (n:=n) (j:=0)<|by rw[<-hT,e1];decide
  rw[<-hT]at g0
  refine⟨hTL c1.h,n9<|by rw[e1];decide,AFU c1 hL1 hs g0.1 g0.2 (fun e' he' ne=>?_) fun m' H2 ls c2=>?_⟩
  ·cases w:Tc m0.zone1 x (s'+e')with
   | false=>rfl
   | true=>
    obtain⟨p,hp,ep⟩:=Wh he' w
    rw[<-hT]at hp ep
    have:p=0:=by lia
    subst this
    exact absurd ep.symm ne
  ·refine⟨.inl<|hTL c2.h,?_⟩
   show if decide ((1:Int)<((eV T).length:Int))=true then _ else _
   rw[lenT,e1]
   refine A7 (fun e=>absurd (An e)<|by decide) fun e=>?_
   have ef:=ls.fin hs fun _ _=>trivial
   subst ef
   exact k _ H2 sW c2
 have n1: ¬ T.length=1:=fun q=>e<|Av<|by rw[q];rfl
 refine⟨.inl<|hTL c1.h,?_⟩
 rw[lenT]
 refine A7 (fun e=>?_) fun e=>?_
 ·have hk:=BQ.mp (An e)
  have hk':1<(Tl m0.zone1 x s' n).length:=by rw[<-hT];exact hk
  refine⟨_,_,rfl,hTL c1.h,?_⟩
  refine Np (a:=D) (xs:=eV T) (fun j σ H'=> ∃ m o1 o2 o3,σ= [some<|.ref L,some<|.int<|AD<|kx x,o3,some<|.ref D,o1,o2,none,none]/\LS m0 m x s' n (fun i=> ∃ q,q<j/\ ∃ e,0<e/\e<gap T n q/\i=(T.getD q 0+e)%n)/\BX K A E' z (upd W D<|.lst<|eV T) v m H' r) ⟨m0,none,none,_,rfl,LS.refl.more (fun _ q=>q.elim) fun i _ q _=>by obtain⟨q,hq,_⟩:=q;lia,c1⟩ ?_ ?_ ?_
  ·rintro j σ H2 hj ⟨m,o1,o2,o3,rfl,ls,c⟩
   exact hTL c.h
  ·rintro j y σ H2 tp hy htp ⟨m,o1,o2,o3,rfl,ls,c⟩
   have hj:j<T.length:=by
    rcases Dd j T.length with q | q
    ·exact q
    ·rw[EG<|by unfold eV;rw[A8];exact q]at hy;cases hy
   have hy2:y= .int (AD<|T.getD j 0):=by
    unfold eV at hy
    rw[CY,CS hj]at hy
    rw[Cc,CS hj]
    exact(C_ hy).symm
   subst hy2
   replace c:=c.new (o:= .tup [.int (j:Nat),.int<|AD<|T.getD j 0]) htp
   obtain⟨g1,g2,g3,g4⟩:=ACj hk'<|by rw[<-hT];exact hj
   have gj:=MC<|by rw[<-hT];exact hj
   have hm:(j+1)%T.length<T.length:=FD _<|by lia
   have gs:=MC (s:=s') (n:=n) (j:=(j+1)%T.length)<|by rw[<-hT];exact hm
   rw[<-hT]at g1 g2 g3 g4 gj gs
   refine⟨_,_,rfl,Dh.of AJ,rfl,_,_,rfl,_,_,rfl,rfl,?_⟩
   have ixe:((j:Int)+1)%((eV T).length:Int)=AD ((j+1)%T.length):=by rw[lenT];rfl
   have atx:Wz (eV T) (((j:Int)+1)%((eV T).length:Int))=some (.int<|AD<|(T.getD j 0+gap T n j)%n):=by rw[ixe,n9 hm,g3]
   refine⟨.inl<|hTL c.h,(by rw[lenT];exact BQ.mpr<|show 0<T.length by lia),hTL c.h,atx,AFz (x:=x) ls c hL1 hs ⟨gj.1,g1,g2⟩ gj.2 (by rw[g3];exact gs.2) g4 fun m' H3 ls2 c2=>?_⟩
   refine⟨m',_,_,_,rfl,ls2.more (fun i q=>?_) fun i _ q1 q2=>?_,c2⟩
   ·rcases q with⟨q,hq,e',w⟩ |⟨e',w⟩
    ·exact⟨q,by lia,e',w⟩
    ·exact⟨j,by lia,e',w⟩
   ·obtain⟨q,hq,e',w⟩:=q1
    rcases Dd q j with r1 | r1
    ·exact absurd (.inl ⟨q,r1,e',w⟩) q2
    ·have:q=j:=by lia
     subst this
     exact absurd (.inr ⟨e',w⟩) q2
  ·rintro σ H2 ⟨m,o1,o2,o3,rfl,ls,c⟩
   rw[show(eV T).length=T.length by unfold eV;rw[A8]]at ls
   have lsA:LS m0 m x s' n (fun _=>True):=ls.more (fun _ _=>trivial) (fun i hi _ nq=>by
    cases w:Tc m0.zone1 x (s'+i)with
    | true=>exact .inl rfl
    | false=>
     obtain⟨j,hj,e',w'⟩:=AAD hk' hi w
     rw[<-hT]at hj w'
     exact absurd ⟨j,hj,e',w'⟩ nq)
   have ef:=lsA.fin hs fun _ _=>trivial
   subst ef
   exact k _ H2 sW c
 ·have hk: ¬ 1<T.length:=fun q=>e (Av<|BQ.mpr q)
  have un: ∀ e',e'<n->Tc m0.zone1 x (s'+e')=false:=fun e' he'=>by
   cases w:Tc m0.zone1 x (s'+e')with
   | false=>rfl
   | true=>
    obtain⟨p,hp,ep⟩:=Wh he' w
    rw[<-hT]at hp
    lia
  have lsA:LS m0 m0 x s' n (fun _=>True):=LS.refl.more (fun _ _=>trivial) fun i hi _ _=> .inr<|vT hi un
  have ef:=lsA.fin hs fun _ _=>trivial
  rw[ef]at c1
  exact k _ H1 sW c1
def vZ(hb:b<N)(ha:a<=b+1):bW ((BM N).map fun i=>V.ref<|g.pp 1 i) (some<|AD a) (some<|AD b+1)=PL g a (b+1-a):=by
 unfold bW
 rw[A8,CO]
 have e1:HT.gE N 0 (some<|AD a)=a:=(HT.Wx N 0 a).trans<|WV<|by lia
 have e2:HT.gE N N (some<|AD b+1)=b+1:=(HT.Wx N N<|b+1).trans<|WV<|by lia
 rw[e1,e2]
 apply Oc
 intro i
 by_cases q:i<b+1-a
 ·rw[Yd q,rK,AI q,V7,CY,Gr<|by lia]
  rfl
 ·rw[EG<|by rw[HP,Gs,A8,CO];lia,EG<|by rw[Uc];lia]
noncomputable def Gk(x:Bool)(m:Ht.M)(k:Nat):Ht.M:={m with zone1:=(BM k).foldl (fun y c=>Ht.ledContour x y<|Ht.contour m.ends c) m.zone1}
def Y3:Gk x m (k+1)={Gk x m k with zone1:=Ht.ledContour x (Gk x m k).zone1<|cs (cst m.ends k)<|m.ends.getD k 0+1-cst m.ends k}:=by
 unfold Gk
 rw[Ha,Vs]
 rfl
noncomputable def xB(g:B2):Bool:=!decide (g.byte=48)
noncomputable def GA(g:B2)(m:Ht.M):Ht.R Ht.M:= .ok {m with zone1:=Ht.ledAlong (xB g) m.ends m.zone1}
def AEj(c:BX K A E z W v m0 H r)(hL:W L=some (.lst<|PL z.g s n))(hs:s+n<=(m0.zone 1).size)
  (k: ∀ W' H',Bc W W'->BX K A E z W' v {m0 with zone1:=Ht.ledContour x m0.zone1<|cs s n} H' r->Q .non H'):ABG K A [.ref L,.int<|AD<|kx x] H Q E':=⟨z,W,v,m0,r,E,L,s,n,x,rfl,c,hL,hs,k⟩
theorem kY: ∀{l:List Nat} {j:Nat},N9 n l->j<l.length->cst l j<=l.getD j 0
 | l,0,_,_=>B7 _
 | [],j+1,_,h=>absurd h<|HM _
 | [a],j+1,_,h=>absurd (show j+1<1 from h)<|by lia
 | a::b::l,0+1,h,q=>h.1
 | a::b::l,(j+1)+1,h,q=>kY (l:=b::l) (j:=j+1) h.2<|p7 q
def QF :OB P w base 5 100 GA (fun b=>b=48\/b=49):=by
 refine T.QV.F.ko ["run","axis","ends","contour","end"] fun H Q E W g v m hr hb c=>⟨_,(AB (AO 1<|Bm (A0 BD (AR AH) AE) AE AE)<|AB (AO 2<|AR<|AR AH)<|AF<|EM Ir rfl (SD rfl T.k.Hl<|Af Aj) (RH rfl<|Dk (Fe 3)<|Dk (Fe 4) MX)<|AF<|Ad<|Ah Vj T.Sr<|Ax (jT qV (AR<|AR AH) (Wf<|Ah Ks T.Ki<|Ax Aj A6)<|Wf<|AU BJ CG AE) AV),?_⟩
 rcases hb with hb | hb
 ·have xe:xB g=false:=by unfold xB;rw[hb];rfl
  refine⟨c.rn,AL,BL,rfl,A7 (fun _=>?_) fun q=>absurd (by rw[hb];rfl) q⟩
  refine⟨c.rn,AL,A_,c.h.gr,AW,dN,?_⟩
  have c0:BX K A E ⟨W,g,m.steps,m.inFont,Q⟩ W v (Gk false m 0) H (.ok<|Gk false m m.ends.length):=by
   have q:=c
   unfold GA at q
   rw[xe]at q
   exact q
  refine⟨_,_,rfl,BF.of c.h.Uw,?_⟩
  refine Np (a:=g.ends) (xs:=eV m.ends) (fun j σ H'=> ∃ W' o1 o2,σ= [some<|.ref g.run,some<|.int<|AD<|kx false,some<|.ref g.ends,o1,o2]/\BX K A E ⟨W,g,m.steps,m.inFont,Q⟩ W' v (Gk false m j) H' (.ok<|Gk false m m.ends.length)) ⟨W,none,none,rfl,c0⟩ ?_ ?_ ?_
  ·rintro j σ H1 hj ⟨W1,o1,o2,rfl,c⟩
   exact BF.of c.h.Uw
  ·rintro j y σ H1 tp hy htp ⟨W1,o1,o2,rfl,c⟩
   have hj:j<m.ends.length:=by
    rcases Dd j m.ends.length with q | q
    ·exact q
    ·rw[EG<|by unfold eV;rw[A8];exact q]at hy;cases hy
   have hy2:y= .int (AD<|m.ends.getD j 0):=by
    unfold eV at hy
    rw[CY,CS hj]at hy
    rw[Cc,CS hj]
    exact(C_ hy).symm
   subst hy2
   replace c:=c.new (o:= .tup [.int (j:Nat),.int<|AD<|m.ends.getD j 0]) htp
   have hx:m.ends.getD j 0<((Gk false m j).zone 1).size:=PR c.h.good.Kv hj
   have hc:cst m.ends j<=m.ends.getD j 0:=kY c.h.good.Kv hj
   refine⟨_,_,rfl,Dh.of AJ,rfl,_,_,rfl,_,_,rfl,rfl,?_⟩
   refine⟨c.rn,AL,A_,c.h.gr,AW,HA,_,_,j,rfl,BF.of c.h.Uw,HU hj,_,rfl,_,rfl,_,_,rfl,BF.of<|c.h.zl Ak,fun p hp=>?_⟩
   show J9 (Jh 1) Ua _ (upd _ p<|.lst<|bW ((BM ((Gk false m j).zone 1).size).map fun i=>V.ref<|g.pp 1 i) (some<|AD<|cst m.ends j)<|some<|AD (m.ends.getD j 0)+1) _
   rw[vZ hx<|by lia]
   have c1:=c.M_ (o:= .lst<|PL g (cst m.ends j)<|m.ends.getD j 0+1-cst m.ends j) hp
   refine AEj c1 AJ (by show cst m.ends j+(m.ends.getD j 0+1-cst m.ends j)<=((Gk false m j).zone 1).size;lia) fun W2 H2 s2 c2=>⟨W2,_,_,rfl,?_⟩
   rw[Y3]
   exact c2
  ·rintro σ H1 ⟨W1,o1,o2,rfl,c⟩
   rw[show(eV m.ends).length=m.ends.length by unfold eV;rw[A8]]at c
   exact c.done
 ·have xe:xB g=true:=by unfold xB;rw[hb];rfl
  refine⟨c.rn,AL,BL,rfl,A7 (fun q=>absurd (q)<|by rw[hb];decide) fun _=>⟨c.rn,AL,A_,c.h.gr,AW,dN,?_⟩⟩
  have c0:BX K A E ⟨W,g,m.steps,m.inFont,Q⟩ W v (Gk true m 0) H (.ok<|Gk true m m.ends.length):=by
   have q:=c
   unfold GA at q
   rw[xe]at q
   exact q
  refine⟨_,_,rfl,BF.of c.h.Uw,?_⟩
  refine Np (a:=g.ends) (xs:=eV m.ends) (fun j σ H'=> ∃ W' o1 o2,σ= [some<|.ref g.run,some<|.int<|AD<|kx true,some<|.ref g.ends,o1,o2]/\BX K A E ⟨W,g,m.steps,m.inFont,Q⟩ W' v (Gk true m j) H' (.ok<|Gk true m m.ends.length)) ⟨W,none,none,rfl,c0⟩ ?_ ?_ ?_
  ·rintro j σ H1 hj ⟨W1,o1,o2,rfl,c⟩
   exact BF.of c.h.Uw
  ·rintro j y σ H1 tp hy htp ⟨W1,o1,o2,rfl,c⟩
   have hj:j<m.ends.length:=by
    rcases Dd j m.ends.length with q | q
    ·exact q
    ·rw[EG<|by unfold eV;rw[A8];exact q]at hy;cases hy
   have hy2:y= .int (AD<|m.ends.getD j 0):=by
    unfold eV at hy
    rw[CY,CS hj]at hy
    rw[Cc,CS hj]
    exact(C_ hy).symm
   subst hy2
   replace c:=c.new (o:= .tup [.int (j:Nat),.int<|AD<|m.ends.getD j 0]) htp
   have hx:m.ends.getD j 0<((Gk true m j).zone 1).size:=PR c.h.good.Kv hj
   have hc:cst m.ends j<=m.ends.getD j 0:=kY c.h.good.Kv hj
   refine⟨_,_,rfl,Dh.of AJ,rfl,_,_,rfl,_,_,rfl,rfl,?_⟩
   refine⟨c.rn,AL,A_,c.h.gr,AW,HA,_,_,j,rfl,BF.of c.h.Uw,HU hj,_,rfl,_,rfl,_,_,rfl,BF.of<|c.h.zl Ak,fun p hp=>?_⟩
   show J9 (Jh 1) Ua _ (upd _ p<|.lst<|bW ((BM ((Gk true m j).zone 1).size).map fun i=>V.ref<|g.pp 1 i) (some<|AD<|cst m.ends j)<|some<|AD (m.ends.getD j 0)+1) _
   rw[vZ hx<|by lia]
   refine AEj (c.M_ (o:= .lst<|PL g (cst m.ends j)<|m.ends.getD j 0+1-cst m.ends j) hp) AJ (by show cst m.ends j+(m.ends.getD j 0+1-cst m.ends j)<=((Gk true m j).zone 1).size;lia) fun W2 H2 s2 c2=>⟨W2,_,_,rfl,?_⟩
   rw[Y3]
   exact c2
  ·rintro σ H1 ⟨W1,o1,o2,rfl,c⟩
   rw[show(eV m.ends).length=m.ends.length by unfold eV;rw[A8]]at c
   exact c.done
def P9(h:B_ g m)(hb:g.byte=b)(hq:b=48\/b=49):GA g m=A4 g m:=by
 rw[BE h hb (by rcases hq with rfl | rfl<;>decide) (by rcases hq with rfl | rfl<;>decide) (by rcases hq with rfl | rfl<;>decide) (by rcases hq with rfl | rfl<;>decide)]
 unfold GA xB
 rw[hb]
 rcases hq with rfl | rfl<;>rfl
noncomputable def U(K:AS)(A:B4)(b:Nat):Sp:=fun vs H Q E=> ∃ W g v m,vs= [.ref g.run]/\R K A W g v m H/\B_ g m/\g.byte=b/\(b=44->g.kind= .font)/\Out K A W g m.steps m.inFont (A4 g m) Q E
structure Uy(P:BH)(w:Ap)(K:AS)(mg:Str->Option AN)(base:Ay)(A:B4)(b:Nat):Prop where
 ex: ∃ i CX k,Ea A b= .ref (A.ad i)/\ES P w K mg base CX k (A.ad i) (A.fd i) ["run"] (U K A b)/\FT K (.ref (A.ad i))=true/\Binds K (A.fd i) ["run"] []/\(CX=cV\/CX=Xg P w (A.cl 0))/\k<=8
def mkU{st:Bi}(ev:Ea A b= .ref (A.ad i))(ok:ES P w K mg base CX k (A.ad i) (A.fd i) ["run"] (VC K A bs f))(d:Df K mg x st ["run"] (A.ad i) (A.fd i))(cx:CX=cV\/CX=Xg P w (A.cl 0))(hk:k<=8)
  (h: ∀ W g v m H,R K A W g v m H->B_ g m->g.byte=b->(b=44->g.kind= .font)->bs g.byte/\f g m=A4 g m):Uy P w K mg base A b:=
 ⟨i,CX,k,ev,ok.imp (fun vs H Q E q=>by
  obtain⟨W,g,v,m,rfl,h1,ha,hb,hf,o⟩:=q
  obtain⟨b1,e⟩:=h W g v m H h1 ha hb hf
  exact⟨W,g,v,m,rfl,h1,b1,(by rw[e];exact o)⟩),d.F.kp,d.b,cx,hk⟩
def Ts{st:Bi}(ok:ES P w K mg base CX k (A.ad i) (A.fd i) ["run"] (VC K A bs f))(d:Df K mg x st ["run"] (A.ad i) (A.fd i))
  (h: ∀ W g v m H,R K A W g v m H->B_ g m->g.byte=b->(b=44->g.kind= .font)->bs g.byte/\f g m=A4 g m)
  (ev:Ea A b= .ref (A.ad i):=by exact rfl) (cx:CX=cV\/CX=Xg P w (A.cl 0):=by first | exact .inl rfl | exact .inr rfl) (hk:k<=8:=by decide):Uy P w K mg base A b:=mkU ev ok d cx hk h
def Cr{st:Bi}(ok:ES P w K mg base CX k (A.ad i) (A.fd i) ["run"] (VC K A (fun _=>True) f))(d:Df K mg x st ["run"] (A.ad i) (A.fd i))(h: ∀{g m},B_ g m->g.byte=b->f g m=A4 g m)
  (ev:Ea A b= .ref (A.ad i):=by exact rfl) (cx:CX=cV\/CX=Xg P w (A.cl 0):=by first | exact .inl rfl | exact .inr rfl) (hk:k<=8:=by decide):Uy P w K mg base A b:=mkU ev ok d cx hk fun _ _ _ _ _ _ ha hb _=>⟨trivial,h ha hb⟩
def DH (ev:Ea A b= .ref (A.ad 76):=by exact rfl)(h1:192<=b:=by decide)(h2:b<=223:=by decide):Uy P w K mg base A b:=Ts P4 T.Gx (fun _ _ _ _ _ h ha hb hk=>⟨trivial,Pz ha hb h1 h2⟩) ev
def DG (ev:Ea A b= .ref (A.ad 79):=by exact rfl)(h1:224<=b:=by decide)(h2:b<=255:=by decide):Uy P w K mg base A b:=Ts Qt T.IK (fun _ _ _ _ _ h ha hb hk=>⟨trivial,RA ha ⟨h.good.z0,h.good.z1⟩ hb h1 h2⟩) ev
def S_ (ev:Ea A b= .ref (A.ad 107):=by exact rfl)(h1:b=64\/176<=b/\b<=183:=by decide):Uy P w K mg base A b:=⟨107,Xg P w<|A.cl 0,4,ev,(Zc).imp (fun vs H Q E q=>by
 obtain⟨W,g,v,m,rfl,h,ha,hb,hk,o⟩:=q
 exact⟨W,g,v,m,rfl,h,ha,(by rw[ZR ha h.good.st hb h1];exact o)⟩),T.MO.F.kp,T.MO.b,.inr rfl,by decide⟩
def TV (ev:Ea A b= .ref (A.ad 108):=by exact rfl)(h1:b=65\/184<=b/\b<=191:=by decide):Uy P w K mg base A b:=⟨108,Xg P w<|A.cl 0,4,ev,(Zt).imp (fun vs H Q E q=>by
 obtain⟨W,g,v,m,rfl,h,ha,hb,hk,o⟩:=q
 exact⟨W,g,v,m,rfl,h,⟨ha,by rw[hb];exact h1⟩,(by rw[Zf ha h.good.st hb h1];exact o)⟩),T.Mc.F.kp,T.Mc.b,.inr rfl,by decide⟩
def BR{p:α->Prop}{a:α}{l:List α}(h:p a)(k: ∀ b∈l,p b): ∀ b∈a::l,p b:=Bv.mpr ⟨h,k⟩
noncomputable def AEC:List Nat:= [0,1,2,3,4,5,6,7,8,9,10,11,12,13,14,15,16,17,18,19,20,21,22,23,24,25,26,27,28,29,30,31,32,33,34,35,36,37,38,39,41,42,43,44,45,46,47,48,49,50,51,52,53,54,55,56,57,58,59,60,61,62,63,64,65,66,67,68,69,70,71,72,73,74,75,76,77,78,80,81,82,83,84,85,86,87,88,89,90,91,92,93,94,95,96,97,98,99,100,101,102,103,104,105,106,107,108,109,110,111,112,113,114,115,116,117,118,119,120,121,122,124,125,126,127,128,129,130,133,134,135,136,138,139,140,141,142,176,177,178,179,180,181,182,183,184,185,186,187,188,189,190,191,192,193,194,195,196,197,198,199,200,201,202,203,204,205,206,207,208,209,210,211,212,213,214,215,216,217,218,219,220,221,222,223,224,225,226,227,228,229,230,231,232,233,234,235,236,237,238,239,240,241,242,243,244,245,246,247,248,249,250,251,252,253,254,255]
noncomputable def noL:List Nat:= [40,79,123,131,132,137,143,144,145,146,147,148,149,150,151,152,153,154,155,156,157,158,159,160,161,162,163,164,165,166,167,168,169,170,171,172,173,174,175]
def yy (TD:K1 P w K A): ∀ b∈AEC,Uy P w K mg base A b:=(BR (Cr Fm T.JM Zn)<|BR (Cr Fm T.JM Zk)<|BR (Cr Fm T.JM ZM)<|BR (Cr Fm T.JM ZX)<|BR (Cr Fm T.JM ZT)<|BR (Cr Fm T.JM ZZ)<|BR (Cr Ge T.Hv UA)<|BR (Cr Ge T.Hv T7)<|BR (Cr Ge T.Hv Tn)<|BR (Cr Ge T.Hv Te)<|BR (Cr Jq T.JZ OG)<|BR (Cr Jq T.JZ NT)<|BR (Cr Nm T.NU Sx)<|BR (Cr Nm T.NU SI)<|BR (Cr NR T.Jv LR)<|BR (Ts P1 T.Kt fun _ _ _ _ _ h ha hb hk=>⟨trivial,XO ha hb h.good⟩)<|BR (Ts G7 T.HZ fun _ _ _ _ _ h ha hb hk=>⟨(by rw[hb];decide),P8 ha hb⟩)<|BR (Ts G7 T.HZ fun _ _ _ _ _ h ha hb hk=>⟨(by rw[hb];decide),Pn ha hb⟩)<|BR (Ts G7 T.HZ fun _ _ _ _ _ h ha hb hk=>⟨(by rw[hb];decide),Pb ha hb⟩)<|BR (Ts JY T.Jz fun _ _ _ _ _ h ha hb hk=>⟨(by rw[hb];decide),SV ha hb⟩)<|BR (Ts JY T.Jz fun _ _ _ _ _ h ha hb hk=>⟨(by rw[hb];decide),TL ha hb⟩)<|BR (Ts JY T.Jz fun _ _ _ _ _ h ha hb hk=>⟨(by rw[hb];decide),TQ ha hb⟩)<|BR (Cr Po T.LO Ls)<|BR (Cr gN T.gO YZ)<|BR (Ts (Di TD) T.EB fun _ _ _ _ _ h ha hb hk=>⟨(by rw[hb];unfold Jk;decide),QT ha hb⟩)<|BR (Ts (Di TD) T.EB fun _ _ _ _ _ h ha hb hk=>⟨(by rw[hb];unfold Jk;decide),Qp ha hb⟩)<|BR (Cr fO T.ah VT)<|BR (Cr P2 T.K5 Ll)<|BR (Cr zx T.ADi kS)<|BR (Cr ZU T.YO UO)<|BR (Cr Pg T.Ky MV)<|BR (Cr cj T.Zv VO)<|BR (Cr dv T.bM VX)<|BR (Cr Rk T.drop j_)<|BR (Cr u7 T.empty iU)<|BR (Cr zA T.swap k9)<|BR (Cr ZY T.YJ Tv)<|BR (Cr QU T.Mi NB)<|BR (Cr Qg T.Mw M6)<|BR (Cr cq T.aE VQ)<|BR (Cr lD T.mq ZE)<|BR (Ts ZQ T.Xy fun _ _ _ _ _ h ha hb hk=>⟨trivial,T9 ha hb (fun _ q=>find_none h.good.Vk q) h.good.going⟩)<|BR (Ts cR T.bJ fun _ _ _ _ _ h ha hb hk=>⟨trivial,Vd ha hb (fun _ q=>find_none h.good.Vk q) h.good.going⟩)<|BR (Ts Z8 T.define fun _ _ _ _ _ h ha hb hk=>⟨trivial,bp ha hb<|hk rfl⟩)<|BR (Cr Vi T.Sn Qh)<|BR (Cr KP T.JD Nd)<|BR (Cr KP T.JD Nn)<|BR (Ts QF T.QV fun _ _ _ _ _ h ha hb hk=>⟨(by rw[hb];decide),P9 ha hb<|by decide⟩)<|BR (Ts QF T.QV fun _ _ _ _ _ h ha hb hk=>⟨(by rw[hb];decide),P9 ha hb<|by decide⟩)<|BR (Cr Mq T.Li fun ha hb=>Mt ha hb<|by decide)<|BR (Cr Mq T.Li fun ha hb=>Mt ha hb<|by decide)<|BR (Cr LD T.Ke fun ha hb=>Ku ha hb<|by decide)<|BR (Cr LD T.Ke fun ha hb=>Ku ha hb<|by decide)<|BR (Cr QI T.Qx fun ha hb=>QH ha hb<|by decide)<|BR (Cr QI T.Qx fun ha hb=>QH ha hb<|by decide)<|BR (Cr Q7 T.M0 ND)<|BR (Cr Q0 T.M3 j5)<|BR (Cr IQ T.Gz L_)<|BR (Cr IQ T.Gz Lx)<|BR (Ts LA T.Hs fun _ _ _ _ _ h ha hb hk=>⟨trivial,gk ha hb h.good.loop.1 ⟨h.good.z0,h.good.z1⟩⟩)<|BR (Ts (Di TD) T.EB fun _ _ _ _ _ h ha hb hk=>⟨(by rw[hb];unfold Jk;decide),RG ha hb⟩)<|BR (Cr JF T.IB NF)<|BR (Cr JF T.IB NA)<|BR S_<|BR TV<|BR (Cr Zj T.Y7 UK)<|BR (Cr dZ T.bK VY)<|BR (Cr K7 T.Kh Pt)<|BR (Cr VU T.R0 RE)<|BR (Cr JT T.IL M5)<|BR (Cr JT T.IL M8)<|BR (Cr TZ T.NK Nr)<|BR (Cr Kq T.KY Pq)<|BR (Cr Kq T.KY Pj)<|BR (Cr R1 T.Ti VW)<|BR (Cr R1 T.Ti VL)<|BR (Cr VA T.Yz Xa)<|BR (Cr VA T.Yz Yo)<|BR (Cr G8 T.compare Zg)<|BR (Cr G8 T.compare Zb)<|BR (Cr G8 T.compare Zr)<|BR (Cr G8 T.compare ZF)<|BR (Cr G8 T.compare Zp)<|BR (Cr G8 T.compare ZO)<|BR (Cr QB T.Qu Th)<|BR (Cr QB T.Qu UR)<|BR (Cr VJ T.Sg Q8)<|BR (Cr Zu T.Yj Tw)<|BR (Cr iG T.gh Yp)<|BR (Cr Zm T.X4 Uk)<|BR (Cr h_ T.iT Yc)<|BR (Ts (II TD) T.Ij fun _ _ _ _ _ h ha hb hk=>⟨(by rw[hb];unfold Cy;decide),IC ha hb<|by decide⟩)<|BR (Cr SU T.Nv NO)<|BR (Cr RF T.Mv M9)<|BR (Cr k_ T.nW ZP)<|BR (Cr dG T.aN VN)<|BR (Cr rR T.divide eM)<|BR (Cr gm T.multiply Yy)<|BR (Cr bf T.Zy Ui)<|BR (Cr sr T.negate Zq)<|BR (Cr jr T.qy Xr)<|BR (Cr vh T.AAa fM)<|BR (Cr FO T.Gg P5)<|BR (Cr FO T.Gg Pd)<|BR (Cr FO T.Gg Pp)<|BR (Cr FO T.Gg Pl)<|BR (Cr IX T.LP UG)<|BR (Cr IX T.LP UT)<|BR (Cr IX T.LP Tq)<|BR (Cr IX T.LP Tr)<|BR (Cr K7 T.Kh NW)<|BR (Ts (II TD) T.Ij fun _ _ _ _ _ h ha hb hk=>⟨(by rw[hb];unfold Cy;decide),IC ha hb<|by decide⟩)<|BR (Ts (II TD) T.Ij fun _ _ _ _ _ h ha hb hk=>⟨(by rw[hb];unfold Cy;decide),IC ha hb<|by decide⟩)<|BR (Ts (GI TD) T.F0 fun _ _ _ _ _ h ha hb hk=>⟨(by rw[hb];unfold Cy;decide),GO ha hb<|by decide⟩)<|BR (Ts (GI TD) T.F0 fun _ _ _ _ _ h ha hb hk=>⟨(by rw[hb];unfold Cy;decide),GO ha hb<|by decide⟩)<|BR (Ts (GI TD) T.F0 fun _ _ _ _ _ h ha hb hk=>⟨(by rw[hb];unfold Cy;decide),GO ha hb<|by decide⟩)<|BR (Cr Fo T.EX Iq)<|BR (Cr Fo T.EX Iw)<|BR (Cr XR T.fb YA)<|BR (Cr XR T.fb YT)<|BR (Ts (Di TD) T.EB fun _ _ _ _ _ h ha hb hk=>⟨(by rw[hb];unfold Jk;decide),Pf ha hb⟩)<|BR (Ts (Di TD) T.EB fun _ _ _ _ _ h ha hb hk=>⟨(by rw[hb];unfold Jk;decide),Pu ha hb⟩)<|BR (Ts (Di TD) T.EB fun _ _ _ _ _ h ha hb hk=>⟨(by rw[hb];unfold Jk;decide),P7 ha hb⟩)<|BR (Cr Rk T.drop iC)<|BR (Cr Rk T.drop iI)<|BR (Cr NG T.JE Jf)<|BR (Cr I_ T.Hy fun ha hb=>Ja ha hb<|by decide)<|BR (Cr I_ T.Hy fun ha hb=>Ja ha hb<|by decide)<|BR (Cr Rk T.drop ja)<|BR (Cr JU T.IH Lk)<|BR (Cr JU T.IH Me)<|BR (Cr cP T.a_ UX)<|BR (Cr yC T.roll gi)<|BR (Cr Vf T.RN Py)<|BR (Cr X7 T.U1 Qj)<|BR (Cr Rk T.drop hG)<|BR (Cr Ra T.NN M7)<|BR S_<|BR S_<|BR S_<|BR S_<|BR S_<|BR S_<|BR S_<|BR S_<|BR TV<|BR TV<|BR TV<|BR TV<|BR TV<|BR TV<|BR TV<|BR TV<|BR DH<|BR DH<|BR DH<|BR DH<|BR DH<|BR DH<|BR DH<|BR DH<|BR DH<|BR DH<|BR DH<|BR DH<|BR DH<|BR DH<|BR DH<|BR DH<|BR DH<|BR DH<|BR DH<|BR DH<|BR DH<|BR DH<|BR DH<|BR DH<|BR DH<|BR DH<|BR DH<|BR DH<|BR DH<|BR DH<|BR DH<|BR DH<|BR DG<|BR DG<|BR DG<|BR DG<|BR DG<|BR DG<|BR DG<|BR DG<|BR DG<|BR DG<|BR DG<|BR DG<|BR DG<|BR DG<|BR DG<|BR DG<|BR DG<|BR DG<|BR DG<|BR DG<|BR DG<|BR DG<|BR DG<|BR DG<|BR DG<|BR DG<|BR DG<|BR DG<|BR DG<|BR DG<|BR DG<|BR DG<|List.forall_mem_nil _)
def ACT: ∀ b∈noL,Ea A b= .non:=(Bv.mpr ⟨rfl,(Bv.mpr ⟨rfl,(Bv.mpr ⟨rfl,(Bv.mpr ⟨rfl,(Bv.mpr ⟨rfl,(Bv.mpr ⟨rfl,(Bv.mpr ⟨rfl,(Bv.mpr ⟨rfl,(Bv.mpr ⟨rfl,(Bv.mpr ⟨rfl,(Bv.mpr ⟨rfl,(Bv.mpr ⟨rfl,(Bv.mpr ⟨rfl,(Bv.mpr ⟨rfl,(Bv.mpr ⟨rfl,(Bv.mpr ⟨rfl,(Bv.mpr ⟨rfl,(Bv.mpr ⟨rfl,(Bv.mpr ⟨rfl,(Bv.mpr ⟨rfl,(Bv.mpr ⟨rfl,(Bv.mpr ⟨rfl,(Bv.mpr ⟨rfl,(Bv.mpr ⟨rfl,(Bv.mpr ⟨rfl,(Bv.mpr ⟨rfl,(Bv.mpr ⟨rfl,(Bv.mpr ⟨rfl,(Bv.mpr ⟨rfl,(Bv.mpr ⟨rfl,(Bv.mpr ⟨rfl,(Bv.mpr ⟨rfl,(Bv.mpr ⟨rfl,(Bv.mpr ⟨rfl,(Bv.mpr ⟨rfl,(Bv.mpr ⟨rfl,(Bv.mpr ⟨rfl,(Bv.mpr ⟨rfl,(Bv.mpr ⟨rfl,(fun _ h=>nomatch h)⟩)⟩)⟩)⟩)⟩)⟩)⟩)⟩)⟩)⟩)⟩)⟩)⟩)⟩)⟩)⟩)⟩)⟩)⟩)⟩)⟩)⟩)⟩)⟩)⟩)⟩)⟩)⟩)⟩)⟩)⟩)⟩)⟩)⟩)⟩)⟩)⟩)⟩)⟩)
def ABq: ∀ b:Fin 256,Ht.isInstruction b.val=true->b.val∈AEC:=by decide+kernel
def ADu: ∀ b:Fin 256,Ht.isInstruction b.val=false->b.val∈noL:=by decide+kernel
def zg:Passes cV X E:=fun _ _ _ _ _ _ _ h=>h.elim
structure AtS(g:B2)(m:Ht.M):Prop where
 pl:m.place=g.place
 lt:g.place<(codeB g m.inFont).length
 byte:g.byte=Ht.byteAt (codeB g m.inFont) g.place
inductive AA4(K:AS)(A:B4)(vs:List V)(H:Hp)(Q:VK)(E:XK):Prop
 | mk: ∀ W g v m,vs= [.ref g.run]->R K A W g v m H->AtS g m->((∀ n,Ht.step g.kind g.c m= .error n->Fl K A W g m.steps m.inFont E n))->((∀ m',Ht.step g.kind g.c m= .ok m'-> ∀ W' v' H',Bc W W'->R K A W' g v' m' H'->Q .non H'))->AA4 K A vs H Q E
def step_eq(h:AtS g m):Ht.step g.kind g.c m=if 5000<=m.steps then .error 7 else if Ht.isInstruction g.byte=false\/(g.byte=44/\g.kind≠ .font)then .error 5 else if g.place+DB (codeB g m.inFont) g.place<=(codeB g m.inFont).length then Ht.on (A4 g {m with place:=g.place+DB (codeB g m.inFont) g.place}) fun x=> .ok {x with steps:=m.steps+1}else .error 4:=by
 have hlt: ¬(codeB g m.inFont).length<=m.place:=by rw[h.pl];exact Nat.not_le.mpr h.lt
 have e1:Ht.step g.kind g.c m=(if(codeB g m.inFont).length<=m.place then .error Ht.CODE else if Ht.LIMIT<=m.steps then .error Ht.STEPS else if Ht.isInstruction (Ht.byteAt (codeB g m.inFont) m.place)=false\/(Ht.byteAt (codeB g m.inFont) m.place=0x2C/\g.kind≠ .font)then .error Ht.UNKNOWN else match Ht.lengthAt (codeB g m.inFont) m.place with
  | none=> .error Ht.CODE
  | some n=>Ht.on (Ht.acts g.kind {m with place:=m.place+n} (codeB g m.inFont) m.place n) fun x=> .ok<|{x with steps:=m.steps+1}):=rfl
 rw[e1,AG hlt,h.pl,<-h.byte,HC h.lt]
 show(if 5000<=m.steps then _ else _)=_
 by_cases q:5000<=m.steps
 ·rw[AI q,AI q];rfl
 ·rw[AG q,AG q]
  by_cases q2:Ht.isInstruction g.byte=false\/(g.byte=44/\g.kind≠ .font)
  ·rw[AI q2,AI q2];rfl
  ·rw[AG q2,AG q2]
   by_cases q3:g.place+DB (codeB g m.inFont) g.place<=(codeB g m.inFont).length
   ·rw[AI q3,AI q3];rfl
   ·rw[AG q3,AG q3];rfl
theorem UH [T:Txt K mg A](TD:K1 P w K A):OF P w base 9 168 ["run"] (AA4 K A):=by
 refine T.QM.F.V6 ["run","act"] fun H vs Q E hr h=>?_
 obtain⟨W,g,v,m,rfl,h,at_,qe,qo⟩:=h
 refine⟨_,(AB (Aq (A0 BD (AR AH)<|Bt T.k.P6) (AF<|CI T.c.fault BK (hr.mono<|by decide) outF rfl<|Af AE) AX)<|AB (AO 1<|Ah (sg TD) T.uY<|Af<|AR AH)<|AB (Aq (KW<|Kg AV) (AF<|CI T.c.fault BK (hr.mono<|by decide) outF rfl<|Af AE) AX)<|AB (BC AH<|Ah UM T.behind<|Ax (AR AH)<|AR AH)<|AB (Ad<|vq (E:=E) AV<|Af AH)<|AF<|O7 AH AE k8),?_⟩
 have se:=step_eq at_
 have bl:g.byte<256:=by rw[at_.byte];exact xy _ _
 refine⟨h.run,AL,jw,rfl,A7 (fun e=>?_) fun e=>?_⟩
 ·have e1:=B6 (V.int.inj<|An e)
  exact⟨_,rfl,(qe 7<|se.trans<|AI<|by lia).ex h⟩
 have e1: ¬ 5000<=m.steps:=fun z=>e<|Av<|by rw[show m.steps=5000 from qP h.good.steps z];rfl
 rw[AG e1]at se
 refine⟨h.run,AL,BL,g.byte,rfl,?_⟩
 cases hi:Ht.isInstruction g.byte with
 | false=>
  have f5:=qe 5<|se.trans<|AI<|.inl hi
  rw[ACT (A:=A) g.byte<|ADu ⟨g.byte,bl⟩ hi]
  exact⟨_,rfl,f5.ex h⟩
 | true=>
  have ok:=yy (P:=P) (w:=w) (K:=K) (mg:=mg) (base:=base) TD g.byte<|ABq ⟨g.byte,bl⟩ hi
  obtain⟨i,CX,k,ev,F,kp,bd,hcx,kl⟩:=ok.ex
  rw[ev]
  have code:=BF.of (K:=K)<|h.codeAt m.inFont
  by_cases q44:g.byte=44/\g.kind≠ .font
  ·have l1:DB (codeB g m.inFont) g.place=1:=by unfold DB;rw[<-at_.byte,q44.1];rfl
   refine⟨h.run,AL,FZ,h.run,AL,HY,_,_,_,rfl,code,at_.lt,(fun bad=>absurd bad<|by rw[l1];have:=at_.lt;lia),fun good=>⟨h.run,AL,(B8 rfl),?_⟩⟩
   have h3:=h.JW _ good
   have ev2:V.ref (A.ad i)= .ref (A.ad 39):=by rw[<-ev,q44.1];rfl
   refine⟨_,_,_,(BO (fun t=>some<|some t) ev2),⟨_,_,_,Z8,hr.mono<|by decide,T.define.F.kp,T.define.b,gQ⟩,W,g,v,_,rfl,h3,trivial,?_⟩
   have ef:OL g {m with place:=g.place+DB (codeB g m.inFont) g.place}= .error 5:=by
    unfold OL
    exact AG fun z=>q44.2<|nI z
   rw[ef]
   exact(qe 5<|se.trans<|AI<|.inr q44)
  ·rw[AG<|by rintro(z | z);(rw[hi]at z;cases z);exact q44 z]at se
   refine⟨h.run,AL,FZ,h.run,AL,HY,_,_,_,rfl,code,at_.lt,(fun bad=>(qe 4<|se.trans<|AG<|by lia).ex h),fun good=>?_⟩
   refine⟨h.run,AL,(B8 rfl),?_⟩
   rw[AI good]at se
   have ai:B_ g {m with place:=g.place+DB (codeB g m.inFont) g.place}:=⟨at_.lt,at_.byte,rfl⟩
   refine⟨_,_,_,rfl,⟨CX,k,_,F,hr.mono kl,kp,bd,?_⟩,?_⟩
   ·rcases hcx with rfl | rfl
    ·exact zg
    ·exact gQ
   refine⟨W,g,v,_,rfl,h.JW _ good,ai,rfl,(fun z=>?_),?_⟩
   ·by_cases w:g.kind= .font
    ·exact w
    ·exact absurd ⟨z,w⟩ q44
   cases ea:A4 g {m with place:=g.place+DB (codeB g m.inFont) g.place}with
   | error n=>exact qe n<|se.trans<|lV ea
   | ok m'=>
    intro W' v' H' s' h' hs'
    refine⟨h'.run,AL,jw,_,_,rfl,rfl,h'.run,(B8 rfl),?_⟩
    have h2:=h'.yT (m.steps+1)<|by lia
    rw[show AD (m.steps+1)=AD m'.steps+1 by rw[hs'];rfl]at h2
    exact qo _ (se.trans<|uu ea) W' v' _ s' h2
noncomputable def Mm(g:B2)(p b:Nat):B2:={g with place:=p,byte:=b}
def R.rY{W:Hp}{g:B2}{p b:Nat}{v:Var}{m:Ht.M}{H:Hp}(h:R K A W (Mm g p b) v m H)(n:Nat):R K A W (Mm g n b) v m (upd H g.run<|.ins (A.cl 1) g.Q9<|DI "place" (.int<|AD n)<|DU (Mm g p b) v m):=
 h.Ec .run rfl rfl {h.good with}
def R.iA{W:Hp}{g:B2}{p b:Nat}{v:Var}{m:Ht.M}{H:Hp}(h:R K A W (Mm g p b) v m H)(n:Nat):R K A W (Mm g p n) v m (upd H g.run<|.ins (A.cl 1) g.Q9<|DI "byte" (.int<|AD n)<|DU (Mm g p b) v m):=
 h.Ec .run rfl rfl {h.good with}
noncomputable def xa(m:Ht.M):Nat:=if m.inFont=true then 1 else 0
inductive AAf(K:AS)(A:B4)(vs:List V)(H:Hp)(Q:VK)(E:XK):Prop
 | mk: ∀ W g v m,vs= [.ref g.run]->R K A W g v m H->((∀ m',Ht.run g.kind g.c (5001-m.steps) m= .done m'-> ∀ p b W' v' H',Bc W W'->R K A W' (Mm g p b) v' m' H'->Q .non H'))->((∀ f told,Ht.run g.kind g.c (5001-m.steps) m= .fault f told-> ∀ p b W' v' m' H',Bc W W'->R K A W' (Mm g p b) v' m' H'->told= [p,xa m',b,m'.steps]->E (.int (AD f) 0) none H'))->AAf K A vs H Q E
def S5{k:Ht.Kind}{c:Ht.Codes}{n:Nat}{m:Ht.M}:Ht.run k c (n+1) m=if m.place=(c.of_ m).length/\m.going.isEmpty=true then .done m else match Ht.step k c m with
  | .error f=> .fault f [m.place,xa m,Ht.byteAt (c.of_ m) m.place,m.steps]
  | .ok x=>Ht.run k c n x:=rfl
def uz{k:Ht.Kind}{c:Ht.Codes}{m:Ht.M}(hs:m.steps<=5000)(lt:m.place<(c.of_ m).length):Ht.run k c (5001-m.steps) m=match Ht.step k c m with
  | .error f=> .fault f [m.place,xa m,Ht.byteAt (c.of_ m) m.place,m.steps]
  | .ok x=>Ht.run k c (5000-m.steps) x:=by
 rw[show 5001-m.steps=(5000-m.steps)+1 by lia,S5,AG fun z=>by lia]
def x6{k:Ht.Kind}{c:Ht.Codes}{m:Ht.M}{f:Nat}(hs:m.steps<=5000)(lt:m.place<(c.of_ m).length)(e:Ht.step k c m= .error f):Ht.run k c (5001-m.steps) m= .fault f [m.place,xa m,Ht.byteAt (c.of_ m) m.place,m.steps]:=by
 rw[uz hs lt,e]
def ACi{k:Ht.Kind}{c:Ht.Codes}{m x:Ht.M}(hs:m.steps<=5000)(lt:m.place<(c.of_ m).length)(e:Ht.step k c m= .ok x):Ht.run k c (5001-m.steps) m=Ht.run k c (5000-m.steps) x:=by
 rw[uz hs lt,e]
def AAQ{k:Ht.Kind}{c:Ht.Codes}{m:Ht.M}(hs:m.steps<=5000)(pl:m.place=(c.of_ m).length)(em:m.going= []):Ht.run k c (5001-m.steps) m= .done m:=by
 rw[show 5001-m.steps=(5000-m.steps)+1 by lia,S5,AI ⟨pl,by rw[em];rfl⟩]
def kK{c:Ht.Bytes}{p:Nat}(h:p=c.length):Ht.byteAt c p=0:=by
 subst h
 unfold Ht.byteAt
 simp
def xx{k:Ht.Kind}{c:Ht.Codes}{m:Ht.M}(hs:m.steps<=5000)(pl:m.place=(c.of_ m).length)(em:m.going≠ []):Ht.run k c (5001-m.steps) m= .fault 4 [m.place,xa m,0,m.steps]:=by
 have es:Ht.step k c m= .error 4:=by
  have e1:Ht.step k c m=(if(c.of_ m).length<=m.place then .error Ht.CODE else if Ht.LIMIT<=m.steps then .error Ht.STEPS else if Ht.isInstruction (Ht.byteAt (c.of_ m) m.place)=false\/(Ht.byteAt (c.of_ m) m.place=0x2C/\k≠ .font)then .error Ht.UNKNOWN else match Ht.lengthAt (c.of_ m) m.place with
  | none=> .error Ht.CODE
  | some n=>Ht.on (Ht.acts k {m with place:=m.place+n} (c.of_ m) m.place n) fun x=> .ok<|{x with steps:=m.steps+1}):=rfl
  rw[e1,AI<|by rw[pl];exact BS _]
  rfl
 rw[show 5001-m.steps=(5000-m.steps)+1 by lia,S5,AG fun z=>em<|List.isEmpty_iff.mp z.2,es,kK pl]
def kb{k:Ht.Kind}{c:Ht.Codes}{m x:Ht.M}(e:Ht.step k c m= .ok x):x.steps=m.steps+1:=by
 unfold Ht.step at e
 dsimp only at e
 split at e
 ·cases e
 split at e
 ·cases e
 split at e
 ·cases e
 split at e
 ·cases e
 ·unfold Ht.on at e
  split at e
  ·cases e
  ·cases e
   rfl
def ABv{c:Ht.Bytes}:(Tb c).length=c.length:=by unfold Tb;rw[A8]
def Ul (TD:K1 P w K A):OF P w base 10 169 ["run"] (AAf K A):=by
 refine T.HK.F.V6 ["run","ended"] fun H vs Q E hr h=>?_
 obtain⟨W,g,v,m,rfl,h,qd,qf⟩:=h
 refine⟨_,(AB (AO 1 au)<|AF<|JH PassesOwn.leaving (w6<|MN AV)<|AB (BC AH<|AR AH)<|AF<|Aq (A0 Dq (AR AH)<|Dc T.k.CD<|Af<|AR AH) (AB (BC AH<|A9 Ab (AR AH)<|AR AH)<|AF<|Ad<|Ah (UH TD) T.QM<|Af AH)<|AB (BC AH AE)<|AB (Aq (A0 DE (Dc T.k.CD<|Af<|AR AH) AE) (AF<|CI T.c.fault BK (hr.mono<|by decide) outF rfl<|Af AE) AX)<|AF<|AO 1 au),?_⟩
 refine⟨fun k σ H'=>(∃ p b m' v' W',σ= [some<|.ref g.run,some<|.bl false]/\k=5001-m'.steps/\Bc W W'/\R K A W' (Mm g p b) v' m' H'/\Ht.run g.kind g.c (5001-m'.steps) m'=Ht.run g.kind g.c (5001-m.steps) m)\/(k=0/\σ= [some<|.ref g.run,some<|.bl true]/\Q .non H'),⟨5001-m.steps,.inl ⟨g.place,g.byte,m,v,W,rfl,rfl,same_refl,h,rfl⟩⟩,?_⟩
 rintro k σ H1 (⟨p,b,m1,v1,W1,rfl,rfl,s1,h1,er⟩ |⟨rfl,rfl,q⟩)
 case inr=>
  exact by first | exact q | exact q
 refine⟨_,fun _ _ q=>q,?_⟩
 refine⟨h1.run,AL,He,h1.run,AL,(B8 rfl),?_⟩
 have h2:=h1.rY m1.place
 have hs:=h1.good.steps
 have hpl:m1.place<=(codeB g m1.inFont).length:=h1.good.place
 have cd:=BF.of (K:=K)<|h2.codeAt m1.inFont
 refine⟨h2.run,AL,HY,h2.run,AL,FZ,.inl cd,?_⟩
 rw[ABv]
 refine A7 (fun e=>?_) fun e=>?_
 ·have lt:m1.place<(codeB g m1.inFont).length:=BQ.mp (An e)
  refine⟨h2.run,AL,FZ,h2.run,AL,HY,cd,Ny lt,h2.run,AL,(B8 rfl),?_⟩
  have h3:=h2.iA<|Ht.byteAt (codeB g m1.inFont) m1.place
  refine⟨W1,Mm g m1.place<|Ht.byteAt (codeB g m1.inFont) m1.place,v1,m1,rfl,h3,⟨rfl,lt,rfl⟩,(fun n en=>?_),fun m2 e2 W2 v2 H2 s2 h4=>?_⟩
  ·intro W2 v2 m2 H2 s2 h4 es ef
   refine qf n _ (er.symm.trans<|x6 hs lt en) _ _ W2 v2 m2 H2 (fun b o z=>s2 b o<|s1 b o z) h4 ?_
   rw[es,show xa m2=xa m1 by unfold xa;rw[ef]]
   rfl
  ·have e3:=kb e2
   have hs2:=h4.good.steps
   refine⟨5001-m2.steps,by lia,.inl ⟨_,_,m2,v2,W2,rfl,rfl,(fun b o z=>s2 b o<|s1 b o z),h4,?_⟩⟩
   rw[<-er,ACi (k:=g.kind) (c:=g.c) hs lt e2,show 5001-m2.steps=5000-m1.steps by lia]
 ·have pl:m1.place=(codeB g m1.inFont).length:=by
   have: ¬ m1.place<(codeB g m1.inFont).length:=fun z=>e<|Av<|BQ.mpr z
   lia
  refine⟨h2.run,AL,(B8 rfl),?_⟩
  have h3:=h2.iA 0
  refine⟨h3.run,AL,JN,.inl<|BF.of h3.CM,?_⟩
  rw[c_]
  refine A7 (fun e4=>?_) fun e4=>?_
  ·have e5:(0:Int)<AD m1.going.length:=An e4
   refine⟨_,rfl,fun d hd=>?_⟩
   refine qf 4 _ (er.symm.trans<|xx hs pl fun z=>by rw[z]at e5;exact absurd e5<|by decide) _ _ W1 v1 m1 _ s1 (h3.new hd) rfl
  ·have eg:m1.going= []:=by
    cases eg:m1.going with
    | nil=>rfl
    | cons y l=>exact absurd (Av (show(0:Int)<AD m1.going.length by rw[eg];exact BQ.mpr<|OZ _)) e4
   refine⟨0,by lia,.inr ⟨rfl,rfl,?_⟩⟩
   exact qd m1 (er.symm.trans<|AAQ hs pl eg) _ _ W1 v1 _ s1 h3
noncomputable def XW(l:List Nat):List V:=l.map fun n=> .int (AD n)
inductive oi(K:AS)(A:B4)(vs:List V)(H:Hp)(Q:VK)(E_:XK):Prop
 | mk: ∀ W g v m,vs= [.ref g.run]->R K A W g v m H->((∀ m',Ht.run g.kind g.c (5001-m.steps) m= .done m'-> ∀ p b W' v' H' l,Bc W W'->W l=none->R K A W' (Mm g p b) v' m' H'->W' l=some (.lst [])->Q (.ref l) H'))->((∀ f told,Ht.run g.kind g.c (5001-m.steps) m= .fault f told-> ∀ p b W' v' m' H' l,Bc W W'->W l=none->R K A W' (Mm g p b) v' m' H'->W' l=some (.lst (XW (f::told)))->Q (.ref l) H'))->oi K A vs H Q E_
def ACO:V.int (bI m.inFont)= .int (AD<|xa m):=by unfold bI xa;split<;>rfl
def Wb(he:PE (inH X a) e ta)(hb:J0 e f X.env (eval e X.env)=eval e X.env):PE (inH X a) (.Attribute e f pos) (vE X.K ta f):=dU he hb
theorem none_of(s:Bc W W')(h:W' l=none):W l=none:=by
 cases e:W l with
 | none=>rfl
 | some o=>rw[s _ _ e]at h;cases h
def OM (TD:K1 P w K A):O0 P w base 11 170 ["run"] (oi K A):=by
 refine T.R6.F.DL ["run","fault"] fun H vs Q E hr h=>?_
 obtain⟨W,g,v,m,rfl,h,qd,qf⟩:=h
 refine⟨_,(AB (kT (i:=1) (C:=A.cl 0) ⟨rfl,rfl,rfl,rfl,rfl⟩ (Ul TD) (hr.mono<|by decide) rfl T.HK.g T.HK.F.kp T.HK.b (Af AH) T.c.fault.cls rfl T.c.fault.g (show Iu (["run","fault"]:List Str) by decide+kernel) rfl rfl fun a=>AF<|AY<|Ba<|Cs (xw T.c.fault.cls AV)<|RQ (Wb AH rfl) (Wb AH rfl) (Wb AH rfl)<|Wb AH rfl)<|AF<|AY<|Ba Ez),?_⟩
 refine⟨W,g,v,m,rfl,h,(fun m' er p b W' v' H' s1 h1=>?_),(fun f told er p b W' v' m' H' s1 h1 et=>?_)⟩
 ·exact⟨B7 _,fun l hl=>qd m' er p b _ v' _ l (fun a o z=>Bd (h1.free hl) a o<|s1 a o z) (none_of s1<|h1.free hl) (h1.M_ hl) AJ⟩
 ·refine⟨_,rfl,fun a d ha hd=>?_⟩
  have h2:=h1.new (o:=XHO (A.cl 0) a d) ha
  refine⟨a,d,_,rfl,AJ,(AQ<|Ac hd ha).trans hd,?_⟩
  refine⟨h2.run,AL,HY,h2.run,AL,qR,h2.run,AL,BL,h2.run,AL,jw,?_⟩
  refine⟨(show 5<=sizeLine by decide),fun l hl=>?_⟩
  refine qf f told er p b _ v' m' _ l (fun a o z=>Bd (h2.free hl) a o<|s1 a o z) (none_of s1<|h2.free hl) (h2.M_ hl)<|AJ.trans ?_
  rw[et,ACO]
  rfl
end GF
end
section
namespace GF
open PySem L2
section
noncomputable abbrev SS:=Tag->AK->HO->Prop
noncomputable def AEa:SS:=fun _ _ _=>False
noncomputable def YN(t:Tag)(l:AK)(o:HO):SS:=fun t' a o'=>t'=t/\a=l/\o'=o
noncomputable def R9(S S':SS):SS:=fun t a o=>S t a o\/S' t a o
noncomputable def CZ(S:SS)(t:Tag)(l:AK)(o:HO):SS:=fun t' a o'=>(t'=t/\a=l/\o'=o)\/(t'≠t/\S t' a o')
structure Nw(H H':Hp)(S:SS):Prop where
 same:Bc H H'
 at_: ∀ t a o,S t a o->H' a=some o/\H a=none
 one: ∀ t t' a o o',S t a o->S t' a o'->t=t'
variable{K:AS}{A:B4}{W:Hp}{g:B2}{v:Var}{m:Ht.M}{H0 H H':Hp}{S S':SS}{t t':Tag}{l p a:AK}{o o' o1:HO}
def B0:CZ S t l o t l o:= .inl ⟨rfl,rfl,rfl⟩
def Nw.nil:Nw H H AEa:=⟨fun _ _ e=>e,fun _ _ _ z=>z.elim,fun _ _ _ _ _ z=>z.elim⟩
def Nw.mono(h:Nw H0 H S)(s: ∀ t a o,S' t a o->S t a o):Nw H0 H S':=⟨h.same,fun t a o z=>h.at_ t a o<|s _ _ _ z,fun t t' a o o' x y=>h.one t t' a o o' (s _ _ _ x)<|s _ _ _ y⟩
def Nw.o8(h:Nw H0 H S)(f:H l=none):H0 l=none:=none_of h.same f
def Nw.ZN(h:Nw H0 H S)(f:H l=none):Nw H0 (upd H l o) S:=
 ⟨fun b u e=>by rw[AQ<|Ac (h.same _ _ e) f];exact h.same _ _ e,fun t a u z=>⟨by rw[AQ<|Ac (h.at_ _ _ _ z).1 f];exact(h.at_ _ _ _ z).1,(h.at_ _ _ _ z).2⟩,h.one⟩
def Nw.add(h:Nw H0 H S)(f:H l=none):Nw H0 (upd H l o) (R9 S<|YN t l o):=by
 have h2:=h.ZN (o:=o) f
 refine⟨h2.same,?_,?_⟩
 ·rintro t' a u (z |⟨rfl,rfl,rfl⟩)
  ·exact h2.at_ _ _ _ z
  ·exact⟨AJ,h.o8 f⟩
 ·rintro t1 t2 a u u' (z |⟨rfl,rfl,rfl⟩) (y |⟨rfl,e,rfl⟩)
  ·exact h.one _ _ _ _ _ z y
  ·exact absurd e<|Ac (h.at_ _ _ _ z).1 f
  ·exact absurd rfl<|Ac (h.at_ _ _ _ y).1 f
  ·rfl
def Nw.put(h:Nw H0 H S)(f:H l=none):Nw H0 (upd H l o) (CZ S t l o):=
 (h.add f).mono fun t' a u z=>z.elim (fun z=> .inr z) fun z=> .inl z.2
def Nw.is(h:Nw H0 H (CZ S t p o)):H p=some o:=(h.at_ _ _ _ B0).1
def Nw.set(h:Nw H0 H (CZ S t p o))(o1:HO):Nw H0 (upd H p o1) (CZ S t p o1):=by
 have hp:=h.at_ _ _ _ B0
 have ne: ∀ t' a u,t'≠t->S t' a u->a≠p:=fun t' a u n z e=>by subst e;exact n<|h.one _ _ _ _ _ (.inr ⟨n,z⟩) B0
 refine⟨fun b u e=>?_,?_,?_⟩
 ·rw[AQ<|Ac e hp.2]
  exact h.same _ _ e
 ·rintro t' a u (⟨rfl,rfl,rfl⟩ |⟨n,z⟩)
  ·exact⟨AJ,hp.2⟩
  ·rw[AQ<|ne _ _ _ n z]
   exact h.at_ _ _ _<|.inr ⟨n,z⟩
 ·rintro t1 t2 a u u' (⟨rfl,rfl,rfl⟩ |⟨n,z⟩) (⟨rfl,e,rfl⟩ |⟨n',y⟩)
  ·rfl
  ·exact absurd rfl<|ne _ _ _ n' y
  ·exact absurd e<|ne _ _ _ n z
  ·exact h.one _ _ _ _ _ (.inr ⟨n,z⟩)<|.inr ⟨n',y⟩
def sJ(n:t≠t')(z:CZ (CZ S t' l o') t p o x a y):CZ (CZ S t p o) t' l o' x a y:=by
 rcases z with⟨rfl,rfl,rfl⟩ |⟨n1,⟨rfl,rfl,rfl⟩ |⟨n2,z⟩⟩
 ·exact .inr ⟨n,B0⟩
 ·exact B0
 ·exact .inr ⟨n2,.inr ⟨n1,z⟩⟩
def Nw.under(h:Nw H0 H (CZ S t p o))(f:H l=none)(n:t≠t')(o':HO):Nw H0 (upd H l o') (CZ (CZ S t' l o') t p o):=(h.put f).mono fun _ _ _ z=>sJ n z
def Nw.Ys(h:Nw H0 H (CZ S t p o))(f:H l=none)(n:t≠t')(o':HO):Nw H0 (upd H l o') (CZ (R9 S<|YN t' l o') t p o):=(h.add (t:=t') (o:=o') f).mono fun x b y z=>by
 rcases z with⟨rfl,rfl,rfl⟩ |⟨n1,z | z⟩
 ·exact .inl B0
 ·exact .inl<|.inr ⟨n1,z⟩
 ·exact .inr z
open Classical in
noncomputable def TF(S:SS)(H:Hp):Hp:=fun a=>if ∃ t o,t≠ .rest/\S t a o then none else H a
def Bl(h:Nw H0 H S)(e:H0 a=some o):TF S H a=some o:=by
 unfold TF
 rw[AG fun⟨t,u,_,z⟩=>by rw[(h.at_ _ _ _ z).2]at e;cases e]
 exact h.same _ _ e
def XQ(h:Nw H0 H S)(e:S .rest a o):TF S H a=some o:=by
 unfold TF
 rw[AG fun⟨t,u,n,z⟩=>n<|h.one _ _ _ _ _ z e]
 exact(h.at_ _ _ _ e).1
open Classical in
def R.make(h:Nw H0 H S)(hw: ∀ t a o,want A g v m t=some (a,o)->S t a o)(gd:Good K (TF S H) g v m):R K A (TF S H) g v m H:=by
 refine⟨⟨fun a=>if e: ∃ t o,S t a o then e.choose else .rest,fun t a o e=>?_,fun a o e=>?_⟩,gd⟩
 ·have s:=hw t a o e
  have x: ∃ t o,S t a o:=⟨t,o,s⟩
  refine⟨(h.at_ _ _ _ s).1,?_⟩
  simp only[dif_pos x]
  obtain⟨u,z⟩:=x.choose_spec
  exact h.one _ _ _ _ _ z s
 ·unfold TF at e
  split at e
  ·cases e
  ·rename_i n
   refine⟨e,?_⟩
   by_cases x: ∃ t o,S t a o
   ·simp only[dif_pos x]
    obtain⟨u,z⟩:=x.choose_spec
    exact zX fun y=>n ⟨_,u,y,z⟩
   ·simp only[dif_neg x]
end
end GF
end
section
namespace GF
open PySem PySem.Spec PyProof.Rows L2
variable{P:BH}{w:Ap}{K:AS}{mg:Str->Option AN}{base:Ay}{A:B4}[T:Txt K mg A]
inductive AEe(C:AK)(vs:List V)(H:Hp)(Q:VK)(E_:XK):Prop
 | mk: ∀ p dx,vs= [.ref p]->H p=some (.ins C dx [])->Q .non (upd H p (.ins C dx (S3 Ht.usual)))->AEe C vs H Q E_
def Sz :O0 P w base 1 171 ["self"] (AEe<|A.cl 5):=by
 refine T.Tu.1.DL ["self"] fun H vs Q E hr h=>?_
 obtain⟨p,dx,rfl,hp,q⟩:=h
 refine⟨_,(AB (BC AH AE)<|AB (BC AH AE)<|AB (BC AH AE)<|AB (BC AH AE)<|AB (BC AH AE)<|AB (BC AH AE)<|AF<|BC AH AE),hp,BG,(B8 rfl),AJ,BG,(B8 rfl),AJ,BG,(B8 rfl),AJ,BG,(B8 rfl),AJ,BG,(B8 rfl),AJ,BG,(B8 rfl),AJ,BG,(B8 rfl),?_⟩
 rw[Bk,Bk,Bk,Bk,Bk,Bk]
 exact q
inductive AEQ(C:AK)(vs:List V)(H:Hp)(Q:VK)(E_:XK):Prop
 | mk: ∀ k dk x,vs= [.ref k]->H k=some (.ins C dk (S3 x))->(∀ q dq,H q=none->H dq=none->dq≠q->Q (.ref q) (upd (upd H dq (.own q)) q (.ins C dq (S3 x))))->AEQ C vs H Q E_
def dS :O0 P w base 3 172 ["self"] (AEQ<|A.cl 5):=by
 refine T.aa.F.DL ["self","other"] fun H vs Q E hr h=>?_
 obtain⟨k,dk,x,rfl,hk,qq⟩:=h
 refine⟨_,(AB (AO 1<|Xc T.c.xQ Sz (hr.mono<|by decide) rfl T.c.wF T.Tu.2 .nil Gp)<|AB (BC AV<|AR AH)<|AB (BC AV<|AR AH)<|AB (BC AV<|AR AH)<|AB (BC AV<|AR AH)<|AB (BC AV<|AR AH)<|AB (BC AV<|AR AH)<|AB (BC AV<|AR AH)<|AF<|AY AV),?_⟩
 intro q dq hq hdq ne
 refine⟨q,dq,rfl,AJ,rfl,?_⟩
 rw[Bk]
 have n0:k≠q:=fun z=>by rw[<-z,hk]at hq;cases hq
 have n1:k≠dq:=fun z=>by rw[<-z,hk]at hdq;cases hdq
 obtain⟨H1,hH1⟩: ∃ H1,H1=upd H dq (.own q):=⟨_,rfl⟩
 rw[<-hH1]
 have hk1:H1 k=some (.ins (A.cl 5) dk<|S3 x):=by rw[hH1,AQ n1];exact hk
 refine⟨(AQ n0).trans hk1,BG,YE,AJ,BG,(B8 rfl),?_⟩
 rw[Bk]
 refine⟨(AQ n0).trans hk1,BG,K3,AJ,BG,(B8 rfl),?_⟩
 rw[Bk]
 refine⟨(AQ n0).trans hk1,BG,OR,AJ,BG,(B8 rfl),?_⟩
 rw[Bk]
 refine⟨(AQ n0).trans hk1,BG,IF,AJ,BG,(B8 rfl),?_⟩
 rw[Bk]
 refine⟨(AQ n0).trans hk1,BG,Kc,AJ,BG,(B8 rfl),?_⟩
 rw[Bk]
 refine⟨(AQ n0).trans hk1,BG,GS,AJ,BG,(B8 rfl),?_⟩
 rw[Bk]
 refine⟨(AQ n0).trans hk1,BG,WG,AJ,BG,(B8 rfl),?_⟩
 rw[Bk,hH1]
 exact qq q dq hq hdq ne
noncomputable def grV(u d:V)(c k t ol en kp:AK)(st pl:Int):List (Str×V):= [("units",u),("dots",d),("cells",.ref c),("controls",.ref k),("twilight",.ref t),("outline",.ref ol),("ends",.ref en),("kept",.ref kp),("still",.int st),("plain",.int pl)]
inductive ADn(A:B4)(vs:List V)(H:Hp)(Q:VK)(E_:XK):Prop
 | mk: ∀ H0 S tg p dx u d c k t,vs= [.ref p,u,d,.ref c,.ref k,.ref t]-> .gr≠tg->Nw H0 H (CZ S .gr p (.ins (A.cl 6) dx []))->(∀ ol en kp dk H',Nw H0 H' (CZ (CZ (R9 (R9 S (YN tg ol (.lst []))) (YN .rest en (.lst []))) .kp kp (.ins (A.cl 5) dk (S3 Ht.usual))) .gr p (.ins (A.cl 6) dx (grV u d c k t ol en kp 0 0)))->Q .non H')->ADn A vs H Q E_
def Ng :O0 P w base 3 173 ["self","units","dots","cells","controls","twilight"] (ADn A):=by
 refine T.Nk.1.DL ["self","units","dots","cells","controls","twilight"] fun H vs Q E hr h=>?_
 obtain⟨H0,S,tg,p,dx,u,d,c,k,t,rfl,ht,n,q⟩:=h
 refine⟨_,(AB (BC AH AV)<|AB (BC AH Aj)<|AB (BC AH A6)<|AB (BC AH CG)<|AB (BC AH ET)<|AB (BC AH<|Ba Ez)<|AB (BC AH<|Ba Ez)<|AB (BC AH<|Xc T.c.xQ Sz (hr.mono<|by decide) rfl T.c.wF T.Tu.2 .nil Gp)<|AB (BC AH AE)<|AF<|BC AH AE),n.is,AW,(B8 rfl),?_⟩
 replace n:=n.set<|.ins (A.cl 6) dx [("units",u)]
 refine⟨n.is,AW,(B8 rfl),?_⟩
 replace n:=n.set<|.ins (A.cl 6) dx [("units",u),("dots",d)]
 refine⟨n.is,AW,(B8 rfl),?_⟩
 replace n:=n.set<|.ins (A.cl 6) dx [("units",u),("dots",d),("cells",.ref c)]
 refine⟨n.is,AW,(B8 rfl),?_⟩
 replace n:=n.set<|.ins (A.cl 6) dx [("units",u),("dots",d),("cells",.ref c),("controls",.ref k)]
 refine⟨n.is,AW,(B8 rfl),?_⟩
 replace n:=n.set<|.ins (A.cl 6) dx [("units",u),("dots",d),("cells",.ref c),("controls",.ref k),("twilight",.ref t)]
 refine⟨B7 _,fun ol hol=>?_⟩
 replace n:=n.Ys (t':=tg) hol ht<|.lst []
 refine⟨n.is,AW,(B8 rfl),?_⟩
 replace n:=n.set<|.ins (A.cl 6) dx [("units",u),("dots",d),("cells",.ref c),("controls",.ref k),("twilight",.ref t),("outline",.ref ol)]
 refine⟨B7 _,fun en hen=>?_⟩
 replace n:=n.Ys (t':= .rest) hen (by intro z;cases z) (.lst [])
 refine⟨n.is,AW,(B8 rfl),?_⟩
 replace n:=n.set<|.ins (A.cl 6) dx [("units",u),("dots",d),("cells",.ref c),("controls",.ref k),("twilight",.ref t),("outline",.ref ol),("ends",.ref en)]
 intro kp dk hkp hdk nek
 refine⟨kp,dk,rfl,AJ,rfl,?_⟩
 rw[Bk]
 replace n:=n.ZN (o:= .own kp) hdk
 replace n:=n.under (t':= .kp) (l:=kp) ((AQ nek.symm).trans hkp) (by intro z;cases z) (.ins (A.cl 5) dk (S3 Ht.usual))
 refine⟨n.is,AW,(B8 rfl),?_⟩
 replace n:=n.set<|.ins (A.cl 6) dx [("units",u),("dots",d),("cells",.ref c),("controls",.ref k),("twilight",.ref t),("outline",.ref ol),("ends",.ref en),("kept",.ref kp)]
 refine⟨n.is,AW,(B8 rfl),?_⟩
 replace n:=n.set<|.ins (A.cl 6) dx [("units",u),("dots",d),("cells",.ref c),("controls",.ref k),("twilight",.ref t),("outline",.ref ol),("ends",.ref en),("kept",.ref kp),("still",.int 0)]
 refine⟨n.is,AW,(B8 rfl),?_⟩
 replace n:=n.set<|.ins (A.cl 6) dx [("units",u),("dots",d),("cells",.ref c),("controls",.ref k),("twilight",.ref t),("outline",.ref ol),("ends",.ref en),("kept",.ref kp),("still",.int 0),("plain",.int 0)]
 exact q ol en kp dk _ n
noncomputable def M4(kd:Ht.Kind):Int:=if kd= .font then 1 else 0
noncomputable def rnV(A:B4)(kd:Ht.Kind)(gr fo fn co:V)(CM C2 refs Bj:AK):List (Str×V):= [("kind",.int<|kI kd),("ground",gr),("font",fo),("functions",fn),("code",co),("whose",.int<|M4 kd),("place",.int 0),("after",.int 0),("byte",.int 0),("done",.int 0),("frames",.ref CM),("stack",.ref C2),("projection",.ref<|A.tg 0),("freedom",.ref<|A.tg 0),("old_projection",.ref<|A.tg 0),("references",.ref refs),("pointers",.ref Bj),("loop",.int 1),("rounding",.int 1),("rounding_byte",.int 0)]
def ABl(h:Q (.int<|M4 kd) H):if decide (V.int (kI kd)=V.int 0)=true then tC (.int 1) σ H Q else tC (.int 0) σ H Q:=by cases kd<;>exact h
inductive AE3(A:B4)(vs:List V)(H:Hp)(Q:VK)(E_:XK):Prop
 | mk: ∀ H0 S p dx kd gr co fo fn,vs= [.ref p,.int (kI kd),gr,co,fo,fn]->Nw H0 H (CZ S .run p (.ins (A.cl 1) dx []))->(∀ CM C2 refs Bj H',Nw H0 H' (CZ (CZ (CZ (CZ (CZ S .CM CM (.lst [])) .C2 C2 (.lst [])) .refs refs (.lst [.int 0,.int 0,.int 0])) .Bj Bj (.lst [.int 1,.int 1,.int 1])) .run p (.ins (A.cl 1) dx (rnV A kd gr fo fn co CM C2 refs Bj)))->Q .non H')->AE3 A vs H Q E_
def OQ :O0 P w base 1 17 ["self","kind","ground","code","font","functions"] (AE3 A):=by
 refine T.SA.1.DL ["self","kind","ground","code","font","functions"] fun H vs Q E hr h=>?_
 obtain⟨H0,S,p,dx,kd,gr,co,fo,fn,rfl,n,q⟩:=h
 refine⟨_,(AB (BC AH AV)<|AB (BC AH Aj)<|AB (BC AH CG)<|AB (BC AH ET)<|AB (BC AH A6)<|AB (BC AH<|Bm (A0 BD AV<|Bt T.k.ku) AE AE)<|AB (BC AH AE)<|AB (BC AH AE)<|AB (BC AH AE)<|AB (BC AH AE)<|AB (BC AH<|Ba Ez)<|AB (BC AH<|Ba Ez)<|AB (BC AH<|DZ rfl T.k.RT<|show L2.RelV (.ref<|A.tg 0) _ from rfl)<|AB (BC AH<|DZ rfl T.k.RT<|show L2.RelV (.ref<|A.tg 0) _ from rfl)<|AB (BC AH<|DZ rfl T.k.RT<|show L2.RelV (.ref<|A.tg 0) _ from rfl)<|AB (BC AH<|Ba<|CH AE AE AE)<|AB (BC AH<|Ba<|CH AE AE AE)<|AB (BC AH AE)<|AB (BC AH<|Bt T.k.uy)<|AF<|BC AH AE),?_⟩
 refine⟨n.is,AL,(B8 rfl),?_⟩
 replace n:=n.set<|.ins (A.cl 1) dx [("kind",.int<|kI kd)]
 refine⟨n.is,AL,(B8 rfl),?_⟩
 replace n:=n.set<|.ins (A.cl 1) dx [("kind",.int<|kI kd),("ground",gr)]
 refine⟨n.is,AL,(B8 rfl),?_⟩
 replace n:=n.set<|.ins (A.cl 1) dx [("kind",.int<|kI kd),("ground",gr),("font",fo)]
 refine⟨n.is,AL,(B8 rfl),?_⟩
 replace n:=n.set<|.ins (A.cl 1) dx [("kind",.int<|kI kd),("ground",gr),("font",fo),("functions",fn)]
 refine⟨n.is,AL,(B8 rfl),?_⟩
 replace n:=n.set<|.ins (A.cl 1) dx [("kind",.int<|kI kd),("ground",gr),("font",fo),("functions",fn),("code",co)]
 refine⟨rfl,ABl<|⟨n.is,AL,(B8 rfl),?_⟩⟩
 replace n:=n.set<|.ins (A.cl 1) dx [("kind",.int<|kI kd),("ground",gr),("font",fo),("functions",fn),("code",co),("whose",.int<|M4 kd)]
 refine⟨n.is,AL,(B8 rfl),?_⟩
 replace n:=n.set<|.ins (A.cl 1) dx [("kind",.int<|kI kd),("ground",gr),("font",fo),("functions",fn),("code",co),("whose",.int<|M4 kd),("place",.int 0)]
 refine⟨n.is,AL,(B8 rfl),?_⟩
 replace n:=n.set<|.ins (A.cl 1) dx [("kind",.int<|kI kd),("ground",gr),("font",fo),("functions",fn),("code",co),("whose",.int<|M4 kd),("place",.int 0),("after",.int 0)]
 refine⟨n.is,AL,(B8 rfl),?_⟩
 replace n:=n.set<|.ins (A.cl 1) dx [("kind",.int<|kI kd),("ground",gr),("font",fo),("functions",fn),("code",co),("whose",.int<|M4 kd),("place",.int 0),("after",.int 0),("byte",.int 0)]
 refine⟨n.is,AL,(B8 rfl),?_⟩
 replace n:=n.set<|.ins (A.cl 1) dx [("kind",.int<|kI kd),("ground",gr),("font",fo),("functions",fn),("code",co),("whose",.int<|M4 kd),("place",.int 0),("after",.int 0),("byte",.int 0),("done",.int 0)]
 refine⟨B7 _,fun CM hfrs=>?_⟩
 replace n:=n.under (t':= .CM) hfrs (by intro z;cases z) (.lst [])
 refine⟨n.is,AL,(B8 rfl),?_⟩
 replace n:=n.set<|.ins (A.cl 1) dx [("kind",.int<|kI kd),("ground",gr),("font",fo),("functions",fn),("code",co),("whose",.int<|M4 kd),("place",.int 0),("after",.int 0),("byte",.int 0),("done",.int 0),("frames",.ref CM)]
 refine⟨B7 _,fun C2 hstk=>?_⟩
 replace n:=n.under (t':= .C2) hstk (by intro z;cases z) (.lst [])
 refine⟨n.is,AL,(B8 rfl),?_⟩
 replace n:=n.set<|.ins (A.cl 1) dx [("kind",.int<|kI kd),("ground",gr),("font",fo),("functions",fn),("code",co),("whose",.int<|M4 kd),("place",.int 0),("after",.int 0),("byte",.int 0),("done",.int 0),("frames",.ref CM),("stack",.ref C2)]
 refine⟨n.is,AL,(B8 rfl),?_⟩
 replace n:=n.set<|.ins (A.cl 1) dx [("kind",.int<|kI kd),("ground",gr),("font",fo),("functions",fn),("code",co),("whose",.int<|M4 kd),("place",.int 0),("after",.int 0),("byte",.int 0),("done",.int 0),("frames",.ref CM),("stack",.ref C2),("projection",.ref<|A.tg 0)]
 refine⟨n.is,AL,(B8 rfl),?_⟩
 replace n:=n.set<|.ins (A.cl 1) dx [("kind",.int<|kI kd),("ground",gr),("font",fo),("functions",fn),("code",co),("whose",.int<|M4 kd),("place",.int 0),("after",.int 0),("byte",.int 0),("done",.int 0),("frames",.ref CM),("stack",.ref C2),("projection",.ref<|A.tg 0),("freedom",.ref<|A.tg 0)]
 refine⟨n.is,AL,(B8 rfl),?_⟩
 replace n:=n.set<|.ins (A.cl 1) dx [("kind",.int<|kI kd),("ground",gr),("font",fo),("functions",fn),("code",co),("whose",.int<|M4 kd),("place",.int 0),("after",.int 0),("byte",.int 0),("done",.int 0),("frames",.ref CM),("stack",.ref C2),("projection",.ref<|A.tg 0),("freedom",.ref<|A.tg 0),("old_projection",.ref<|A.tg 0)]
 refine⟨(by decide),fun refs hrefs=>?_⟩
 replace n:=n.under (t':= .refs) hrefs (by intro z;cases z) (.lst [.int 0,.int 0,.int 0])
 refine⟨n.is,AL,(B8 rfl),?_⟩
 replace n:=n.set<|.ins (A.cl 1) dx [("kind",.int<|kI kd),("ground",gr),("font",fo),("functions",fn),("code",co),("whose",.int<|M4 kd),("place",.int 0),("after",.int 0),("byte",.int 0),("done",.int 0),("frames",.ref CM),("stack",.ref C2),("projection",.ref<|A.tg 0),("freedom",.ref<|A.tg 0),("old_projection",.ref<|A.tg 0),("references",.ref refs)]
 refine⟨(show 3<=sizeLine by decide),fun Bj hptrs=>?_⟩
 replace n:=n.under (t':= .Bj) hptrs (by intro z;cases z) (.lst [.int 1,.int 1,.int 1])
 refine⟨n.is,AL,(B8 rfl),?_⟩
 replace n:=n.set<|.ins (A.cl 1) dx [("kind",.int<|kI kd),("ground",gr),("font",fo),("functions",fn),("code",co),("whose",.int<|M4 kd),("place",.int 0),("after",.int 0),("byte",.int 0),("done",.int 0),("frames",.ref CM),("stack",.ref C2),("projection",.ref<|A.tg 0),("freedom",.ref<|A.tg 0),("old_projection",.ref<|A.tg 0),("references",.ref refs),("pointers",.ref Bj)]
 refine⟨n.is,AL,(B8 rfl),?_⟩
 replace n:=n.set<|.ins (A.cl 1) dx [("kind",.int<|kI kd),("ground",gr),("font",fo),("functions",fn),("code",co),("whose",.int<|M4 kd),("place",.int 0),("after",.int 0),("byte",.int 0),("done",.int 0),("frames",.ref CM),("stack",.ref C2),("projection",.ref<|A.tg 0),("freedom",.ref<|A.tg 0),("old_projection",.ref<|A.tg 0),("references",.ref refs),("pointers",.ref Bj),("loop",.int 1)]
 refine⟨n.is,AL,(B8 rfl),?_⟩
 replace n:=n.set<|.ins (A.cl 1) dx [("kind",.int<|kI kd),("ground",gr),("font",fo),("functions",fn),("code",co),("whose",.int<|M4 kd),("place",.int 0),("after",.int 0),("byte",.int 0),("done",.int 0),("frames",.ref CM),("stack",.ref C2),("projection",.ref<|A.tg 0),("freedom",.ref<|A.tg 0),("old_projection",.ref<|A.tg 0),("references",.ref refs),("pointers",.ref Bj),("loop",.int 1),("rounding",.int 1)]
 refine⟨n.is,AL,(B8 rfl),?_⟩
 replace n:=n.set<|.ins (A.cl 1) dx [("kind",.int<|kI kd),("ground",gr),("font",fo),("functions",fn),("code",co),("whose",.int<|M4 kd),("place",.int 0),("after",.int 0),("byte",.int 0),("done",.int 0),("frames",.ref CM),("stack",.ref C2),("projection",.ref<|A.tg 0),("freedom",.ref<|A.tg 0),("old_projection",.ref<|A.tg 0),("references",.ref refs),("pointers",.ref Bj),("loop",.int 1),("rounding",.int 1),("rounding_byte",.int 0)]
 exact q CM C2 refs Bj _ n
end GF
end
section
namespace GF
open PySem L2
section
variable{K:AS}{A:B4}{H0 H H':Hp}{S S':SS}{t t':Tag}{l p a:AK}{o o' o1:HO}
structure QN where
 pp:Nat->AK
 pd:Nat->AK
 lo:Nat->AK
 ln:Nat->AK
 was:Nat->Ht.Pos
 now:Nat->Ht.Pos
 xk:Nat->Int
noncomputable def QN.put(P:QN)(n:Nat)(x dx lo ln:AK)(w a:Ht.Pos)(k:Int):QN where
 pp i:=if i=n then x else P.pp i
 pd i:=if i=n then dx else P.pd i
 lo i:=if i=n then lo else P.lo i
 ln i:=if i=n then ln else P.ln i
 was i:=if i=n then w else P.was i
 now i:=if i=n then a else P.now i
 xk i:=if i=n then k else P.xk i
noncomputable def sPt(A:B4)(z:Nat)(P:QN)(i:Nat):SS:=fun t a o=>(t= .pt z i/\a=P.pp i/\o= .ins (A.cl 3) (P.pd i) (N0 (P.lo i) (P.ln i)<|P.xk i))\/(t= .po z i/\a=P.lo i/\o= .lst (pV<|P.was i))\/(t= .pn z i/\a=P.ln i/\o= .lst (pV<|P.now i))
noncomputable def G_(A:B4)(z n:Nat)(P:QN):SS:=fun t a o=> ∃ i,i<n/\sPt A z P i t a o
noncomputable def refsOf(P:QN)(n:Nat):List V:=(BM n).map fun i=> .ref (P.pp i)
def AD3{e f a b:HO}:upd (upd (upd (upd H x e) lo a) ln b) x f=upd (upd (upd H lo a) ln b) x f:=by
 funext c
 by_cases h1:c=x
 ·subst h1;rw[AJ,AJ]
 rw[AQ h1,AQ h1]
 by_cases h2:c=ln
 ·subst h2;rw[AJ,AJ]
 rw[AQ h2,AQ h2]
 by_cases h3:c=lo
 ·subst h3;rw[AJ,AJ]
 rw[AQ h3,AQ h3,AQ h1]
def Xw{w a:Ht.Pos}:refsOf (P.put n x dx lo ln w a k) (n+1)=refsOf P n++ [.ref x]:=by
 unfold refsOf
 rw[Ha,FF]
 congr 1
 ·exact Oi fun i hi=>by
   have:i≠n:=DP<|O_.mp hi
   show V.ref (if i=n then x else P.pp i)=_
   rw[AG this]
 ·show [V.ref<|if n=n then x else P.pp n]=_
  rw[AI rfl]
def LN:(refsOf P n).length=n:=by unfold refsOf;rw[A8,CO]
def U3(h:i≠n):sPt A z (P.put n x dx lo ln w b k) i t a o=sPt A z P i t a o:=by
 unfold sPt QN.put
 simp only[AG h]
def Nw.point(h:Nw H0 H (CZ (R9 S<|G_ A z n P) (.zl z) D o))(hx:H x=none)(hd:H dx=none)(xd:dx≠x)(hl:H lo=none)(hn:H ln=none)(e1:lo≠ln)(e2:lo≠x)(e3:ln≠x)(e4:lo≠dx)(e5:ln≠dx):
  Nw H0 (upd (upd (upd (upd H dx<|.own x) lo<|.lst<|pV w) ln<|.lst<|pV b) x<|.ins (A.cl 3) dx<|N0 lo ln k) (CZ (R9 S<|G_ A z (n+1)<|P.put n x dx lo ln w b k) (.zl z) D o):=by
 have h1:=h.ZN (o:= .own x) hd
 have h2:=h1.add (t:= .po z n) (o:= .lst<|pV w) (l:=lo)<|(AQ e4).trans hl
 have h3:=h2.add (t:= .pn z n) (o:= .lst<|pV b) (l:=ln)<|(AQ e1.symm).trans<|(AQ e5).trans hn
 have h4:=h3.add (t:= .pt z n) (o:= .ins (A.cl 3) dx<|N0 lo ln k) (l:=x)<|(AQ e3.symm).trans<|(AQ e2.symm).trans<|(AQ xd.symm).trans hx
 refine h4.mono fun t a u q=>?_
 rcases q with⟨rfl,rfl,rfl⟩ |⟨ne,q |⟨i,hi,q⟩⟩
 ·exact .inl<|.inl<|.inl B0
 ·exact .inl<|.inl<|.inl<|.inr ⟨ne,.inl q⟩
 ·by_cases e:i=n
  ·subst e
   unfold sPt QN.put at q
   simp only[D8]at q
   rcases q with q | q | q
   ·exact .inr q
   ·exact .inl<|.inl<|.inr q
   ·exact .inl<|.inr q
  ·rw[U3 e]at q
   exact .inl<|.inl<|.inl<|.inr ⟨ne,.inr ⟨i,by lia,q⟩⟩
end
end GF
end
section
namespace GF
open PySem PySem.Spec PyProof.Rows L2
variable{P:BH}{w:Ap}{K:AS}{mg:Str->Option AN}{base:Ay}{A:B4}[T:Txt K mg A]
def d6{F G:Hp->Prop}(h:F H):AEM σ H (fun b H3=>if b=true then F H3 else G H3):=by
 show if true=true then F H else G H
 rw[AI rfl]
 exact h
noncomputable def zer(P:QN)(n:Nat):Prop:= ∀ i,i<n->P.was i=(0,0)/\P.now i=(0,0)/\P.xk i=0
noncomputable def P0:QN:=⟨fun _=>0,fun _=>0,fun _=>0,fun _=>0,fun _=>(0,0),fun _=>(0,0),fun _=>0⟩
inductive AEW(A:B4)(vs:List V)(H:Hp)(Q:VK)(E_:XK):Prop
 | mk: ∀ H0 S n z,vs= [.int (AD n)]->n<=64->Nw H0 H S->(∀ l P H',zer P n->Nw H0 H' (CZ (R9 S (G_ A z n P)) (.zl z) l (.lst (refsOf P n)))->Q (.ref l) H')->AEW A vs H Q E_
def Nw.begin{P:QN}(h:Nw H0 H S)(f:H D=none):Nw H0 (upd H D<|.lst []) (CZ (R9 S<|G_ A z 0 P) (.zl z) D<|.lst<|refsOf P 0):=
 (h.put f).mono fun t a o q=>by
  rcases q with q |⟨ne,q |⟨i,hi,q⟩⟩
  ·exact .inl q
  ·exact .inr ⟨ne,q⟩
  ·exact absurd hi<|HM _
def TY :O0 P w base 3 51 ["count"] (AEW A):=by
 refine T.N1.F.DL ["count","number"] fun H vs Q E hr h=>?_
 obtain⟨H0,S,n,z,rfl,hn,nw,q⟩:=h
 refine⟨_,(AF<|AY<|vJ (own:= [("number",1)]) rfl (show Iu (["count","number"]:List Str) by decide+kernel) (T3 rfl T.k.KC<|Af AH) (show NY ["count","number"] (BZ<|top 69) _ _ from K4<|by decide+kernel) (fun _ _ _ _ _=>(Fe 1)) (fun _ _ _ _ _=>RM) fun _ _ _ _ _=>(Fw T.c.b8 KZ (hr.mono<|by decide) rfl T.c.f9 T.Lm.2 .nil Gp<|CH AE AE AE)),?_⟩
 refine⟨_,rfl,(by lia),(by lia),fun D hD=>XS (fun i H'=> ∃ P,zer P i/\Nw H0 H' (CZ (R9 S<|G_ A z i P) (.zl z) D<|.lst<|refsOf P i)) ⟨P0,(fun i hi=>absurd hi<|HM _),nw.begin hD⟩ ?_ ?_⟩
 ·rintro i H3 hi ⟨P,zp,n3⟩
  refine⟨rfl,d6 ?_⟩
  intro x dx nx nd xd
  refine⟨x,dx,_,_,_,rfl,AJ,fun lo ln h1 h2 h3=>⟨rfl,?_⟩⟩
  have a1:lo≠x:=fun z=>by subst z;rw[AJ]at h1;cases h1
  have a2:ln≠x:=fun z=>by subst z;rw[AJ]at h2;cases h2
  rw[AQ a1]at h1
  rw[AQ a2]at h2
  have b1:lo≠dx:=fun z=>by subst z;rw[AJ]at h1;cases h1
  have b2:ln≠dx:=fun z=>by subst z;rw[AJ]at h2;cases h2
  rw[AQ b1]at h1
  rw[AQ b2]at h2
  have n4:=n3.point (w:=(0,0)) (b:=(0,0)) (k:=0) nx nd xd h1 h2 h3 a1 a2 b1 b2
  rw[AD3]
  refine⟨_,n4.is,(by rw[LN];exact HH hi<|Er hn<|by decide),P.put i x dx lo ln (0,0) (0,0) 0,?_,?_⟩
  ·intro j hj
   by_cases e:j=i
   ·subst e
    unfold QN.put
    simp only[D8]
    exact⟨trivial,trivial,trivial⟩
   ·unfold QN.put
    simp only[AG e]
    exact zp j<|by lia
  ·rw[Xw]
   exact(n4.set<|.lst<|refsOf P i++ [.ref x])
 ·rintro H3 ⟨P,zp,n3⟩
  exact q D P H3 zp n3
section
variable{H0 H H':Hp}{S:SS}{t:Tag}{l:AK}{o:HO}
def Nw.grow(h:Nw H0 H S)(s:Bc H H'):Nw H0 H' S:=⟨fun a o e=>s _ _<|h.same _ _ e,fun t a o z=>⟨s _ _ (h.at_ _ _ _ z).1,(h.at_ _ _ _ z).2⟩,h.one⟩
def Nw.ABS{x dx lo ln D:AK}{w b:Ht.Pos}(h:Nw H0 H (CZ (R9 S<|G_ A z n C) (.zl z) D o))(np:kJ (A.cl 3) H' x dx lo ln w b k)(hx:H x=none)(hl:H lo=none)(hn:H ln=none)(s:Bc H H'):
  Nw H0 H' (CZ (R9 S<|G_ A z (n+1)<|C.put n x dx lo ln w b k) (.zl z) D o):=by
 have h1:=h.grow s
 have e2:lo≠x:=fun z=>by have q:=np.old;rw[z,np.at_]at q;cases q
 have e3:ln≠x:=fun z=>by have q:=np.now;rw[z,np.at_]at q;cases q
 have fr: ∀ y,H y=none-> ∀ t u,¬ CZ (R9 S<|G_ A z n C) (.zl z) D o t y u:=fun y e t u z=>by rw[(h.at_ _ _ _ z).1]at e;cases e
 have key: ∀ t a u,CZ (R9 S<|G_ A z (n+1)<|C.put n x dx lo ln w b k) (.zl z) D o t a u->CZ (R9 S<|G_ A z n C) (.zl z) D o t a u\/(t= .pt z n/\a=x/\u= .ins (A.cl 3) dx (N0 lo ln k))\/(t= .po z n/\a=lo/\u= .lst (pV w))\/(t= .pn z n/\a=ln/\u= .lst (pV b)):=by
  intro t a u q
  rcases q with⟨rfl,rfl,rfl⟩ |⟨ne,q |⟨i,hi,q⟩⟩
  ·exact .inl B0
  ·exact .inl<|.inr ⟨ne,.inl q⟩
  ·by_cases e:i=n
   ·subst e
    unfold sPt QN.put at q
    simp only[D8]at q
    exact .inr q
   ·rw[U3 e]at q
    exact .inl<|.inr ⟨ne,.inr ⟨i,by lia,q⟩⟩
 refine⟨h1.same,fun t a u q=>?_,fun t t' a u u' q q'=>?_⟩
 ·rcases key t a u q with q |⟨rfl,rfl,rfl⟩ |⟨rfl,rfl,rfl⟩ |⟨rfl,rfl,rfl⟩
  ·exact h1.at_ _ _ _ q
  ·exact⟨np.at_,h.o8 hx⟩
  ·exact⟨np.old,h.o8 hl⟩
  ·exact⟨np.now,h.o8 hn⟩
 ·rcases key t a u q with y |⟨rfl,rfl,rfl⟩ |⟨rfl,rfl,rfl⟩ |⟨rfl,rfl,rfl⟩<;>rcases key t' _ u' q' with y' |⟨rfl,e,rfl⟩ |⟨rfl,e,rfl⟩ |⟨rfl,e,rfl⟩
  ·exact h.one _ _ _ _ _ y y'
  ·subst e;exact absurd y<|fr _ hx _ _
  ·subst e;exact absurd y<|fr _ hl _ _
  ·subst e;exact absurd y<|fr _ hn _ _
  ·exact absurd y'<|fr _ hx _ _
  ·rfl
  ·exact absurd e.symm e2
  ·exact absurd e.symm e3
  ·exact absurd y'<|fr _ hl _ _
  ·exact absurd e e2
  ·rfl
  ·exact absurd e np.ne
  ·exact absurd y'<|fr _ hn _ _
  ·exact absurd e e3
  ·exact absurd e.symm np.ne
  ·rfl
noncomputable def az(A:B4)(H:Hp)(C:QN)(n:Nat):Prop:= ∀ i,i<n->kJ (A.cl 3) H (C.pp i) (C.pd i) (C.lo i) (C.ln i) (C.was i) (C.now i) (C.xk i)
noncomputable def alike(C B:QN)(n:Nat):Prop:= ∀ i,i<n->C.was i=B.was i/\C.now i=B.now i/\C.xk i=B.xk i
def kJ.mono{p dx lo ln:AK}{w b:Int×Int}(h:kJ C H p dx lo ln w b k)(s:Bc H H'):kJ C H' p dx lo ln w b k:=⟨s _ _ h.at_,s _ _ h.old,s _ _ h.now,h.ne⟩
inductive nV(A:B4)(vs:List V)(H:Hp)(Q:VK)(E_:XK):Prop
 | mk: ∀ H0 S n z B a,vs= [.ref a]->n<=64->Nw H0 H S->H0 a=some (.lst (refsOf B n))->az A H0 B n->(∀ l C H',alike C B n->Nw H0 H' (CZ (R9 S (G_ A z n C)) (.zl z) l (.lst (refsOf C n)))->Q (.ref l) H')->nV A vs H Q E_
theorem qY(h:(refsOf C n)[i]?=some x):i<n/\x= .ref (C.pp i):=by
 unfold refsOf at h
 rw[CY]at h
 cases e:(BM n)[i]? with
 | none=>rw[e]at h;cases h
 | some j=>
  rw[e]at h
  have hi:=(IZ.mp e)
  obtain⟨hl,hj⟩:=hi
  rw[o9]at hj
  subst hj
  rw[CO]at hl
  exact⟨hl,(C_ h).symm⟩
def xM :O0 P w base 4 52 ["zone"] (nV A):=by
 refine T.AAb.F.DL ["zone","point"] fun H vs Q E hr h=>?_
 obtain⟨H0,S,n,z,B,a,rfl,hn,nw,ha,hb,q⟩:=h
 refine⟨_,(AF<|AY<|vJ (own:= [("point",1)]) rfl (show Iu (["zone","point"]:List Str) by decide+kernel) (Gd AH) (show NY ["zone","point"] (BZ<|top 70) _ _ from K4<|by decide+kernel) (fun _ _ _ _ _=>(Fe 1)) (fun _ _ _ _ _=>RM) fun _ _ _ _ _=>(BI AV ZK T.Xl)),?_⟩
 refine⟨⟨_,BF.of<|nw.same _ _ ha⟩,fun D hD=>?_⟩
 refine nE (xs:=refsOf B n) (fun i H'=> ∃ C,alike C B i/\Nw H0 H' (CZ (R9 S<|G_ A z i C) (.zl z) D<|.lst<|refsOf C i)) ⟨P0,(fun i hi=>absurd hi<|HM _),nw.begin hD⟩ (fun i H' _ ⟨C,_,n3⟩=>BF.of<|n3.same _ _ ha) ?_ ?_
 ·rintro i x H3 hx ⟨C,al,n3⟩
  obtain⟨hi,rfl⟩:=qY hx
  have hp:=(hb i hi).mono n3.same
  refine⟨rfl,d6<|⟨hp.at_,rfl,_,_,_,_,_,_,_,rfl,hp,?_⟩⟩
  rintro p' H4 ⟨dx,lo,ln,np,h1,h2,h3,s4⟩
  have n4:=n3.ABS np h1 h2 h3 s4
  refine⟨_,n4.is,(by rw[LN];exact HH hi<|Er hn<|by decide),C.put i p' dx lo ln (B.was i) (B.now i)<|B.xk i,?_,?_⟩
  ·intro j hj
   by_cases e:j=i
   ·subst e
    unfold QN.put
    simp only[D8]
    exact⟨trivial,trivial,trivial⟩
   ·unfold QN.put
    simp only[AG e]
    exact al j<|by lia
  ·rw[Xw]
   exact(n4.set<|.lst<|refsOf C i++ [.ref p'])
 ·rintro H3 ⟨C,al,n3⟩
  rw[LN]at al n3
  exact q D C H3 al n3
end
noncomputable def sGr(A:B4)(S:SS)(gr dg:AK)(u d:V)(cl kk tw ol en kp dk:AK):SS:=CZ (CZ (R9 (R9 S<|YN (.zl 1) ol<|.lst [])<|YN .rest en<|.lst []) .kp kp<|.ins (A.cl 5) dk<|S3 Ht.usual) .gr gr (.ins (A.cl 6) dg<|grV u d cl kk tw ol en kp 0 0)
inductive ADe(A:B4)(vs:List V)(H:Hp)(Q:VK)(E_:XK):Prop
 | mk: ∀ H0 S u d nc np kk,vs= [u,d,.int (AD nc),.ref kk,.int (AD np)]->nc<=64->np<=64->Nw H0 H S->(∀ cl tw C gr dg ol en kp dk H',zer C np->Nw H0 H' (sGr A (CZ (R9 (CZ S .cells cl (.lst (iV (Ed nc 0)))) (G_ A 0 np C)) (.zl 0) tw (.lst (refsOf C np))) gr dg u d cl kk tw ol en kp dk)->Q (.ref gr) H')->ADe A vs H Q E_
def r6:(iV<|Ed i 0).length=i:=by unfold iV;rw[A8,Im]
def kP:iV (Ed (i+1) 0)=iV (Ed i 0)++ [.int 0]:=by unfold iV;rw[List.replicate_succ',FF];rfl
def ZI :O0 P w base 5 174 ["units","dots","cell_count","controls","point_count"] (ADe A):=by
 refine T.Xf.F.DL ["units","dots","cell_count","controls","point_count","cells","number"] fun H vs Q E hr h=>?_
 obtain⟨H0,S,u,d,nc,np,kk,rfl,hc,hnp,nw,q⟩:=h
 refine⟨_,(AB (XU (i:=5) (own:= [("number",6)]) rfl (show Iu (["units","dots","cell_count","controls","point_count","cells","number"]:List Str) by decide+kernel) rfl rfl (fz rfl rfl rfl<|by decide+kernel) (T3 rfl T.k.KC<|Af Aj) (show NY ["units","dots","cell_count","controls","point_count","cells","number"] (BZ<|top 207) _ _ from K4<|by decide+kernel) (fun _ _ _ _ _=>(Fe 6)) (fun _ _ _ _ _=>RM) fun _ _ _ _ _=>AE)<|AF<|AY<|Fw T.c.iQ Ng (hr.mono<|by decide) rfl T.c.iF T.Nk.2 .nil Gp<|Cs AH<|RQ AV ET A6<|Ah TY T.N1<|Af CG),?_⟩
 refine⟨_,rfl,(by lia),(by lia),fun D hD=>XS (fun i H'=>Nw H0 H'<|CZ S .cells D<|.lst<|iV<|Ed i 0) (nw.put hD) ?_ ?_⟩
 ·rintro i H3 hi n3
  refine⟨rfl,d6<|⟨_,n3.is,(by rw[r6];exact HH hi<|Er hc<|by decide),?_⟩⟩
  rw[kP]
  exact n3.set _
 ·intro H3 n3
  refine⟨H0,_,np,0,rfl,hnp,n3,fun tw C H4 zc n4=>?_⟩
  intro x dx hx hdx ne
  exact⟨H0,_,.zl 1,x,dx,u,d,D,kk,tw,rfl,(by intro z;cases z),((n4.ZN hdx).put ((AQ ne.symm).trans hx)),fun ol en kp dk H5 n5=>⟨rfl,q D tw C x dx ol en kp dk H5 zc n5⟩⟩
structure xN(A:B4)(H:Hp)(sz dz:AK)(u d:V)(cl kk tw ol en kp dk:AK)(st pl:Int)(xs ys:List V)(B:QN)(n:Nat)(x:Ht.Kept):Prop where
 at_:H sz=some (.ins (A.cl 6) dz (grV u d cl kk tw ol en kp st pl))
 cells:H cl=some (.lst xs)
 Cq:H kk=some (.lst ys)
 tw:H tw=some (.lst (refsOf B n))
 ym:az A H B n
 kp:H kp=some (.ins (A.cl 5) dk (S3 x))
noncomputable def sGs(A:B4)(S:SS)(gr dg:AK)(u d:V)(cl kk tw:AK)(ol en:V)(kp dk:AK)(x:Ht.Kept)(xs ys:List V)(C:QN)(n:Nat)(ol1 en1:AK):SS:=
 CZ (CZ (R9 (R9 (CZ (R9 (CZ (CZ S .cells cl<|.lst xs) .Cq kk<|.lst ys)<|G_ A 0 n C) (.zl 0) tw<|.lst<|refsOf C n)<|YN .rest ol1<|.lst [])<|YN .rest en1<|.lst []) .kp kp<|.ins (A.cl 5) dk<|S3 x)
  .gr gr (.ins (A.cl 6) dg [("units",u),("dots",d),("cells",.ref cl),("controls",.ref kk),("twilight",.ref tw),("outline",ol),("ends",en),("kept",.ref kp),("still",.int 0),("plain",.int 0)])
inductive ADt(A:B4)(vs:List V)(H:Hp)(Q:VK)(E_:XK):Prop
 | mk: ∀ H0 S sz dz u d cl kk tw ol0 en0 kp0 dk0 st pl xs ys B n x ol en,vs= [.ref sz,ol,en]->n<=64->xs.length<=64->ys.length<=64->xN A H0 sz dz u d cl kk tw ol0 en0 kp0 dk0 st pl xs ys B n x->Nw H0 H S->(∀ cl' kk' tw' C gr dg kp dk ol1 en1 H',alike C B n->Nw H0 H' (sGs A S gr dg u d cl' kk' tw' ol en kp dk (if pl=0 then x else Ht.usual) xs ys C n ol1 en1)->Q (.ref gr) H')->ADt A vs H Q E_
def Pk :O0 P w base 5 175 ["size","outline","ends"] (ADt A):=by
 refine T.LK.F.DL ["size","outline","ends","ground"] fun H vs Q E hr h=>?_
 obtain⟨H0,S,sz,dz,u,d,cl,kk,tw,ol0,en0,kp0,dk0,st,pl,xs,ys,B,n,x,ol,en,rfl,hn,hx,hy,hz,nw,q⟩:=h
 refine⟨_,(AB (AO 3<|Fw T.c.iQ Ng (hr.mono<|by decide) rfl T.c.iF T.Nk.2 .nil Gp<|Cs (AR AH)<|RQ (AR AH) (K0 GN rfl T.k.Y6 SH<|Af<|AR AH) (K0 GN rfl T.k.Y6 SH<|Af<|AR AH)<|Ah xM T.AAb<|Af<|AR AH)<|AB (BC A6 AV)<|AB (BC A6 Aj)<|AB (Aq (A0 BD (AR AH) AE) (AF<|BC A6<|BI (AR AH) dS T.aa) AX)<|AF<|AY A6),nw.same _ _ hz.at_,AW,rfl,nw.same _ _ hz.at_,AW,rfl,nw.same _ _ hz.at_,AW,rfl,_,_,rfl,.inl<|BF.of<|nw.same _ _ hz.cells,fun l1 h1=>?_⟩
 have n1:=nw.put (t:= .cells) (o:= .lst xs) h1
 refine⟨n1.same _ _ hz.at_,AW,rfl,_,_,rfl,.inl<|BF.of<|n1.same _ _ hz.Cq,fun l2 h2=>?_⟩
 have n2:=n1.put (t:= .Cq) (o:= .lst ys) h2
 refine⟨n2.same _ _ hz.at_,AW,rfl,H0,_,n,0,B,tw,rfl,hn,n2,hz.tw,hz.ym,fun tw' C H4 al n4=>?_⟩
 intro p dp hp hdp ne
 refine⟨H0,_,.rest,p,dp,u,d,l1,l2,tw',rfl,(by intro z;cases z),((n4.ZN hdp).put ((AQ ne.symm).trans hp)),fun ol1 en1 kp dk H5 n5=>⟨rfl,n5.is,AW,(B8 rfl),?_⟩⟩
 replace n5:=n5.set<|.ins (A.cl 6) dp [("units",u),("dots",d),("cells",.ref l1),("controls",.ref l2),("twilight",.ref tw'),("outline",ol),("ends",.ref en1),("kept",.ref kp),("still",.int 0),("plain",.int 0)]
 refine⟨n5.is,AW,(B8 rfl),?_⟩
 replace n5:=n5.set<|.ins (A.cl 6) dp [("units",u),("dots",d),("cells",.ref l1),("controls",.ref l2),("twilight",.ref tw'),("outline",ol),("ends",en),("kept",.ref kp),("still",.int 0),("plain",.int 0)]
 refine⟨n5.same _ _ hz.at_,AW,rfl,rfl,A7 (fun e=>?_) fun e=>?_⟩
 ·have e0:=V.int.inj (An e)
  refine⟨n5.same _ _ hz.at_,AW,rfl,n5.same _ _ hz.kp,rfl,_,_,x,rfl,n5.same _ _ hz.kp,fun k2 d2 hk2 hd2 ne2=>?_⟩
  have n6:=(n5.ZN (o:= .own k2) hd2).under (t':= .kp) (l:=k2) ((AQ ne2.symm).trans hk2) (by intro z;cases z) (.ins (A.cl 5) d2 (S3 x))
  refine⟨n6.is,AW,(B8 rfl),?_⟩
  refine q l1 l2 tw' C p dp k2 d2 ol1 en1 _ al ?_
  rw[AI e0]
  exact(n6.set<|.ins (A.cl 6) dp [("units",u),("dots",d),("cells",.ref l1),("controls",.ref l2),("twilight",.ref tw'),("outline",ol),("ends",en),("kept",.ref k2),("still",.int 0),("plain",.int 0)]).mono fun t a u z=>z.elim .inl fun z=> .inr ⟨z.1,z.2.elim .inl fun y=> .inr ⟨y.1,.inr ⟨y.1,y.2⟩⟩⟩
 ·have e0:pl≠0:=fun z=>e (Av<|by rw[z])
  refine q l1 l2 tw' C p dp kp dk ol1 en1 _ al ?_
  rw[AG e0]
  exact n5
noncomputable def qN(a:AK)(p:Nat):List (Str×V):= [("numbers",.ref a),("place",.int<|AD p)]
inductive AEk(C:AK)(vs:List V)(H:Hp)(Q:VK)(E_:XK):Prop
 | mk: ∀ p dx a,vs= [.ref p,.ref a]->H p=some (.ins C dx [])->Q .non (upd H p (.ins C dx (qN a 0)))->AEk C vs H Q E_
inductive uX(K:AS)(C:AK)(vs:List V)(H:Hp)(Q:VK)(E_:XK):Prop
 | mk: ∀ p dx a i xs,vs= [.ref p]->H p=some (.ins C dx (qN a i))->BF K H a xs->Q (.bl (decide (i<xs.length))) H->uX K C vs H Q E_
inductive ABp(K:AS)(C:AK)(vs:List V)(H:Hp)(Q:VK)(E_:XK):Prop
 | mk: ∀ p dx a i xs x,vs= [.ref p]->H p=some (.ins C dx (qN a i))->BF K (upd H p (.ins C dx (qN a (i+1)))) a xs->xs[i]?=some x->Q x (upd H p (.ins C dx (qN a (i+1))))->ABp K C vs H Q E_
def ZV :O0 P w base 1 176 ["self","numbers"] (AEk<|A.cl 7):=by
 refine T.YF.1.DL ["self","numbers"] fun H vs Q E hr h=>?_
 obtain⟨p,dx,a,rfl,hp,q⟩:=h
 refine⟨_,(AB (BC AH AV)<|AF<|BC AH AE),hp,Ee,(B8 rfl),AJ,Ee,(B8 rfl),?_⟩
 rw[Bk]
 exact q
def ZD :O0 P w base 1 177 ["self"] (uX K<|A.cl 7):=by
 refine T.Y1.F.DL ["self"] fun H vs Q E hr h=>?_
 obtain⟨p,dx,a,i,xs,rfl,hp,hs,q⟩:=h
 refine⟨_,(AF<|AY<|IG Dq (AR AH)<|Dc T.k.CD<|Af<|AR AH),hp,Ee,rfl,hp,Ee,rfl,.inl hs,?_⟩
 have e:decide (AD i<(xs.length:Int))=decide (i<xs.length):=p_.mpr BQ
 show Q (.bl<|decide (AD i<(xs.length:Int))) H
 rw[e]
 exact q
def As :O0 P w base 1 178 ["self"] (ABp K<|A.cl 7):=by
 refine T.A3.F.DL ["self"] fun H vs Q E hr h=>?_
 obtain⟨p,dx,a,i,xs,x,rfl,hp,hs,hx,q⟩:=h
 refine⟨_,(AB (O7 AH AE k8)<|AF<|AY<|A9 Ab (AR AH)<|AU B3 (AR AH) AE),hp,Ee,rfl,_,_,rfl,rfl,hp,(B8 rfl),?_⟩
 have e:AD i+1-1=AD i:=by lia
 have hx':Wz xs (AD i+1-1)=some x:=by rw[e];exact En hx
 exact⟨AJ,Ee,rfl,AJ,Ee,rfl,hs,hx',q⟩
inductive AB7(K:AS)(C:AK)(vs:List V)(H:Hp)(Q:VK)(E_:XK):Prop
 | mk: ∀ p dx a i n xs,vs= [.ref p]->H p=some (.ins C dx (qN a i))->(∀ o,BF K (upd H p o) a xs)->xs[i]?=some (.int (AD n))->i+1+n<=xs.length->(∀ l,(upd H p (.ins C dx (qN a (i+1+n)))) l=none->Q (.ref l) (upd (upd H p (.ins C dx (qN a (i+1+n)))) l (.lst ((xs.drop (i+1)).take n))))->AB7 K C vs H Q E_
def C5 :O0 P w base 2 179 ["self"] (AB7 K<|A.cl 7):=by
 refine T.DN.F.DL ["self","length"] fun H vs Q E hr h=>?_
 obtain⟨p,dx,a,i,n,xs,rfl,hp,hs,hx,hl,q⟩:=h
 refine⟨_,(AB (AO 1<|BI AH As T.A3)<|AB (O7 AH AV k8)<|AF<|AY<|jT qV (AR AH) (Wf<|AU B3 (AR AH) AV)<|Wf<|AR AH),hp,rfl,p,dx,a,i,xs,_,rfl,hp,hs _,hx,AJ,Ee,rfl,_,_,rfl,rfl,AJ,(B8 rfl),?_⟩
 rw[Bk]
 refine⟨AJ,Ee,rfl,AJ,Ee,rfl,_,rfl,AJ,Ee,rfl,_,rfl,_,_,rfl,hs _,fun l hl2=>?_⟩
 have e:bW xs (some<|AD (i+1)+AD n-AD n) (some<|AD (i+1)+AD n)=(xs.drop<|i+1).take n:=by
  rw[show AD (i+1)+AD n-AD n=((i+1:Nat):Int) by show(((i+1:Nat):Int)+(n:Int)- (n:Int))=_;lia,show AD (i+1)+AD n=((i+1+n:Nat):Int) by show(((i+1:Nat):Int)+(n:Int))=_;lia]
  unfold bW
  rw[HT.Wx,HT.Wx,WV hl,WV<|by lia,show i+1+n- (i+1)=n by lia]
 rw[e]
 exact q l hl2
noncomputable def W_(u t c:Nat)(tc fo fu:AK)(sz sh:V):List (Str×V):= [("units",.int<|AD u),("point_count",.int<|AD t),("cell_count",.int<|AD c),("told_controls",.ref tc),("font",.ref fo),("functions",.ref fu),("size",sz),("shape",sh)]
inductive ADx(A:B4)(vs:List V)(H:Hp)(Q:VK)(E_:XK):Prop
 | mk: ∀ H0 S p dx,vs= [.ref p]->Nw H0 H (CZ S .run p (.ins (A.cl 8) dx []))->(∀ tc fo fu H',Nw H0 H' (CZ (R9 (R9 (R9 S (YN .rest tc (.lst []))) (YN .rest fo (.lst []))) (YN .rest fu (.dK []))) .run p (.ins (A.cl 8) dx (W_ 16 0 0 tc fo fu .non .non)))->Q .non H')->ADx A vs H Q E_
inductive AEc(C:AK)(vs:List V)(H:Hp)(Q:VK)(E_:XK):Prop
 | mk: ∀ p dx u t c tc fo fu sz sh,vs= [.ref p]->H p=some (.ins C dx (W_ u t c tc fo fu sz sh))->Q .non (upd H p (.ins C dx (W_ u t c tc fo fu .non .non)))->AEc C vs H Q E_
def JO :O0 P w base 1 181 ["machine"] (AEc<|A.cl 8):=by
 refine T.Jl.F.DL ["machine"] fun H vs Q E hr h=>?_
 obtain⟨p,dx,u,t,c,tc,fo,fu,sz,sh,rfl,hp,q⟩:=h
 refine⟨_,(AB (BC AH XN)<|AF<|BC AH XN),hp,Ao,(B8 rfl),AJ,Ao,(B8 rfl),?_⟩
 rw[Bk]
 exact q
def Vm :O0 P w base 1 180 ["self"] (ADx A):=by
 refine T.SY.1.DL ["self"] fun H vs Q E hr h=>?_
 obtain⟨H0,S,p,dx,rfl,n,q⟩:=h
 refine⟨_,(AB (BC AH AE)<|AB (BC AH AE)<|AB (BC AH AE)<|AB (BC AH<|Ba Ez)<|AB (BC AH<|Ba Ez)<|AB (BC AH Xb)<|AB (BC AH XN)<|AF<|BC AH XN),?_⟩
 refine⟨n.is,Ao,(B8 rfl),?_⟩
 replace n:=n.set<|.ins (A.cl 8) dx [("units",.int 16)]
 refine⟨n.is,Ao,(B8 rfl),?_⟩
 replace n:=n.set<|.ins (A.cl 8) dx [("units",.int 16),("point_count",.int 0)]
 refine⟨n.is,Ao,(B8 rfl),?_⟩
 replace n:=n.set<|.ins (A.cl 8) dx [("units",.int 16),("point_count",.int 0),("cell_count",.int 0)]
 refine⟨B7 _,fun tc htc=>?_⟩
 replace n:=n.Ys (t':= .rest) htc (by intro z;cases z) (.lst [])
 refine⟨n.is,Ao,(B8 rfl),?_⟩
 replace n:=n.set<|.ins (A.cl 8) dx [("units",.int 16),("point_count",.int 0),("cell_count",.int 0),("told_controls",.ref tc)]
 refine⟨B7 _,fun fo hfo=>?_⟩
 replace n:=n.Ys (t':= .rest) hfo (by intro z;cases z) (.lst [])
 refine⟨n.is,Ao,(B8 rfl),?_⟩
 replace n:=n.set<|.ins (A.cl 8) dx [("units",.int 16),("point_count",.int 0),("cell_count",.int 0),("told_controls",.ref tc),("font",.ref fo)]
 refine fun fu hfu=>?_
 replace n:=n.Ys (t':= .rest) hfu (by intro z;cases z) (.dK [])
 refine⟨n.is,Ao,(B8 rfl),?_⟩
 replace n:=n.set<|.ins (A.cl 8) dx [("units",.int 16),("point_count",.int 0),("cell_count",.int 0),("told_controls",.ref tc),("font",.ref fo),("functions",.ref fu)]
 refine⟨n.is,Ao,(B8 rfl),?_⟩
 replace n:=n.set<|.ins (A.cl 8) dx [("units",.int 16),("point_count",.int 0),("cell_count",.int 0),("told_controls",.ref tc),("font",.ref fo),("functions",.ref fu),("size",.non)]
 refine⟨n.is,Ao,(B8 rfl),?_⟩
 replace n:=n.set<|.ins (A.cl 8) dx [("units",.int 16),("point_count",.int 0),("cell_count",.int 0),("told_controls",.ref tc),("font",.ref fo),("functions",.ref fu),("size",.non),("shape",.non)]
 exact q tc fo fu _ n
end GF
end
section
namespace GF
open PySem L2
section
variable{K:AS}{A:B4}{H H':Hp}{dd mo md ca cd a l:AK}{o od:HO}{xs:List Int}{i n:Nat}{f:D7}
noncomputable def wo(mo ca dd:AK)(H:Hp):Hp:=fun b=>if b=mo\/b=ca\/b=dd then none else H b
def jO(h:wo mo ca dd H a=some o):H a=some o/\a≠mo/\a≠ca/\a≠dd:=by
 unfold wo at h
 split at h
 ·cases h
 ·rename_i n
  exact⟨h,fun z=>n<|.inl z,fun z=>n<|.inr<|.inl z,fun z=>n<|.inr<|.inr z⟩
def X3(h:H a=some o)(n1:a≠mo)(n2:a≠ca)(n3:a≠dd):wo mo ca dd H a=some o:=by
 unfold wo
 rw[AG fun z=>z.elim n1 fun z=>z.elim n2 n3]
 exact h
def CT:Bc (wo mo ca dd H) H:=fun _ _ h=>(jO h).1
def kX(e:l=mo\/l=ca\/l=dd):wo mo ca dd (upd H l o)=wo mo ca dd H:=by
 funext b
 unfold wo
 by_cases h:b=mo\/b=ca\/b=dd
 ·rw[AI h,AI h]
 ·rw[AG h,AG h,AQ fun z=>by subst z;exact h e]
def AFj:wo mo ca dd (upd H mo o)=wo mo ca dd H:=kX (.inl rfl)
def sC:wo mo ca dd (upd H ca o)=wo mo ca dd H:=kX (.inr<|.inl rfl)
def AED:wo mo ca dd (upd H dd o)=wo mo ca dd H:=kX (.inr<|.inr rfl)
def DC(s:Bc H H'):Bc (wo mo ca dd H) (wo mo ca dd H'):=fun b o h=>by
 obtain⟨h1,n1,n2,n3⟩:=jO h
 exact X3 (s _ _ h1) n1 n2 n3
def K8{xs:List V}(s:Bc H H')(h:BF K H a xs):BF K H' a xs:=by
 rcases h with(h |⟨o,h⟩) | h
 ·exact .inl<|.inl<|s _ _ h
 ·exact .inl<|.inr ⟨o,s _ _ h⟩
 ·exact .inr h
noncomputable def t8(B:QN)(z:Ht.Zone):Prop:= ∀ i,i<z.size->B.was i=z.was i/\B.now i=z.at_ i/\B.xk i=AD (z.mark i)
structure uD(A:B4)(H:Hp)(a:AK)(B:QN)(z:Ht.Zone):Prop where
 at_:H a=some (.lst (refsOf B z.size))
 ym:az A H B z.size
 t7:t8 B z
 ZA:z.size<=64
structure gH(k:Ht.Kept):Prop where
 least:FN k.least
 cutin:FN k.cutin
 width:FN k.width
 wO:FN k.widthcut
 base:k.base<65536
 shift:k.shift<=6
def YM:gH Ht.usual:=⟨⟨by decide,by decide⟩,⟨by decide,by decide⟩,⟨by decide,by decide⟩,⟨by decide,by decide⟩,by decide,by decide⟩
structure gJ(A:B4)(H:Hp)(f:D7)(s:eG)(sz:V):Prop where
 ex: ∃ a dz cl kk tw ol en kp dk B,sz= .ref a/\xN A H a dz (.int (AD f.units)) (.int (AD s.dots)) cl kk tw ol en kp dk (bI s.still) (bI s.plain) (iV s.cells) (iV s.values) B s.zone0.size s.kept/\t8 B s.zone0
 dots:s.dots<=1000
 cells: ∀ x∈s.cells,FN x
 nc:s.cells.length=f.cells
 vals: ∀ x∈s.values,FN x
 nv:s.values.length=f.values.length
 z:LH s.zone0
 n0:s.zone0.size=f.twilight
 kept:gH s.kept
structure MF(A:B4)(H:Hp)(f:D7)(tc fo fu:AK)(sz sh:V):Prop where
 tc:H tc=some (.lst (iV f.values))
 fo:H fo=some (.lst (Tb f.font))
 fu: ∃ BU,H fu=some (.dK BU)/\Zh BU f.funs
 fin: ∀ x∈f.funs,x.2<=f.font.length
 IV:f.font.length<=2048
 Gn:f.values.length<=64
 vals: ∀ x∈f.values,-32768<=x/\x<=32767
 units:16<=f.units/\f.units<=16384
 tw:f.twilight<=16
 cl:f.cells<=64
 size:(f.size=none/\sz= .non)\/ ∃ s,f.size=some s/\gJ A H f s sz
 shape:(f.shape=none/\sh= .non)\/ ∃ x t a b B C,f.shape=some x/\sh= .ref t/\H t=some (.tup [.ref a,.ref b])/\uD A H a B x.1/\uD A H b C x.2
def az.mono(h:az A H B n)(s:Bc H H'):az A H' B n:=fun i hi=>(h i hi).mono s
def uD.mono(h:uD A H a B z)(s:Bc H H'):uD A H' a B z:=⟨s _ _ h.at_,h.ym.mono s,h.t7,h.ZA⟩
def xN.mono{cl kk tw ol en kp dk:AK}{xs ys:List V}(h:xN A H sz dz u d cl kk tw ol en kp dk st pl xs ys B n x)(s:Bc H H'):
  xN A H' sz dz u d cl kk tw ol en kp dk st pl xs ys B n x:=⟨s _ _ h.at_,s _ _ h.cells,s _ _ h.Cq,s _ _ h.tw,h.ym.mono s,s _ _ h.kp⟩
def gJ.mono(h:gJ A H f s sz)(e:Bc H H'):gJ A H' f s sz:=by
 obtain⟨a,dz,cl,kk,tw,ol,en,kp,dk,B,q1,q2,q3⟩:=h.ex
 exact{h with ex:=⟨a,dz,cl,kk,tw,ol,en,kp,dk,B,q1,q2.mono e,q3⟩}
def MF.mono{tc fo fu:AK}(h:MF A H f tc fo fu sz sh)(e:Bc H H'):MF A H' f tc fo fu sz sh:=by
 obtain⟨BU,k1,k2⟩:=h.fu
 exact{h with tc:=e _ _ h.tc,fo:=e _ _ h.fo,fu:=⟨BU,e _ _ k1,k2⟩,size:=(h.size.imp_right fun⟨s,q1,q2⟩=>⟨s,q1,q2.mono e⟩),shape:=(h.shape.imp_right fun⟨x,t,a,b,B,C,q1,q2,q3,q4,q5⟩=>⟨x,t,a,b,B,C,q1,q2,e _ _ q3,q4.mono e,q5.mono e⟩)}
structure MS(K:AS)(A:B4)(H:Hp)(dd:AK)(od:HO)(mo md ca cd a:AK)(xs:List Int)(i:Nat)(f:D7)(tc fo fu:AK)(sz sh:V):Prop where
 hm:H mo=some (.ins (A.cl 8) md (W_ f.units f.twilight f.cells tc fo fu sz sh))
 mf:MF A (wo mo ca dd H) f tc fo fu sz sh
 hc:H ca=some (.ins (A.cl 7) cd (qN a i))
 hl:BF K (wo mo ca dd H) a (iV xs)
 hd:H dd=some od
 nm:mo≠dd
 nc:ca≠dd
section
variable{tc fo fu:AK}{sz sh:V}
def MS.ne(h:MS K A H dd od mo md ca cd a xs i f tc fo fu sz sh):mo≠ca:=aW h.hm h.hc (by intro z;injection z with _ _ e;exact absurd (BO XB e) (by decide: ¬(8:Nat)=2))
def MS.place(h:MS K A H dd od mo md ca cd a xs i f tc fo fu sz sh)(j:Nat):MS K A (upd H ca<|.ins (A.cl 7) cd<|qN a j) dd od mo md ca cd a xs j f tc fo fu sz sh:=
 ⟨(AQ h.ne).trans h.hm,by rw[sC];exact h.mf,AJ,by rw[sC];exact h.hl,(AQ h.nc.symm).trans h.hd,h.nm,h.nc⟩
def MS.apart(h:MS K A H dd od mo md ca cd a xs i f tc fo fu sz sh)(e:H l=none):l≠mo/\l≠ca/\l≠dd:=⟨(Ac h.hm e).symm,(Ac h.hc e).symm,(Ac h.hd e).symm⟩
def Bw(e:H l=none):Bc H (upd H l o):=fun b u z=>by rw[AQ<|Ac z e];exact z
def MS.grow(h:MS K A H dd od mo md ca cd a xs i f tc fo fu sz sh)(s:Bc H H'):MS K A H' dd od mo md ca cd a xs i f tc fo fu sz sh:=
 ⟨s _ _ h.hm,h.mf.mono<|DC s,s _ _ h.hc,K8 (DC s) h.hl,s _ _ h.hd,h.nm,h.nc⟩
def MS.new(h:MS K A H dd od mo md ca cd a xs i f tc fo fu sz sh)(e:H l=none):MS K A (upd H l o) dd od mo md ca cd a xs i f tc fo fu sz sh:=h.grow (Bw e)
def MS.cU(h:MS K A H dd od mo md ca cd a xs i f tc fo fu sz sh)(e:H l=none):wo mo ca dd (upd H l o) l=some o:=X3 AJ (h.apart e).1 (h.apart e).2.1 (h.apart e).2.2
def Xp(e:xs[i]?=some x):(iV xs)[i]?=some (.int x):=by unfold iV;rw[CY,e];rfl
def D6:(iV xs).length=xs.length:=A8 ..
def MS.rn(h:MS K A H dd od mo md ca cd a xs i f tc fo fu sz sh)(e:xs[i]?=some x)(q: ∀ H',MS K A H' dd od mo md ca cd a xs (i+1) f tc fo fu sz sh->wo mo ca dd H'=wo mo ca dd H->Q (.int x) H'):Ua σ H fun vs H2=>ABp K (A.cl 7) (V.ref ca::(vs++ [])) H2 Q E:=
 ⟨ca,cd,a,i,iV xs,.int x,rfl,h.hc,K8 (fun b o z=>(jO<|by rw[sC];exact z).1) h.hl,Xp e,q _ (h.place _) sC⟩
def MS.rr(h:MS K A H dd od mo md ca cd a xs i f tc fo fu sz sh)(e:xs[i]?=some (AD m))(le:i+1+m<=xs.length)
  (q: ∀ l H',MS K A H' dd od mo md ca cd a xs (i+1+m) f tc fo fu sz sh->Bc (wo mo ca dd H) (wo mo ca dd H')->wo mo ca dd H' l=some (.lst<|iV<|(xs.drop<|i+1).take m)->wo mo ca dd H l=none->Q (.ref l) H'):Ua σ H fun vs H2=>AB7 K (A.cl 7) (V.ref ca::(vs++ [])) H2 Q E:=by
 refine⟨ca,cd,a,i,m,iV xs,rfl,h.hc,fun o=>K8 (fun b o z=>(jO<|by rw[sC];exact z).1) h.hl,Xp e,by rw[D6];exact le,fun l hl=>?_⟩
 have h1:=h.place<|i+1+m
 have e1:(List.drop (i+1)<|iV xs).take m=iV ((xs.drop<|i+1).take m):=by unfold iV;rw[qA,oE]
 rw[e1]
 refine q l _ (h1.new hl) ?_ (h1.cU hl) ?_
 ·have s:=DC (mo:=mo) (ca:=ca) (dd:=dd) (Bw (o:= .lst<|iV<|(xs.drop<|i+1).take m) hl)
  rw[sC]at s
  exact s
 ·unfold wo
  split
  ·rfl
  ·rename_i n
   rw[AQ fun z=>n<|.inr<|.inl z]at hl
   exact hl
end
theorem ACz(h:dH r=some (x,s)): ∃ m t,r=AD m::t/\m<=t.length/\x=t.take m/\s=t.drop m:=by
 cases r with
 | nil=>cases h
 | cons k t=>
  have h:(if 0<=k/\k.toNat<=t.length then some (t.take k.toNat,t.drop k.toNat)else none)=some (x,s):=h
  by_cases c:0<=k/\k.toNat<=t.length
  ·rw[AI c]at h
   cases h
   exact⟨k.toNat,t,by rw[show AD k.toNat=k from Lv c.1],c.2,rfl,rfl⟩
  ·rw[AG c]at h
   cases h
def E5(h:Sa (k+1) r=some (ys,t)): ∃ x s zs,dH r=some (x,s)/\Sa k s=some (zs,t)/\ys=x::zs:=by
 unfold Sa at h
 split at h
 ·cases h
 ·rename_i x s e
  split at h
  ·cases h
  ·rename_i zs u e2
   cases h
   exact⟨x,s,zs,e,e2,rfl⟩
def call_of(hs:EN p=some (m,k))(h:MJ EN (p::r)=some (c,t)):m<=r.length/\ ∃ ys,Sa k (r.drop m)=some (ys,t)/\c=(p::r.take m)::ys:=by
 simp only[MJ,hs]at h
 split at h
 ·cases h
 ·rename_i n
  refine⟨by lia,?_⟩
  split at h
  ·cases h
  ·rename_i ys u e
   cases h
   exact⟨ys,e,rfl⟩
def UE(h:dH (xs.drop i)=some (x,s)): ∃ m,xs[i]?=some (AD m)/\i+1+m<=xs.length/\x=(xs.drop<|i+1).take m/\s=xs.drop (i+1+m):=by
 obtain⟨m,t,e,le,rfl,rfl⟩:=ACz h
 have h0:(xs.drop i)[0]?=some (AD m):=by rw[e];rfl
 rw[V7]at h0
 have h1:xs.drop (i+1)=t:=by rw[<-FJ,e];rfl
 have h2:t.length=xs.length- (i+1):=by rw[<-h1,Gs]
 have h3:=(IZ.mp h0).1
 refine⟨m,h0,by lia,by rw[h1],by rw[<-FJ,h1]⟩
theorem jZ{l:List Int}(h:1<=l.length)(a0:l[0]?=some x):l.take 1= [x]:=by
 match l,h with
 | y::r,_=>cases a0;rfl
theorem h8{l:List Int}(h:2<=l.length)(a0:l[0]?=some x)(a1:l[1]?=some y):l.take 2= [x,y]:=by
 match l,h with
 | _::_::r,_=>cases a0;cases a1;rfl
theorem iD{l:List Int}(h:3<=l.length)(a0:l[0]?=some x)(a1:l[1]?=some y)(a2:l[2]?=some z):l.take 3= [x,y,z]:=by
 match l,h with
 | _::_::_::r,_=>cases a0;cases a1;cases a2;rfl
theorem vU{l:List Int}(h:4<=l.length)(a0:l[0]?=some x)(a1:l[1]?=some y)(a2:l[2]?=some z)(a3:l[3]?=some u):l.take 4= [x,y,z,u]:=by
 match l,h with
 | _::_::_::_::r,_=>cases a0;cases a1;cases a2;cases a3;rfl
def Ey(h:i<xs.length): ∃ x,xs[i]?=some x:=⟨xs[i],CS h⟩
def IS:(xs.drop i)[j]?=xs[i+j]?:=V7 ..
noncomputable abbrev gD(f:D7)(c:List (List Int)):=Lu f c
noncomputable def Done(K:AS)(A:B4)(dd:AK)(od:HO)(mo md ca cd a:AK)(xs:List Int)(i:Nat)(f:D7)(c:List (List Int))(t:List Int)(H:Hp)(Q:VK):Prop:=
 ∀ l H' j tc' fo' fu' sz' sh',Bc (wo mo ca dd H) (wo mo ca dd H')->MS K A H' dd od mo md ca cd a xs j (gD f c).1 tc' fo' fu' sz' sh'->i<=j->j<=xs.length->xs.drop j=t->wo mo ca dd H' l=some (.lst<|iV (gD f c).2)->wo mo ca dd H l=none->(gD f c).2.length<=200->Q (.ref l) H'
inductive GP(K:AS)(A:B4)(p:Int)(vs:List V)(H:Hp)(Q:VK)(E_:XK):Prop
 | mk: ∀ dd od mo md ca cd a xs i f tc fo fu sz sh c t,vs= [.ref mo,.ref ca]->MS K A H dd od mo md ca cd a xs i f tc fo fu sz sh->i<=xs.length->MJ EN (p::xs.drop i)=some (c,t)->dm c=true->Done K A dd od mo md ca cd a xs i f c t H Q->GP K A p vs H Q E_
def Done.fin(q:Done K A dd od mo md ca cd a xs i f c t H Q)(h3:MS K A H3 dd od mo md ca cd a xs j g tc' fo' fu' sz' sh')(s:Bc (wo mo ca dd H) (wo mo ca dd H3))(hl:H3 l=none)(e:gD f c=(g,ys))
  (ij:i<=j) (jl:j<=xs.length) (ed:xs.drop j=t) (n:ys.length<=200):Q (.ref l) (upd H3 l<|.lst<|iV ys):=by
 refine q l _ j tc' fo' fu' sz' sh' (s.trans<|DC<|Bw hl) (by rw[e];exact h3.new hl) ij jl ed (by rw[e];exact h3.cU hl) ?_<|by rw[e];exact n
 refine s.free ?_
 unfold wo
 split
 ·rfl
 ·exact hl
def JR{c:List (List Int)}(hx:Ip c=some x)(b:Cz f x=true):gD f c=(f,[-1]):=by
 unfold gD Lu
 rw[hx]
 show((Bh f x).1,b_ (Bh f x).2)=_
 unfold Bh
 rw[AI b]
 rfl
def C4{c:List (List Int)}(hx:Ip c=some x)(e:Bh f x=y):gD f c=(y.1,b_ y.2):=by
 unfold gD Lu
 rw[hx]
 show((Bh f x).1,b_ (Bh f x).2)=_
 rw[e]
def xc(h:c7 z=true): ∃ n,z=AD n/\n<=4294967295:=by
 unfold c7 at h
 exact⟨z.toNat,(Lv<|An (PF.mp h).1).symm,by lia⟩
def Cu{a b:Bool}(h:(a&&b)=true):a=true/\b=true:=PF.mp h
structure ML(K:AS)(A:B4)(H:Hp)(dd:AK)(od:HO)(mo md ca cd a:AK)(xs:List Int)(i:Nat)(fl:List (Str×V))(W:Hp):Prop where
 hm:H mo=some (.ins (A.cl 8) md fl)
 hc:H ca=some (.ins (A.cl 7) cd (qN a i))
 hl:BF K W a (iV xs)
 w:wo mo ca dd H=W
 ne:mo≠ca
 hd:H dd=some od
 nm:mo≠dd
 nc:ca≠dd
section
variable{tc fo fu:AK}{sz sh:V}{fl:List (Str×V)}{W:Hp}
def MS.ml(h:MS K A H dd od mo md ca cd a xs i f tc fo fu sz sh):ML K A H dd od mo md ca cd a xs i (W_ f.units f.twilight f.cells tc fo fu sz sh) (wo mo ca dd H):=⟨h.hm,h.hc,h.hl,rfl,h.ne,h.hd,h.nm,h.nc⟩
def ML.set(h:ML K A H dd od mo md ca cd a xs i fl W)(fl':List (Str×V)):ML K A (upd H mo<|.ins (A.cl 8) md fl') dd od mo md ca cd a xs i fl' W:=
 ⟨AJ,(AQ h.ne.symm).trans h.hc,h.hl,by rw[AFj];exact h.w,h.ne,(AQ h.nm.symm).trans h.hd,h.nm,h.nc⟩
def ML.apart(h:ML K A H dd od mo md ca cd a xs i fl W)(e:H l=none):l≠mo/\l≠ca/\l≠dd:=⟨(Ac h.hm e).symm,(Ac h.hc e).symm,(Ac h.hd e).symm⟩
def ML.free(h:ML K A H dd od mo md ca cd a xs i fl W)(e:H l=none):W l=none:=by
 rw[<-h.w]
 unfold wo
 split
 ·rfl
 ·exact e
def ML.new(h:ML K A H dd od mo md ca cd a xs i fl W)(e:H l=none):ML K A (upd H l o) dd od mo md ca cd a xs i fl (upd W l o):=by
 have n:=h.apart e
 refine⟨(AQ n.1.symm).trans h.hm,(AQ n.2.1.symm).trans h.hc,K8 (Bw<|h.free e) h.hl,?_,h.ne,(AQ n.2.2.symm).trans h.hd,h.nm,h.nc⟩
 funext b
 by_cases hb:b=l
 ·subst hb
  rw[AJ]
  exact X3 AJ n.1 n.2.1 n.2.2
 ·rw[AQ hb,<-h.w]
  unfold wo
  rw[AQ hb]
def ML.ms(h:ML K A H dd od mo md ca cd a xs i (W_ f.units f.twilight f.cells tc fo fu sz sh) W)(m:MF A W f tc fo fu sz sh):MS K A H dd od mo md ca cd a xs i f tc fo fu sz sh:=
 ⟨h.hm,by rw[h.w];exact m,h.hc,by rw[h.w];exact h.hl,h.hd,h.nm,h.nc⟩
end
end
end GF
end
section
namespace GF
open PySem PySem.Spec PyProof.Rows L2
variable{P:BH}{w:Ap}{K:AS}{mg:Str->Option AN}{base:Ay}{A:B4}[T:Txt K mg A]
section
variable{H H':Hp}{mo md ca cd a l:AK}{o:HO}{xs:List Int}{i n:Nat}{f:D7}
def NM:Cz f (.init u t c)=(decide (u<16)||(decide (16384<u)||(decide (16<t)||decide (64<c)))):=rfl
def jR{a b:Bool}(h:a=true):(a||b)=true:=by rw[h];rfl
def Qc{a b:Bool}(h:b=true):(a||b)=true:=by rw[h];exact cC a
def rO(b:Cz f (.init u t c)=false):Bh f (.init u t c)=(⟨u,t,c,[],[],[],none,none⟩,PU):=by
 unfold Bh
 rw[AG<|by rw[b];decide]
def aZ(h:Bc W X)(e:Y=X):Bc W Y:=by rw[e];exact h
def jg:Zh [] []:=⟨B7 _,List.nodup_nil,fun _ h=>absurd h<|Ia,fun _=>rfl⟩
def fc :O0 P w base 2 182 ["machine","calls"] (GP K A 0):=by
 refine T.Tt.F.DL ["machine","calls","units","point_count","cell_count"] fun H vs Q E hr h=>?_
 obtain⟨dd,od,mo,md,ca,cd,a,xs,i,f,tc,fo,fu,sz,sh,c,t,rfl,h,hi,hcall,hask,q⟩:=h
 refine⟨_,(AB (AO 2<|BI AV As T.A3)<|AB (AO 3<|BI AV As T.A3)<|AB (AO 4<|BI AV As T.A3)<|AB (Aq (PW.pt<|Fy (A0 Dq Aj AE)<|Fy (A0 DE Aj AE)<|Fy (A0 DE A6 AE)<|GL<|A0 DE CG AE) (AF<|AY<|Ba<|Af<|Bt T.k.DA) AX)<|AB (BC AH Aj)<|AB (BC AH A6)<|AB (BC AH CG)<|AB (BC AH<|Ba Ez)<|AB (BC AH<|Ba Ez)<|AB (BC AH Xb)<|AB (Ad<|Ah JO T.Jl<|Af AH)<|AF<|AY<|Ba<|Af<|Bt T.k.Jb),?_⟩
 obtain⟨hl,ys,er,rfl⟩:=call_of rfl hcall
 cases (er)
 have hl2:i+3<=xs.length:=by rw[Gs]at hl;lia
 obtain⟨x0,e0⟩:=Ey (xs:=xs) (i:=i+0)<|by lia
 obtain⟨x1,e1⟩:=Ey (xs:=xs) (i:=i+1)<|by lia
 obtain⟨x2,e2⟩:=Ey (xs:=xs) (i:=i+2)<|by lia
 rw[iD hl (IS.trans e0) (IS.trans e1)<|IS.trans e2]at hask q
 have ed:xs.drop (i+3)=(xs.drop i).drop 3:=by rw[FJ]
 have ha:=hask
 obtain⟨u,rfl,_⟩:=xc (Cu ha).1
 obtain⟨tn,rfl,_⟩:=xc (Cu (Cu ha).2).1
 obtain⟨cn,rfl,_⟩:=xc (Cu (Cu ha).2).2
 have hx:Ip [[0,AD u,AD tn,AD cn]]=some (.init u tn cn):=rfl
 refine⟨h.hc,rfl,h.rn e0 fun H1 h1 w1=>⟨h1.hc,rfl,h1.rn e1 fun H2 h2 w2=>⟨h2.hc,rfl,h2.rn e2 fun H3 h3 w3=>?_⟩⟩⟩
 have sm:Bc (wo mo ca dd H) (wo mo ca dd H3):=by rw[w3,w2,w1];exact Bc.refl _
 have bad:Cz f (.init u tn cn)=true-> ∀ l,H3 l=none->Q (.ref l) (upd H3 l<|.lst [.int<|-1]):=fun b l hl=>q.fin h3 sm hl (JR hx b) (by lia) hl2 ed<|by decide
 refine A7 (fun b1=>⟨(show 1<=sizeLine by decide),fun l hl=>bad (by rw[NM];exact jR<|Av<|BQ.mp<|An b1) l hl⟩) fun b1=>?_
 refine A7 (fun b2=>⟨(show 1<=sizeLine by decide),fun l hl=>bad (by rw[NM];exact Qc<|jR<|Av<|BQ.mp<|An b2) l hl⟩) fun b2=>?_
 refine A7 (fun b3=>⟨(show 1<=sizeLine by decide),fun l hl=>bad (by rw[NM];exact Qc<|Qc<|jR<|Av<|BQ.mp<|An b3) l hl⟩) fun b3=>?_
 refine A7 (fun b4=>⟨(show 1<=sizeLine by decide),fun l hl=>bad (by rw[NM];exact Qc<|Qc<|Qc<|Av<|BQ.mp<|An b4) l hl⟩) fun b4=>?_
 have c1: ¬ u<16:=fun z=>b1<|Av<|BQ.mpr z
 have c2: ¬ 16384<u:=fun z=>b2<|Av<|BQ.mpr z
 have c3: ¬ 16<tn:=fun z=>b3<|Av<|BQ.mpr z
 have c4: ¬ 64<cn:=fun z=>b4<|Av<|BQ.mpr z
 have good:Cz f (.init u tn cn)=false:=by rw[NM,D4 c1,D4 c2,D4 c3,D4 c4];rfl
 have k:=h3.ml
 refine⟨k.hm,Ao,(B8 rfl),?_⟩
 replace k:=k.set<|W_ u f.twilight f.cells tc fo fu sz sh
 refine⟨k.hm,Ao,(B8 rfl),?_⟩
 replace k:=k.set<|W_ u tn f.cells tc fo fu sz sh
 refine⟨k.hm,Ao,(B8 rfl),?_⟩
 replace k:=k.set<|W_ u tn cn tc fo fu sz sh
 refine⟨B7 _,fun l1 nl1=>?_⟩
 have sl1:=Bw (o:= .lst [])<|k.free nl1
 replace k:=k.new (o:= .lst []) nl1
 refine⟨k.hm,Ao,(B8 rfl),?_⟩
 replace k:=k.set<|W_ u tn cn l1 fo fu sz sh
 refine⟨B7 _,fun l2 nl2=>?_⟩
 have sl2:=Bw (o:= .lst [])<|k.free nl2
 replace k:=k.new (o:= .lst []) nl2
 refine⟨k.hm,Ao,(B8 rfl),?_⟩
 replace k:=k.set<|W_ u tn cn l1 l2 fu sz sh
 refine fun l3 nl3=>?_
 have sl3:=Bw (o:= .dK [])<|k.free nl3
 replace k:=k.new (o:= .dK []) nl3
 refine⟨k.hm,Ao,(B8 rfl),?_⟩
 replace k:=k.set<|W_ u tn cn l1 l2 l3 sz sh
 refine⟨mo,md,_,_,_,_,_,_,_,_,rfl,k.hm,?_⟩
 replace k:=k.set<|W_ u tn cn l1 l2 l3 .non .non
 refine⟨(show 1<=sizeLine by decide),fun l hl=>?_⟩
 exact q.fin (ys:= [0]) (g:=⟨u,tn,cn,[],[],[],none,none⟩) (k.ms (f:=⟨u,tn,cn,[],[],[],none,none⟩) ⟨sl3 _ _<|sl2 _ _ AJ,sl3 _ _ AJ,⟨[],AJ,jg⟩,(fun _ z=>absurd z<|Ia),B7 _,B7 _,(fun _ z=>absurd z<|Ia),⟨by show 16<=u;lia,by show u<=16384;lia⟩,(by show tn<=16;lia),(by show cn<=64;lia),.inl ⟨rfl,rfl⟩,.inl ⟨rfl,rfl⟩⟩) (aZ (sm.trans<|sl1.trans<|sl2.trans sl3) k.w) hl (C4 hx<|rO good) (by lia) hl2 ed<|by decide
def ir(b: ¬ 64<v.length):Bh f (.values v)=({f with values:=v,size:=none,shape:=none},PU):=by
 unfold Bh
 rw[AG<|by intro z;exact b<|An z]
def all_range{v:List Int}{lo hi:Int}(h:v.all (fun z=>decide (lo<=z)&&decide (z<=hi))=true): ∀ x∈v,lo<=x/\x<=hi:=fun x hx=>by
 have q:=Cu<|F7.mp h x hx
 exact⟨An q.1,An q.2⟩
def Yq :O0 P w base 3 183 ["machine","calls"] (GP K A 1):=by
 refine T.N8.F.DL ["machine","calls","row"] fun H vs Q E hr h=>?_
 obtain⟨dd,od,mo,md,ca,cd,a,xs,i,f,tc,fo,fu,sz,sh,c,t,rfl,h,hi,hcall,hask,q⟩:=h
 refine⟨_,(AB (AO 2<|BI AV C5 T.DN)<|AB (Aq (A0 DE (Dc T.k.CD<|Af Aj) AE) (AF<|AY<|Ba<|Af<|Bt T.k.DA) AX)<|AB (BC AH Aj)<|AB (Ad<|Ah JO T.Jl<|Af AH)<|AF<|AY<|Ba<|Af<|Bt T.k.Jb),?_⟩
 obtain⟨hl,ys,er,rfl⟩:=call_of rfl hcall
 rw[G0]at er
 obtain⟨r0,t0,zs0,er0,es0,rfl⟩:=E5 er
 obtain⟨m0,em0,le0,rfl,rfl⟩:=UE er0
 cases (es0)
 have hx:Ip [[1],(xs.drop<|i+1).take m0]=some (.values<|(xs.drop<|i+1).take m0):=rfl
 refine⟨h.hc,rfl,h.rr em0 le0 fun l1 H1 h1 s1 r1 f1=>⟨.inl<|BF.of<|CT _ _ r1,?_⟩⟩
 rw[D6]
 refine A7 (fun b1=>⟨(show 1<=sizeLine by decide),fun l2 hl2=>q.fin (ys:= [-1]) h1 s1 hl2 (JR hx<|Av<|BQ.mp<|An b1) (by lia) le0 rfl<|by decide⟩) fun b1=>?_
 have c1: ¬ 64<((xs.drop<|i+1).take m0).length:=fun z=>b1<|Av<|BQ.mpr z
 have k:=h1.ml
 refine⟨k.hm,Ao,(B8 rfl),?_⟩
 replace k:=k.set<|W_ f.units f.twilight f.cells l1 fo fu sz sh
 refine⟨mo,md,_,_,_,_,_,_,_,_,rfl,k.hm,?_⟩
 replace k:=k.set<|W_ f.units f.twilight f.cells l1 fo fu .non .non
 refine⟨(by decide),fun l hl=>?_⟩
 have mf:=h1.mf
 exact q.fin (ys:= [0]) (g:={f with values:=(xs.drop<|i+1).take m0,size:=none,shape:=none}) (k.ms (f:={f with values:=(xs.drop<|i+1).take m0,size:=none,shape:=none}) ⟨r1,mf.fo,mf.fu,mf.fin,mf.IV,Ej c1,all_range<|hask,mf.units,mf.tw,mf.cl,.inl ⟨rfl,rfl⟩,.inl ⟨rfl,rfl⟩⟩) (aZ s1 k.w) hl (C4 hx<|ir c1) (by lia) le0 rfl<|by decide
end
section
variable{H H':Hp}{mo md ca cd a l:AK}{o:HO}{xs:List Int}{i n:Nat}{f:D7}
def oZ(h1: -32768<=v)(h2:v<=32767):Ht.half v=v:=by unfold Ht.half;lia
def rg{z lo hi:Int}(h:(decide (lo<=z)&&decide (z<=hi))=true):lo<=z/\z<=hi:=⟨An (Cu h).1,An (Cu h).2⟩
def gS{w b:Nat}(h:7<w)(d:Int):Ht.rounded w b d=Ht.rounded 5 b d:=by
 have e: ∀ x,Ht.roundedSize w b x=Ht.roundedSize 5 b x:=fun x=>by
  unfold Ht.roundedSize
  rw[AG<|by lia,AG<|by lia,AG<|by lia,AG<|by lia,AG<|by lia,AG<|by lia]
  rfl
 unfold Ht.rounded
 rw[e,e]
def sN:Bh f (.unit x y)=(f,.numbers [(Ht.unit (x,y)).1,(Ht.unit (x,y)).2]):=by unfold Bh;rw[AG<|by intro z;cases z]
def TB:Bh f (.rounded h b d)=(f,.numbers [Ht.rounded h (b%256) d]):=by unfold Bh;rw[AG<|by intro z;cases z]
def j1(r0: -32768<=x0/\x0<=32767)(r1: -32768<=x1/\x1<=32767):Bh f (.along x0 x1 x2 x3)=(f,.numbers [Ht.along (x0,x1) (x2,x3)]):=by
 unfold Bh
 rw[AG<|by intro z;cases z]
 simp only[oZ r0.1 r0.2,oZ r1.1 r1.2]
def cJ :O0 P w base 4 195 ["machine","calls"] (GP K A 8):=by
 refine T.UY.F.DL ["machine","calls","x","y"] fun H vs Q E hr h=>?_
 obtain⟨dd,od,mo,md,ca,cd,a,xs,i,f,tc,fo,fu,sz,sh,c,t,rfl,h,hi,hcall,hask,q⟩:=h
 refine⟨_,(AB (AO 2<|BI AV As T.A3)<|AB (AO 3<|BI AV As T.A3)<|AF<|AY<|AU Tx (Ba<|Af<|Bt T.k.Jb)<|K0 GN rfl T.k.Y6 SH<|Af<|Ah R5 T.unit<|Ax Aj A6),?_⟩
 obtain⟨hl,ys,er,rfl⟩:=call_of rfl hcall
 cases (er)
 have hl2:i+2<=xs.length:=by rw[Gs]at hl;lia
 obtain⟨x0,e0⟩:=Ey (xs:=xs) (i:=i+0)<|by lia
 obtain⟨x1,e1⟩:=Ey (xs:=xs) (i:=i+1)<|by lia
 rw[h8 hl (IS.trans e0)<|IS.trans e1]at hask q
 have ed:xs.drop (i+2)=(xs.drop i).drop 2:=by rw[FJ]
 refine⟨h.hc,rfl,h.rn e0 fun H1 h1 w1=>⟨h1.hc,rfl,h1.rn e1 fun H2 h2 w2=>?_⟩⟩
 have sm:Bc (wo mo ca dd H) (wo mo ca dd H2):=by rw[w2,w1];exact Bc.refl _
 have ha:=Cu hask
 refine⟨(by decide),fun l1 n1=>?_⟩
 have s1:=Bw (o:= .lst [.int 0]) n1
 refine⟨x0,x1,rfl,⟨by lia,by lia⟩,fun l2 n2=>?_⟩
 have s2:=Bw (o:= .tup [.int (Ht.unit (x0,x1)).1,.int (Ht.unit (x0,x1)).2]) n2
 refine⟨_,_,rfl,.inr<|Dh.of AJ,fun l3 n3=>?_⟩
 have s3:=Bw (o:= .lst [.int (Ht.unit (x0,x1)).1,.int (Ht.unit (x0,x1)).2]) n3
 refine⟨_,_,_,_,rfl,rfl,s3 _ _<|s2 _ _ AJ,AJ,(show 3<=sizeLine by decide),fun l4 n4=>?_⟩
 exact q.fin (ys:= [0,(Ht.unit (x0,x1)).1,(Ht.unit (x0,x1)).2]) (h2.grow<|s1.trans<|s2.trans s3) (sm.trans<|DC<|s1.trans<|s2.trans s3) n4 (C4 (x:= .unit x0 x1) rfl sN) (by lia) hl2 ed<|show 3<=200 by decide
def Vb :O0 P w base 5 196 ["machine","calls"] (GP K A 9):=by
 refine T.L9.F.DL ["machine","calls","how","byte","number"] fun H vs Q E hr h=>?_
 obtain⟨dd,od,mo,md,ca,cd,a,xs,i,f,tc,fo,fu,sz,sh,c,t,rfl,h,hi,hcall,hask,q⟩:=h
 refine⟨_,(AB (AO 2<|BI AV As T.A3)<|AB (AO 3<|AU Dz (BI AV As T.A3) AE)<|AB (AO 4<|BI AV As T.A3)<|AF<|AY<|Ba<|Ax (Bt T.k.Jb)<|Ah Y4 T.rounded<|CH (Bm (A0 DE Aj<|Bt T.k.LB) (Bt T.k.AA_) Aj) A6 CG),?_⟩
 obtain⟨hl,ys,er,rfl⟩:=call_of rfl hcall
 cases (er)
 have hl2:i+3<=xs.length:=by rw[Gs]at hl;lia
 obtain⟨x0,e0⟩:=Ey (xs:=xs) (i:=i+0)<|by lia
 obtain⟨x1,e1⟩:=Ey (xs:=xs) (i:=i+1)<|by lia
 obtain⟨x2,e2⟩:=Ey (xs:=xs) (i:=i+2)<|by lia
 rw[iD hl (IS.trans e0) (IS.trans e1)<|IS.trans e2]at hask q
 have ed:xs.drop (i+3)=(xs.drop i).drop 3:=by rw[FJ]
 have ha:=Cu hask
 obtain⟨hw,rfl,_⟩:=xc ha.1
 obtain⟨by_,rfl,_⟩:=xc (Cu ha.2).1
 have eb:AD by_%256=AD (by_%256):=rfl
 refine⟨h.hc,rfl,h.rn e0 fun H1 h1 w1=>⟨h1.hc,rfl,h1.rn e1 fun H2 h2 w2=>⟨(by show(0:Int)<256;decide),h2.hc,rfl,h2.rn e2 fun H3 h3 w3=>?_⟩⟩⟩
 have sm:Bc (wo mo ca dd H) (wo mo ca dd H3):=by rw[w3,w2,w1];exact Bc.refl _
 refine A7 (fun b1=>?_) fun b1=>?_
 ·have c1:=BQ.mp (An b1)
  refine⟨_,_,_,rfl,trivial,(show 2<=sizeLine by decide),fun l4 n4=>?_⟩
  rw[eb,show Tz 5 (AD<|by_%256) x2=Ht.rounded 5 (by_%256) x2 from Yr 5 _ (by decide) x2,<-gS c1]
  exact q.fin (ys:= [0,Ht.rounded hw (by_%256) x2]) h3 sm n4 (C4 (x:= .rounded hw by_ x2) rfl TB) (by lia) hl2 ed<|show 2<=200 by decide
 ·have c1: ¬ 7<hw:=fun z=>b1 (Av<|BQ.mpr z)
  refine⟨_,_,_,rfl,trivial,(show 2<=sizeLine by decide),fun l4 n4=>?_⟩
  rw[eb,Yr hw _ (by lia) x2]
  exact q.fin (ys:= [0,Ht.rounded hw (by_%256) x2]) h3 sm n4 (C4 (x:= .rounded hw by_ x2) rfl TB) (by lia) hl2 ed<|show 2<=200 by decide
def Zo :O0 P w base 3 197 ["machine","calls"] (GP K A 10):=by
 refine T.Qn.F.DL ["machine","calls","vector_x","vector_y","x","y"] fun H vs Q E hr h=>?_
 obtain⟨dd,od,mo,md,ca,cd,a,xs,i,f,tc,fo,fu,sz,sh,c,t,rfl,h,hi,hcall,hask,q⟩:=h
 refine⟨_,(AB (AO 2<|BI AV As T.A3)<|AB (AO 3<|BI AV As T.A3)<|AB (AO 4<|BI AV As T.A3)<|AB (AO 5<|BI AV As T.A3)<|AF<|AY<|Ba<|Ax (Bt T.k.Jb)<|Ah Kx T.along<|CH (JK<|Ax Aj A6) CG ET),?_⟩
 obtain⟨hl,ys,er,rfl⟩:=call_of rfl hcall
 cases (er)
 have hl2:i+4<=xs.length:=by rw[Gs]at hl;lia
 obtain⟨x0,e0⟩:=Ey (xs:=xs) (i:=i+0)<|by lia
 obtain⟨x1,e1⟩:=Ey (xs:=xs) (i:=i+1)<|by lia
 obtain⟨x2,e2⟩:=Ey (xs:=xs) (i:=i+2)<|by lia
 obtain⟨x3,e3⟩:=Ey (xs:=xs) (i:=i+3)<|by lia
 rw[vU hl (IS.trans e0) (IS.trans e1) (IS.trans e2)<|IS.trans e3]at hask q
 have ed:xs.drop (i+4)=(xs.drop i).drop 4:=by rw[FJ]
 refine⟨h.hc,rfl,h.rn e0 fun H1 h1 w1=>⟨h1.hc,rfl,h1.rn e1 fun H2 h2 w2=>⟨h2.hc,rfl,h2.rn e2 fun H3 h3 w3=>⟨h3.hc,rfl,h3.rn e3 fun H4 h4 w4=>?_⟩⟩⟩⟩
 have sm:Bc (wo mo ca dd H) (wo mo ca dd H4):=by rw[w4,w3,w2,w1];exact Bc.refl _
 have ha:=Cu (Cu (Cu<|hask).1).1
 refine⟨(show 2<=sizeLine by decide),fun l1 n1=>?_⟩
 have s1:=Bw (o:= .tup [.int x0,.int x1]) n1
 refine⟨l1,x0,x1,x2,x3,rfl,Dh.of AJ,⟨by unfold Small;lia,by unfold Small;lia⟩,(show 2<=sizeLine by decide),fun l4 n4=>?_⟩
 exact q.fin (ys:= [0,Ht.along (x0,x1) (x2,x3)]) (h4.grow s1) (sm.trans<|DC s1) n4 (C4 (x:= .along x0 x1 x2 x3) rfl<|j1 (rg ha.1)<|rg ha.2) (by lia) hl2 ed<|show 2<=200 by decide
def iz(e:f.size=none):Bh f .state=(f,V9<|-2):=by unfold Bh;rw[AG<|by intro z;cases z];simp only[e]
def gu(e:f.size=some s):Bh f .state=(f,.numbers<|Wrhint.keptNums s):=by unfold Bh;rw[AG<|by intro z;cases z];simp only[e]
def Zl :O0 P w base 1 194 ["machine","calls"] (GP K A 7):=by
 refine T.RD.F.DL ["machine","calls","size","kept","seven"] @fun _ _ _ s H vs Q E hr h=>?_
 obtain⟨dd,od,mo,md,ca,cd,a,xs,i,f,tc,fo,fu,sz,sh,c,t,rfl,h,hi,hcall,hask,q⟩:=h
 refine⟨_,(AB (AO 2<|AR AH)<|AB (Aq (KW<|Kg Aj) (AF<|AY<|Ba<|Af<|Bt T.k.F_) AX)<|AB (AO 3<|AR Aj)<|AB (AO 4<|Ba<|Cs (AR A6)<|Cs (AR A6)<|Cs (AR A6)<|RQ (AR A6) (AR A6) (AR A6)<|AR A6)<|AF<|AY<|AU Tx (AU Tx (Ba<|Af<|Bt T.k.Jb) CG)<|Ba<|CH (AR Aj) (AR Aj)<|AR Aj),?_⟩
 obtain⟨hl,ys,er,rfl⟩:=call_of rfl hcall
 cases (er)
 have hl2:i+0<=xs.length:=by rw[Gs]at hl;lia
 have ed:xs.drop (i+0)=(xs.drop i).drop 0:=by rw[FJ]
 have sm:Bc (wo mo ca dd H) (wo mo ca dd H):=Bc.refl _
 refine⟨h.hm,Ao,rfl,?_⟩
 rcases h.mf.size with⟨e0,rfl⟩ |⟨s,e0,ok⟩
 ·refine ?_
  exact⟨(show 1<=sizeLine by decide),fun l1 n1=>q.fin (ys:= [-2]) h sm n1 (C4 rfl<|iz e0) (by lia) hi ed<|by decide⟩
 obtain⟨za,dz,cl,kk,tw,ol,en,kp,dk,B,rfl,hz,zi⟩:=ok.ex
 have hz0:=hz.mono CT
 refine⟨hz0.at_,AW,rfl,?_⟩
 refine⟨hz0.kp,BG,YE,hz0.kp,BG,K3,hz0.kp,BG,OR,hz0.kp,BG,IF,hz0.kp,BG,Kc,hz0.kp,BG,GS,hz0.kp,BG,WG,(show 7<=sizeLine by decide),fun l1 n1=>?_⟩
 have s1:=Bw (o:= .lst [.int s.kept.least,.int s.kept.cutin,.int s.kept.width,.int s.kept.widthcut,.int<|AD s.kept.base,.int<|AD s.kept.shift,.int<|bI s.kept.flip]) n1
 refine⟨(by decide),fun l2 n2=>?_⟩
 have s2:=Bw (o:= .lst [.int 0]) n2
 refine⟨_,_,_,_,rfl,rfl,AJ,s2 _ _ AJ,(show 8<=sizeLine by decide),fun l3 n3=>?_⟩
 have s3:=Bw (o:= .lst [.int 0,.int s.kept.least,.int s.kept.cutin,.int s.kept.width,.int s.kept.widthcut,.int<|AD s.kept.base,.int<|AD s.kept.shift,.int<|bI s.kept.flip]) n3
 have hz3:=hz0.mono<|s1.trans<|s2.trans s3
 refine⟨hz3.at_,AW,rfl,hz3.at_,AW,rfl,hz3.at_,AW,rfl,(show 3<=sizeLine by decide),fun l4 n4=>?_⟩
 have s4:=Bw (o:= .lst [.int<|bI s.still,.int<|bI s.plain,.int<|AD s.dots]) n4
 refine⟨_,_,_,_,rfl,rfl,s4 _ _ AJ,AJ,(show 11<=sizeLine by decide),fun l5 n5=>?_⟩
 have sa:=s1.trans<|s2.trans<|s3.trans s4
 exact q.fin (h.grow sa) (sm.trans<|DC sa) n5 (C4 rfl<|gu e0) (by lia) hi ed<|by show 11<=200;decide
end
section
variable{H H':Hp}{mo md ca cd a l:AK}{o:HO}{xs:List Int}{i n:Nat}{f:D7}
noncomputable def U_(f:D7)(w:Nat):Nat:=if w=0 then f.cells else if w=1 then f.values.length else f.twilight
inductive ADo(A:B4)(vs:List V)(H:Hp)(Q:VK)(E_:XK):Prop
 | mk: ∀ mo md tc fo fu sz sh f w,vs= [.ref mo,.int (AD w)]->H mo=some (.ins (A.cl 8) md (W_ f.units f.twilight f.cells tc fo fu sz sh))->H tc=some (.lst (iV f.values))->Q (.int (AD (U_ f w))) H->ADo A vs H Q E_
inductive ADh(A:B4)(vs:List V)(H:Hp)(Q:VK)(E_:XK):Prop
 | mk: ∀ f s z w n,vs= [.ref z,.int (AD w),.int (AD n)]->gJ A H f s (.ref z)->w<=3->n<U_ f w->Q (.int (eE s w n)) H->ADh A vs H Q E_
def getD_at{l:List Int}(h:n<l.length):l[n]?=some (l.getD n 0):=by
 rw[Cc,CS h]
 rfl
def we(h:i<n):(refsOf C n)[i]?=some (.ref<|C.pp i):=by
 unfold refsOf
 rw[CY,Gr h]
 rfl
def n8{w i:Nat}:Cz f (.get w i)=true↔3<w\/U_ f w<=i:=by
 show(if w=0 then decide (f.cells<=i)else if w=1 then decide (f.values.length<=i)else if w<=3 then decide (f.twilight<=i)else true)=true↔_
 unfold U_
 by_cases h0:w=0
 ·rw[AI h0,AI h0,WT]
  exact⟨.inr,fun z=>z.elim (fun z=>by lia) id⟩
 rw[AG h0,AG h0]
 by_cases h1:w=1
 ·rw[AI h1,AI h1,WT]
  exact⟨.inr,fun z=>z.elim (fun z=>by lia) id⟩
 rw[AG h1,AG h1]
 by_cases h3:w<=3
 ·rw[AI h3,WT]
  exact⟨.inr,fun z=>z.elim (fun z=>by lia) id⟩
 ·rw[AG h3]
  exact⟨fun _=> .inl<|by lia,fun _=>rfl⟩
def sO{w i:Nat}(b: ¬ Cz f (.get w i)=true)(e:f.size=none):Bh f (.get w i)=(f,V9<|-2):=by unfold Bh;rw[AG b];simp only[e]
def r8{w i:Nat}(b: ¬ Cz f (.get w i)=true)(e:f.size=some s):Bh f (.get w i)=(f,.numbers [eE s w i]):=by unfold Bh;rw[AG b];simp only[e]
def VR :O0 P w base 1 191 ["machine","what"] (ADo A):=by
 refine T.SW.F.DL ["machine","what"] fun H vs Q E hr h=>?_
 obtain⟨mo,md,tc,fo,fu,sz,sh,f,w,rfl,hm,ht,q⟩:=h
 refine⟨_,(AB (Aq (A0 BD AV<|Bt T.k.mi) (AF<|AY<|AR AH) AX)<|AB (Aq (A0 BD AV<|Bt T.k.X8) (AF<|AY<|Dc T.k.CD<|Af<|AR AH) AX)<|AF<|AY<|AR AH),rfl,A7 (fun b0=>?_) fun b0=>?_⟩
 ·have e0:=B6 (V.int.inj<|An b0)
  refine⟨hm,Ao,rfl,?_⟩
  subst e0
  exact q
 have c0: ¬ w=0:=fun z=>b0<|Av<|by rw[z];rfl
 refine⟨rfl,A7 (fun b1=>?_) fun b1=>?_⟩
 ·have e1:=B6 (V.int.inj<|An b1)
  refine⟨hm,Ao,rfl,.inl<|BF.of ht,?_⟩
  subst e1
  rw[D6]
  exact q
 have c1: ¬ w=1:=fun z=>b1<|Av<|by rw[z];rfl
 refine⟨hm,Ao,rfl,?_⟩
 have e:U_ f w=f.twilight:=by unfold U_;rw[AG c0,AG c1]
 rw[e]at q
 exact q
def Si :O0 P w base 1 192 ["size","what","number"] (ADh A):=by
 refine T.OP.F.DL ["size","what","number"] @fun _ _ _ s H vs Q E hr h=>?_
 obtain⟨f,s,z,w,n,rfl,ok,hw,hn,q⟩:=h
 refine⟨_,(AB (Aq (A0 BD AV<|Bt T.k.mi) (AF<|AY<|A9 Ab (AR AH) Aj) AX)<|AB (Aq (A0 BD AV<|Bt T.k.X8) (AF<|AY<|A9 Ab (AR AH) Aj) AX)<|AF<|AY<|A9 Ab (AR<|A9 Ab (AR AH) Aj)<|AU B3 AV<|Bt T.k.zq),?_⟩
 obtain⟨za,dz,cl,kk,tw,ol,en,kp,dk,B,ez,hz,zi⟩:=ok.ex
 cases ez
 refine⟨rfl,A7 (fun b0=>?_) fun b0=>?_⟩
 ·have e0:=B6 (V.int.inj<|An b0)
  subst e0
  exact⟨hz.at_,AW,rfl,BF.of hz.cells,En<|Xp<|getD_at<|by rw[ok.nc];exact hn,q⟩
 have c0: ¬ w=0:=fun z=>b0<|Av<|by rw[z];rfl
 refine⟨rfl,A7 (fun b1=>?_) fun b1=>?_⟩
 ·have e1:=B6 (V.int.inj<|An b1)
  subst e1
  exact⟨hz.at_,AW,rfl,BF.of hz.Cq,En<|Xp<|getD_at<|by rw[ok.nv];exact hn,q⟩
 have c1: ¬ w=1:=fun z=>b1<|Av<|by rw[z];rfl
 have hn0:n<s.zone0.size:=by
  rw[ok.n0]
  unfold U_ at hn
  rw[AG c0,AG c1]at hn
  exact hn
 have pt:=hz.ym n hn0
 refine⟨hz.at_,AW,rfl,BF.of hz.tw,En<|we hn0,pt.at_,Aa,Bx _ _ _,?_⟩
 have ew:=(zi n hn0).1
 rcases(show w=2\/w=3 by lia)with rfl | rfl
 ·refine⟨BF.of pt.old,(rfl),?_⟩
  rw[ew]
  exact q
 ·refine⟨BF.of pt.old,(rfl),?_⟩
  rw[ew]
  exact q
def gY :O0 P w base 2 193 ["machine","calls"] (GP K A 6):=by
 refine T.X9.F.DL ["machine","calls","what","number"] @fun _ _ _ s H vs Q E hr h=>?_
 obtain⟨dd,od,mo,md,ca,cd,a,xs,i,f,tc,fo,fu,sz,sh,c,t,rfl,h,hi,hcall,hask,q⟩:=h
 refine⟨_,(AB (AO 2<|BI AV As T.A3)<|AB (AO 3<|BI AV As T.A3)<|AB (Aq (PW.pt<|Fy (A0 DE Aj<|Bt T.k.yR)<|GL<|A0 Ut A6<|Ah VR T.SW<|Ax AH Aj) (AF<|AY<|Ba<|Af<|Bt T.k.DA) AX)<|AB (Aq (KW<|Kg<|AR AH) (AF<|AY<|Ba<|Af<|Bt T.k.F_) AX)<|AF<|AY<|Ba<|Ax (Bt T.k.Jb)<|Ah Si T.OP<|CH (AR AH) Aj A6),?_⟩
 obtain⟨hl,ys,er,rfl⟩:=call_of rfl hcall
 cases (er)
 have hl2:i+2<=xs.length:=by rw[Gs]at hl;lia
 obtain⟨x0,e0⟩:=Ey (xs:=xs) (i:=i+0)<|by lia
 obtain⟨x1,e1⟩:=Ey (xs:=xs) (i:=i+1)<|by lia
 rw[h8 hl (IS.trans e0)<|IS.trans e1]at hask q
 have ed:xs.drop (i+2)=(xs.drop i).drop 2:=by rw[FJ]
 have ha:=Cu hask
 obtain⟨wh,rfl,_⟩:=xc ha.1
 obtain⟨nu,rfl,_⟩:=xc ha.2
 have hx:Ip [[6,AD wh,AD nu]]=some (.get wh nu):=rfl
 refine⟨h.hc,rfl,h.rn e0 fun H1 h1 w1=>⟨h1.hc,rfl,h1.rn e1 fun H2 h2 w2=>?_⟩⟩
 have sm:Bc (wo mo ca dd H) (wo mo ca dd H2):=by rw[w2,w1];exact Bc.refl _
 have bad:(3<wh\/U_ f wh<=nu)-> ∀ l,H2 l=none->Q (.ref l) (upd H2 l<|.lst [.int<|-1]):=fun b l hl=>q.fin h2 sm hl (JR hx<|n8.mpr b) (by lia) hl2 ed<|by decide
 refine A7 (fun b1=>⟨(show 1<=sizeLine by decide),fun l hl=>bad (.inl<|BQ.mp<|An b1) l hl⟩) fun b1=>?_
 refine⟨mo,md,tc,fo,fu,sz,sh,f,wh,rfl,h2.hm,CT _ _ h2.mf.tc,A7 (fun b2=>⟨(show 1<=sizeLine by decide),fun l hl=>bad (.inr<|Bf.mp<|An b2) l hl⟩) fun b2=>?_⟩
 have good: ¬ Cz f (.get wh nu)=true:=fun z=>(n8.mp z).elim (fun z=>absurd z<|by lia) fun z=>absurd z<|by lia
 refine⟨h2.hm,Ao,rfl,?_⟩
 rcases h2.mf.size with⟨e0,rfl⟩ |⟨s,e0,ok⟩
 ·refine ?_
  exact⟨(show 1<=sizeLine by decide),fun l1 n1=>q.fin (ys:= [-2]) h2 sm n1 (C4 hx<|sO good e0) (by lia) hl2 ed<|by decide⟩
 obtain⟨za,rest⟩:=ok.ex
 obtain⟨dz,cl,kk,tw,ol,en,kp,dk,B,rfl,hz,zi⟩:=rest
 refine⟨h2.hm,Ao,rfl,f,s,za,wh,nu,rfl,ok.mono CT,Ej fun z=>b1<|Av<|BQ.mpr z,fH fun z=>b2<|Av<|Bf.mpr z,(show 2<=sizeLine by decide),fun l1 n1=>?_⟩
 exact q.fin (ys:= [0,eE s wh nu]) h2 sm n1 (C4 hx<|r8 good e0) (by lia) hl2 ed<|show 2<=200 by decide
def f_(b: ¬ 1<z)(e:f.shape=none):Bh f (.points z)=(f,V9<|-2):=by
 have b': ¬ Cz f (.points z)=true:=fun y=>b<|An y
 unfold Bh
 rw[AG b']
 simp only[e]
def bX(b: ¬ 1<z)(e:f.shape=some x):Bh f (.points z)=(f,.numbers<|Wrhint.pointsTold<|if z=0 then x.1 else x.2):=by
 have b': ¬ Cz f (.points z)=true:=fun y=>b<|An y
 unfold Bh
 rw[AG b']
 simp only[e]
noncomputable def Ue(z:Ht.Zone)(k:Nat):List Int:=0::AD z.size::(BM k).flatMap fun i=> [(z.at_ i).1,(z.at_ i).2,AD<|z.mark i]
def Uv:Ue z (k+1)=Ue z k++ [(z.at_ k).1,(z.at_ k).2,AD<|z.mark k]:=by
 unfold Ue
 rw[Ha,List.flatMap_append]
 rfl
theorem Q5: ∀{k:Nat},(Ue z k).length=2+3*k
 | 0=>rfl
 | k+1=>by
  rw[Uv,E8,Q5]
  show 2+3*k+3=_
  lia
def kR:iV (x++y)=iV x++iV y:=FF
def Y2 :O0 P w base 2 190 ["machine","calls"] (GP K A 5):=by
 refine T.Ni.F.DL ["machine","calls","zone_number","zone","told","point"] fun H vs Q E hr h=>?_
 obtain⟨dd,od,mo,md,ca,cd,a,xs,i,f,tc,fo,fu,sz,sh,c,t,rfl,h,hi,hcall,hask,q⟩:=h
 refine⟨_,(AB (AO 2<|BI AV As T.A3)<|AB (Aq (A0 DE Aj AE) (AF<|AY<|Ba<|Af<|Bt T.k.DA) AX)<|AB (Aq (KW<|Kg<|AR AH) (AF<|AY<|Ba<|Af<|Bt T.k.F_) AX)<|AB (AO 3<|A9 By (AR AH) Aj)<|AB (AO 4<|Ba<|Ax (Bt T.k.Jb)<|Dc T.k.CD<|Af A6)<|AB (EM Ir rfl (Gd A6) (Fe 5)<|AF<|Ad<|VD FK nM nS bH CG<|Af<|Ba<|CH (A9 Ab (AR ET) AE) (A9 Ab (AR ET) AE)<|AR ET)<|AF<|AY CG),?_⟩
 obtain⟨hl,ys,er,rfl⟩:=call_of rfl hcall
 cases (er)
 have hl2:i+1<=xs.length:=by rw[Gs]at hl;lia
 obtain⟨x0,e0⟩:=Ey (xs:=xs) (i:=i+0)<|by lia
 have et:=jZ hl<|IS.trans e0
 rw[et]at hask q
 have ed:xs.drop (i+1)=(xs.drop i).drop 1:=by rw[FJ]
 obtain⟨zn,rfl,_⟩:=xc<|hask
 have hx:Ip [[5,AD zn]]=some (.points zn):=rfl
 refine⟨h.hc,rfl,h.rn e0 fun H1 h1 w1=>?_⟩
 have sm:Bc (wo mo ca dd H) (wo mo ca dd H1):=by rw[w1];exact Bc.refl _
 refine A7 (fun b1=>⟨(show 1<=sizeLine by decide),fun l hl=>q.fin (ys:= [-1]) h1 sm hl (JR hx<|Av<|BQ.mp<|An b1) (by lia) hl2 ed<|by decide⟩) fun b1=>?_
 have c1: ¬ 1<zn:=fun z=>b1<|Av<|BQ.mpr z
 refine⟨h1.hm,Ao,rfl,?_⟩
 rcases h1.mf.shape with⟨e0,rfl⟩ |⟨x,tp,za,zb,B,C,e0,rfl,ht,hza,hzb⟩
 ·refine ?_
  exact⟨(show 1<=sizeLine by decide),fun l1 n1=>q.fin (ys:= [-2]) h1 sm n1 (C4 hx<|f_ c1 e0) (by lia) hl2 ed<|by decide⟩
 have pick: ∃ zz D z,[V.ref za,.ref zb][zn]?=some (.ref zz)/\uD A (wo mo ca dd H1) zz D z/\(if zn=0 then x.1 else x.2)=z:=by
  rcases(show zn=0\/zn=1 by lia)with rfl | rfl
  ·exact⟨za,B,x.1,rfl,hza,rfl⟩
  ·exact⟨zb,C,x.2,rfl,hzb,rfl⟩
 obtain⟨zz,P,z,ep,hz,ez⟩:=pick
 have st:=C4 hx<|bX c1 e0
 rw[ez]at st
 refine⟨h1.hm,Ao,rfl,Dh.of<|CT _ _ ht,En ep,?_⟩
 refine⟨.inl<|BF.of<|CT _ _ hz.at_,(show 2<=sizeLine by decide),fun D nD=>?_⟩
 rw[LN]
 have hn:=hz.ZA
 refine⟨⟨_,BF.of<|Bw nD _ _<|CT _ _ hz.at_⟩,SN (fun k σ H'=>σ[0]?=some (some<|.ref mo)/\σ[3]?=some (some<|.ref zz)/\σ[4]?=some (some<|.ref D)/\σ.length=6/\Bc H1 H'/\H' D=some (.lst<|iV<|Ue z k)) ⟨rfl,rfl,rfl,rfl,Bw nD,AJ⟩ (fun k σ H' _ hv=>BF.of<|hv.2.2.2.2.1 _ _<|CT _ _ hz.at_) ?_ ?_⟩
 ·rintro k y σ H2 hy ⟨v0,v3,v4,vl,s2,hD⟩
  obtain⟨hk,rfl⟩:=qY hy
  have pt:=((hz.ym k hk).mono CT).mono s2
  have t7:=hz.t7 k hk
  have v5:(σ.set 5<|some<|.ref<|P.pp k)[5]?=some (some<|.ref<|P.pp k):=by rw[F9<|by lia]
  have v4':(σ.set 5<|some<|.ref<|P.pp k)[4]?=some (some<|.ref D):=by rw[DM<|by decide];exact v4
  have v3':(σ.set 5<|some<|.ref<|P.pp k)[3]?=some (some<|.ref zz):=by rw[DM<|by decide];exact v3
  have v0':(σ.set 5<|some<|.ref<|P.pp k)[0]?=some (some<|.ref mo):=by rw[DM<|by decide];exact v0
  refine Jg.of v4' ⟨.inl ⟨rfl,_,BF.of hD⟩,Jg.of v5 ⟨pt.at_,Aa,CF _ _ _,BF.of pt.now,(show Wz _ 0=some _ from rfl),Jg.of v5 ⟨pt.at_,Aa,CF _ _ _,BF.of pt.now,(show Wz _ 1=some _ from rfl),Jg.of v5 ⟨pt.at_,Aa,K_ _ _ _,(show 3<=sizeLine by decide),fun l2 n2=>?_⟩⟩⟩⟩
  have nD2:=Ac hD n2
  refine⟨_,_,_,_,rfl,rfl,(AQ nD2).trans hD,AJ,?_,v0',v3',v4',by rw[DR];exact vl,?_,?_⟩
  ·rw[D6,Q5]
   exact CC (show 2+3*k+3<=200 by lia)<|by decide
  ·intro b u e
   have nb:b≠D:=fun z=>by subst z;rw[nD]at e;cases e
   rw[AQ nb]
   exact Bw n2 _ _<|s2 _ _ e
  ·rw[AJ,Uv,kR,t7.2.1,t7.2.2]
   rfl
 ·rintro σ H2 ⟨v0,v3,v4,vl,s2,hD⟩
  rw[LN]at hD
  refine Jg.of v4 ?_
  have h3:=h1.grow s2
  have ap:=h1.apart nD
  refine q D H2 (i+1) tc fo fu sz _ (sm.trans<|DC s2) (by rw[st];exact h3) (by lia) hl2 ed (by rw[st];exact X3 hD ap.1 ap.2.1 ap.2.2) ?_<|by rw[st];show(Ue z z.size).length<=200;rw[Q5];lia
  refine sm.free ?_
  unfold wo
  split
  ·rfl
  ·exact nD
noncomputable def fit(n:Nat):Int->List Nat->Bool
 | _,[]=>true
 | b,e::r=>if AD e<=b\/n<=e then false else fit n (AD e) r
theorem pN: ∀{es:List Nat} {b:Int},fit n b es=true↔(∀ e∈es.head?,b<AD e)/\GX es=true/\ ∀ e∈es,e<n
 | [],b=>by simp[fit,GX]
 | [e],b=>by
  unfold fit
  split
  ·rename_i h
   simp[GX]
   intro h2
   rcases h with h | h
   ·exact absurd h2<|by show ¬ b<AD e;lia
   ·exact h
  ·rename_i h
   simp[fit,GX]
   have:AD e=(e:Int):=rfl
   lia
 | e::e2::r,b=>by
  unfold fit
  have ih:=pN (es:=e2::r) (b:=AD e)
  have i2:AD e=(e:Int):=rfl
  have i3:AD e2=(e2:Int):=rfl
  split
  ·rename_i h
   simp[GX]
   intro h2 _ _ h4
   lia
  ·rename_i h
   rw[ih]
   simp[GX]
   constructor
   ·rintro⟨h1,h2,h3,h4⟩
    exact⟨by lia,⟨by lia,h2⟩,by lia,h3,h4⟩
   ·rintro⟨h1,⟨h2,h3⟩,h4,h5,h6⟩
    exact⟨by lia,h3,h5,h6⟩
inductive ADW(K:AS)(vs:List V)(H:Hp)(Q:VK)(E_:XK):Prop
 | mk: ∀ l es n,vs= [.ref l,.int (AD n)]->BF K H l (XW es)->Q (.bl (fit n (-1) es)) H->ADW K vs H Q E_
theorem zN(h:(XW es)[i]?=some x): ∃ e,es[i]?=some e/\x= .int (AD e):=by
 unfold XW at h
 rw[CY]at h
 cases q:es[i]? with
 | none=>rw[q]at h;cases h
 | some e=>rw[q]at h;exact⟨e,rfl,(C_ h).symm⟩
def yI{es:List Nat}(h:es[i]?=some e):es.drop i=e::es.drop (i+1):=by
 obtain⟨h1,h2⟩:=IZ.mp h
 rw[Ws h1,h2]
def gV :O0 P w base 1 187 ["ends","point_count"] (ADW K):=by
 refine T.iO.F.DL ["ends","point_count","before","end"] fun H vs Q E hr h=>?_
 obtain⟨l,es,n,rfl,hs,q⟩:=h
 refine⟨_,(AB (AO 2<|LG G2 AE)<|AB (EM Ir rfl (Gd AH) (Fe 3)<|AB (Aq (PW.pt<|Fy (A0 IT A6 Aj)<|GL<|A0 Ut A6 AV) (AF<|AY au) AX)<|AF<|AO 2 A6)<|AF<|AY au),⟨_,hs⟩,SN (fun k σ H'=>H'=H/\σ[1]?=some (some<|.int<|AD n)/\σ.length=4/\ ∃ b,σ[2]?=some (some<|.int b)/\fit n (-1) es=fit n b (es.drop k)) ⟨rfl,rfl,rfl,-1,rfl,by rw[G0]⟩ (fun k σ H' _ hv=>by rw[hv.1];exact hs) ?_ ?_⟩
 ·rintro k y σ H2 hy ⟨rfl,v1,vl,b,v2,eb⟩
  obtain⟨e,he,rfl⟩:=zN hy
  rw[yI he]at eb
  have w3:(σ.set 3<|some<|.int<|AD e)[3]?=some (some<|.int<|AD e):=by rw[F9<|by lia]
  have w2:(σ.set 3<|some<|.int<|AD e)[2]?=some (some<|.int b):=by rw[DM<|by decide];exact v2
  have w1:(σ.set 3<|some<|.int<|AD e)[1]?=some (some<|.int<|AD n):=by rw[DM<|by decide];exact v1
  refine Jg.of w3<|Jg.of w2<|A7 (fun b1=>?_) fun b1=>?_
  ·have f0:=eb.trans (AI<|.inl<|An b1)
   rw[f0]at q
   exact q
  refine Jg.of w3<|Jg.of w1<|A7 (fun b2=>?_) fun b2=>?_
  ·rw[eb.trans<|AI<|.inr<|Bf.mp<|An b2]at q
   exact q
  refine Jg.of w3 ⟨rfl,?_,by rw[DR,DR];exact vl,AD e,?_,?_⟩
  ·rw[DM<|by decide];exact w1
  ·rw[F9<|by rw[DR];lia]
  ·refine eb.trans (AG ?_)
   rintro(z | z)
   ·exact b1<|Av z
   ·exact b2<|Av<|Bf.mpr z
 ·rintro σ H2 ⟨rfl,v1,vl,b,v2,eb⟩
  have f1:fit n (-1) es=true:=by
   rw[eb,show(XW es).length=es.length from A8 ..,bw]
   rfl
  rw[f1]at q
  exact q
end
section
variable{H0 H H':Hp}{S:SS}{mo md ca cd a l:AK}{o:HO}{xs:List Int}{i n:Nat}{f:D7}
noncomputable def sG0(A:B4)(S:SS)(f:D7)(d:Nat)(kk cl tw:AK)(C:QN)(gr dg ol en kp dk:AK):SS:=
 sGr A (CZ (R9 (CZ (CZ S .Cq kk<|.lst<|iV<|f.values.map<|Ht.scaled f.units d) .cells cl<|.lst<|iV<|Ed f.cells 0)<|G_ A 0 f.twilight C) (.zl 0) tw<|.lst<|refsOf C f.twilight) gr dg (.int<|AD f.units) (.int<|AD d) cl kk tw ol en kp dk
inductive AEG(A:B4)(vs:List V)(H:Hp)(Q:VK)(E_:XK):Prop
 | mk: ∀ H0 S mo md tc fo fu sz sh f d,vs= [.ref mo,.int (AD d)]->d<=1000->(16<=f.units/\f.units<=16384)->f.values.length<=64->f.cells<=64->f.twilight<=16->H0 mo=some (.ins (A.cl 8) md (W_ f.units f.twilight f.cells tc fo fu sz sh))->H0 tc=some (.lst (iV f.values))->Nw H0 H S->(∀ kk cl tw C gr dg ol en kp dk H',zer C f.twilight->Nw H0 H' (sG0 A S f d kk cl tw C gr dg ol en kp dk)->Q (.ref gr) H')->AEG A vs H Q E_
theorem AB8(h:(iV xs)[i]?=some x): ∃ v,xs[i]?=some v/\x= .int v:=by
 unfold iV at h
 rw[CY]at h
 cases q:xs[i]? with
 | none=>rw[q]at h;cases h
 | some e=>rw[q]at h;exact⟨e,rfl,(C_ h).symm⟩
def vw(h:xs[k]?=some v):iV ((xs.take<|k+1).map g)=iV ((xs.take k).map g)++ [.int<|g v]:=by
 rw[lX,h,FF,kR]
 rfl
def RV :O0 P w base 6 184 ["machine","dots"] (AEG A):=by
 refine T.Td.F.DL ["machine","dots","controls","value"] fun H vs Q E hr h=>?_
 obtain⟨H0,S,mo,md,tc,fo,fu,sz,sh,f,d,rfl,hd,hu,hv,hc,htw,hm,ht,nw,q⟩:=h
 refine⟨_,(AB (XU (i:=2) (own:= [("value",3)]) rfl (show Iu (["machine","dots","controls","value"]:List Str) by decide+kernel) rfl rfl (fz rfl rfl rfl<|by decide+kernel) (Gd<|AR AH) (show NY ["machine","dots","controls","value"] (BZ<|top 224) _ _ from K4<|by decide+kernel) (fun _ _ _ _ _=>(Fe 3)) (fun _ _ _ _ _=>RM) fun _ _ _ _ _=>(Ah Kn T.scaled<|CH A6 AV<|show PE _ _ (vE K _ _)from dU AH rfl))<|AF<|AY<|Ah ZI T.Xf<|Cs (AR AH)<|RQ AV (AR AH) Aj<|AR AH),?_⟩
 have hU:(16:Int)<=f.units/\(f.units:Int)<=16384:=⟨Bf.mpr hu.1,Bf.mpr hu.2⟩
 refine⟨(nw.same _ _ hm),Ao,rfl,⟨_,BF.of<|nw.same _ _ ht⟩,fun kk hkk=>nE (fun k H'=>Nw H0 H'<|CZ S .Cq kk<|.lst<|iV<|(f.values.take k).map<|Ht.scaled f.units d) (nw.put hkk) (fun k H' _ n3=>BF.of<|n3.same _ _ ht) ?_ ?_⟩
 ·rintro k x H3 hx n3
  obtain⟨v,hv2,rfl⟩:=AB8 hx
  refine⟨rfl,d6<|⟨(n3.same _ _ hm),Ao,rfl,_,_,_,rfl,⟨⟨FG d,Bf.mpr hd⟩,hU⟩,?_⟩⟩
  have hk:=(IZ.mp hv2).1
  refine⟨_,n3.is,(by rw[D6,A8,HP];exact Er (Nat.min_le_left _ _)<|DO hk<|CC hv<|by decide),?_⟩
  rw[vw hv2]
  exact n3.set _
 ·intro H3 n3
  rw[D6,List.take_length]at n3
  exact⟨(n3.same _ _ hm),Ao,rfl,(n3.same _ _ hm),Ao,rfl,(n3.same _ _ hm),Ao,rfl,H0,_,_,_,f.cells,f.twilight,kk,rfl,hc,CC htw<|by decide,n3,fun cl tw C gr dg ol en kp dk H4 zc n4=>q kk cl tw C gr dg ol en kp dk H4 zc n4⟩
noncomputable def ny(u d:Nat)(ps:List Int)(C:QN)(n:Nat):Prop:= ∀ i,i<n->C.was i=(Ht.scaled u d<|ps.getD (3*i) 0,Ht.scaled u d<|ps.getD (3*i+1) 0)/\C.now i=(Ht.scaled u d<|ps.getD (3*i) 0,Ht.scaled u d<|ps.getD (3*i+1) 0)/\C.xk i=ps.getD (3*i+2) 0%2
def AFQ: ∀ n:Fin 65,eh 0 (((3*n.val:Nat):Int)) 3=true/\PV 0 (((3*n.val:Nat):Int)) 3=(n.val:Int):=by decide+kernel
inductive AD0(A:B4)(vs:List V)(H:Hp)(Q:VK)(E_:XK):Prop
 | mk: ∀ H0 S sz dz u d cl kk tw ol en kp pl st pn ps n,vs= [.ref sz,.ref pl]->n<=64->ps.length=3*n->d<=1000->(16<=u/\u<=16384)->H0 sz=some (.ins (A.cl 6) dz (grV (.int (AD u)) (.int (AD d)) cl kk tw ol en kp st pn))->H0 pl=some (.lst (iV ps))->Nw H0 H S->(∀ l C H',ny u d ps C n->Nw H0 H' (CZ (R9 S (G_ A 1 n C)) (.zl 1) l (.lst (refsOf C n)))->Q (.ref l) H')->AD0 A vs H Q E_
def ZL :O0 P w base 3 188 ["size","points"] (AD0 A):=by
 refine T.YS.F.DL ["size","points","outline","place","x","y"] fun H vs Q E hr h=>?_
 obtain⟨H0,S,sz,dz,u,d,cl,kk,tw,ol,en,kp,pl,st,pn,ps,n,rfl,hn,hps,hd,hu,hs,hp,nw,q⟩:=h
 refine⟨_,(AB (AO 2<|Ba Ez)<|AB (EM Ir rfl (aT rfl T.k.KC<|CH AE (Dc T.k.CD<|Af AV) AE) (Fe 3)<|AB (AO 4<|Ah Kn T.scaled<|CH (A9 Ab AV A6) (AR AH)<|AR AH)<|AB (AO 5<|Ah Kn T.scaled<|CH (A9 Ab AV<|AU BJ A6 AE) (AR AH)<|AR AH)<|AF<|Ad<|VD FK RX TN LU Aj<|Af<|Fw T.c.b8 KZ (hr.mono<|by decide) rfl T.c.f9 T.Lm.2 .nil Gp<|CH CG ET<|AU Dz (A9 Ab AV<|AU BJ A6 AE) AE)<|AF<|AY Aj),?_⟩
 have hD:=Bf.mpr hd
 have hU:(16:Int)<=u/\(u:Int)<=16384:=⟨Bf.mpr hu.1,Bf.mpr hu.2⟩
 refine⟨B7 _,fun D nD=>?_⟩
 have n0:=nw.begin (A:=A) (z:=1) (P:=P0) nD
 have rr:=AFQ ⟨n,by lia⟩
 refine⟨.inl<|BF.of<|n0.same _ _ hp,0,_,3,n,rfl,⟨by decide,by decide,by rw[D6,hps];exact rr.1,by rw[D6,hps];exact rr.2⟩,Qo (fun k σ H'=>σ[0]?=some (some<|.ref sz)/\σ[1]?=some (some<|.ref pl)/\σ[2]?=some (some<|.ref D)/\σ.length=6/\ ∃ C,ny u d ps C k/\Nw H0 H' (CZ (R9 S<|G_ A 1 k C) (.zl 1) D<|.lst<|refsOf C k)) ⟨rfl,rfl,rfl,rfl,P0,(fun i hi=>absurd hi<|HM _),n0⟩ ?_ ?_⟩
 ·rintro k σ H3 hk ⟨v0,v1,v2,vl,C,io,n3⟩
  have ek:(0:Int)+(k:Nat)*3=AD (3*k):=by show(0:Int)+(k:Int)*3=((3*k:Nat):Int);lia
  rw[ek]
  have l1:(σ.set 3<|some<|.int<|AD<|3*k).length=6:=by rw[DR];exact vl
  have a0:(σ.set 3<|some<|.int<|AD<|3*k)[0]?=some (some<|.ref sz):=by rw[DM<|by decide];exact v0
  have a1:(σ.set 3<|some<|.int<|AD<|3*k)[1]?=some (some<|.ref pl):=by rw[DM<|by decide];exact v1
  have a2:(σ.set 3<|some<|.int<|AD<|3*k)[2]?=some (some<|.ref D):=by rw[DM<|by decide];exact v2
  have a3:(σ.set 3<|some<|.int<|AD<|3*k)[3]?=some (some<|.int<|AD<|3*k):=by rw[F9<|by lia]
  have hs3:=n3.same _ _ hs
  have hp3:=BF.of (K:=K)<|n3.same _ _ hp
  refine Jg.of a1<|Jg.of a3 ⟨hp3,En<|Xp<|getD_at (l:=ps) (n:=3*k)<|by lia,Jg.of a0 ⟨hs3,AW,rfl,Jg.of a0 ⟨hs3,AW,rfl,_,_,_,rfl,⟨⟨FG d,hD⟩,hU⟩,?_⟩⟩⟩
  have l2: ∀ v,((σ.set 3<|some<|.int<|AD<|3*k).set 4 v).length=6:=fun v=>by rw[DR];exact l1
  have b0: ∀ v,((σ.set 3<|some<|.int<|AD<|3*k).set 4 v)[0]?=some (some<|.ref sz):=fun v=>by rw[DM<|by decide];exact a0
  have b1: ∀ v,((σ.set 3<|some<|.int<|AD<|3*k).set 4 v)[1]?=some (some<|.ref pl):=fun v=>by rw[DM<|by decide];exact a1
  have b2: ∀ v,((σ.set 3<|some<|.int<|AD<|3*k).set 4 v)[2]?=some (some<|.ref D):=fun v=>by rw[DM<|by decide];exact a2
  have b3: ∀ v,((σ.set 3<|some<|.int<|AD<|3*k).set 4 v)[3]?=some (some<|.int<|AD<|3*k):=fun v=>by rw[DM<|by decide];exact a3
  have b4: ∀ v,((σ.set 3<|some<|.int<|AD<|3*k).set 4 v)[4]?=some v:=fun v=>by rw[F9<|by lia]
  refine Jg.of (b1 _)<|Jg.of (b3 _) ⟨hp3,(En<|Xp<|getD_at (l:=ps) (n:=3*k+1)<|by lia),Jg.of (b0 _) ⟨hs3,AW,rfl,Jg.of (b0 _) ⟨hs3,AW,rfl,_,_,_,rfl,⟨⟨FG d,hD⟩,hU⟩,?_⟩⟩⟩
  have l3: ∀ v w,(((σ.set 3<|some<|.int<|AD<|3*k).set 4 v).set 5 w).length=6:=fun v w=>by rw[DR];exact l2 v
  have c0: ∀ v w,(((σ.set 3<|some<|.int<|AD<|3*k).set 4 v).set 5 w)[0]?=some (some<|.ref sz):=fun v w=>by rw[DM<|by decide];exact b0 v
  have c1: ∀ v w,(((σ.set 3<|some<|.int<|AD<|3*k).set 4 v).set 5 w)[1]?=some (some<|.ref pl):=fun v w=>by rw[DM<|by decide];exact b1 v
  have c2: ∀ v w,(((σ.set 3<|some<|.int<|AD<|3*k).set 4 v).set 5 w)[2]?=some (some<|.ref D):=fun v w=>by rw[DM<|by decide];exact b2 v
  have c3: ∀ v w,(((σ.set 3<|some<|.int<|AD<|3*k).set 4 v).set 5 w)[3]?=some (some<|.int<|AD<|3*k):=fun v w=>by rw[DM<|by decide];exact b3 v
  have c4: ∀ v w,(((σ.set 3<|some<|.int<|AD<|3*k).set 4 v).set 5 w)[4]?=some v:=fun v w=>by rw[DM<|by decide];exact b4 v
  have c5: ∀ v w,(((σ.set 3<|some<|.int<|AD<|3*k).set 4 v).set 5 w)[5]?=some w:=fun v w=>by rw[F9<|by rw[l2];decide]
  refine Jg.of (c2 _ _) ⟨.inl ⟨rfl,_,BF.of n3.is⟩,Jg.of (c4 _ _)<|Jg.of (c5 _ _)<|Jg.of (c1 _ _)<|Jg.of (c3 _ _) ⟨hp3,(En<|Xp<|getD_at (l:=ps) (n:=3*k+2)<|by lia),(by show(0:Int)<2;decide),?_⟩⟩
  intro x dx nx nd xd
  refine⟨x,dx,_,_,_,rfl,AJ,fun lo ln h1 h2 h3=>⟨rfl,?_⟩⟩
  have d1:lo≠x:=fun z=>by subst z;rw[AJ]at h1;cases h1
  have d2:ln≠x:=fun z=>by subst z;rw[AJ]at h2;cases h2
  rw[AQ d1]at h1
  rw[AQ d2]at h2
  have f1:lo≠dx:=fun z=>by subst z;rw[AJ]at h1;cases h1
  have f2:ln≠dx:=fun z=>by subst z;rw[AJ]at h2;cases h2
  rw[AQ f1]at h1
  rw[AQ f2]at h2
  have n4:=n3.point (w:=(Ht.scaled u d<|ps.getD (3*k) 0,Ht.scaled u d<|ps.getD (3*k+1) 0)) (b:=(Ht.scaled u d<|ps.getD (3*k) 0,Ht.scaled u d<|ps.getD (3*k+1) 0)) (k:=ps.getD (3*k+2) 0%2) nx nd xd h1 h2 h3 d1 d2 f1 f2
  rw[AD3]
  refine⟨n4.is,(by rw[LN];exact HH hk<|Er hn<|by decide),c0 _ _,c1 _ _,c2 _ _,l3 _ _,C.put k x dx lo ln (Ht.scaled u d<|ps.getD (3*k) 0,Ht.scaled u d<|ps.getD (3*k+1) 0) (Ht.scaled u d<|ps.getD (3*k) 0,Ht.scaled u d<|ps.getD (3*k+1) 0)<|ps.getD (3*k+2) 0%2,?_,?_⟩
  ·intro j hj
   by_cases e:j=k
   ·subst e
    unfold QN.put
    simp only[D8]
    exact⟨trivial,trivial,trivial⟩
   ·unfold QN.put
    simp only[AG e]
    exact io j<|by lia
  ·rw[Xw]
   exact(n4.set<|.lst<|refsOf C k++ [.ref x])
 ·rintro σ H3 ⟨v0,v1,v2,vl,C,io,n3⟩
  exact Jg.of v2<|q D C H3 io n3
end
end GF
end
section
namespace GF
open PySem PySem.Spec PyProof.Rows L2
section
variable{K:AS}{mg:Str->Option AN}{A:B4}{H0 H:Hp}{S:SS}
noncomputable def vg(kd:Ht.Kind)(c:Ht.Codes)(m:Ht.M)(run Q9 gr ZC kp Ve CM C2 refs cl kk en fn own font z0 z1:AK)(Z0 Z1:QN):B2 where
 run:=run
 Q9:=Q9
 gr:=gr
 ZC:=ZC
 kp:=kp
 Ve:=Ve
 CM:=CM
 C2:=C2
 refs:=refs
 cells:=cl
 Cq:=kk
 ends:=en
 fn:=fn
 own:=own
 font:=font
 zl z:=if z=0 then z0 else z1
 pp z:=if z=0 then Z0.pp else Z1.pp
 pd z:=if z=0 then Z0.pd else Z1.pd
 kind:=kd
 c:=c
 nc:=m.cells.length
 nv:=m.values.length
 n0:=m.zone0.size
 n1:=m.zone1.size
 un:=m.units
 place:=0
 byte:=0
noncomputable def sR(A:B4)(Bj:AK)(Z0 Z1:QN)(BU:List (Key×V)):Var where
 tP:=A.tg 0
 tF:=A.tg 0
 tQ:=A.tg 0
 Bj:=Bj
 lo z:=if z=0 then Z0.lo else Z1.lo
 ln z:=if z=0 then Z0.ln else Z1.ln
 BU:=BU
 K6 _:=0
 fN _:=0
structure Bg(A:B4)(S:SS)(kd:Ht.Kind)(m:Ht.M)(run Q9 gr ZC kp Ve CM C2 refs Bj cl kk en fn own font z0 z1:AK)(Z0 Z1:QN)(BU:List (Key×V)):Prop where
 run:S .run run (.ins (A.cl 1) Q9 (rnV A kd (.ref gr) (.ref font) (.ref fn) (.ref own) CM C2 refs Bj))
 gr:S .gr gr (.ins (A.cl 6) ZC (grV (.int (AD m.units)) (.int (AD m.dots)) cl kk z0 z1 en kp 0 0))
 kp:S .kp kp (.ins (A.cl 5) Ve (S3 m.kept))
 CM:S .CM CM (.lst [])
 C2:S .C2 C2 (.lst [])
 refs:S .refs refs (.lst [.int 0,.int 0,.int 0])
 Bj:S .Bj Bj (.lst [.int 1,.int 1,.int 1])
 cl:S .cells cl (.lst (iV m.cells))
 kk:S .Cq kk (.lst (iV m.values))
 fn:kd= .font->S .fn fn (.dK BU)
 z0:S (.zl 0) z0 (.lst (refsOf Z0 m.zone0.size))
 z1:S (.zl 1) z1 (.lst (refsOf Z1 m.zone1.size))
 p0: ∀ t a o,G_ A 0 m.zone0.size Z0 t a o->S t a o
 p1: ∀ t a o,G_ A 1 m.zone1.size Z1 t a o->S t a o
 i0:t8 Z0 m.zone0
 i1:t8 Z1 m.zone1
 fo:kd= .font->own=font
structure qO(kd:Ht.Kind)(m:Ht.M):Prop where
 stack:m.stack= []
 P:m.P=(16384,0)
 F:m.F=(16384,0)
 Q:m.Q=(16384,0)
 r0:m.r0=0
 r1:m.r1=0
 r2:m.r2=0
 z0:m.z0=1
 z1:m.z1=1
 z2:m.z2=1
 loop:m.loop=1
 way:m.way=1
 byte:m.byte=0
 still:m.still=false
 plain:m.plain=false
 place:m.place=0
 inFont:m.inFont=decide (kd= .font)
 going:m.going= []
 steps:m.steps=0
def Nc(e:b=decide (kd= .font)):qO kd (qu f d cells values zone0 zone1 ends kept funs b):=
 ⟨rfl,rfl,rfl,rfl,rfl,rfl,rfl,rfl,rfl,rfl,rfl,rfl,rfl,rfl,rfl,rfl,e,rfl,rfl⟩
def AAH:bI (decide (kd= .font))=M4 kd:=by cases kd<;>rfl
theorem Bg.want{run Q9 gr ZC kp Ve CM C2 refs Bj cl kk en fn own font z0 z1:AK}(B:Bg A S kd m run Q9 gr ZC kp Ve CM C2 refs Bj cl kk en fn own font z0 z1 Z0 Z1 BU)(F:qO kd m)
  (t:Tag) (a:AK) (o:HO) (h:want A (vg kd c m run Q9 gr ZC kp Ve CM C2 refs cl kk en fn own font z0 z1 Z0 Z1) (sR A Bj Z0 Z1 BU) m t=some (a,o)):S t a o:=by
 cases t with
 | rest=>cases h
 | run=>
  have e:DU (vg kd c m run Q9 gr ZC kp Ve CM C2 refs cl kk en fn own font z0 z1 Z0 Z1) (sR A Bj Z0 Z1 BU) m=rnV A kd (.ref gr) (.ref font) (.ref fn) (.ref own) CM C2 refs Bj:=by
   unfold DU rnV bF
   rw[F.inFont,F.place,F.steps,F.loop,F.way,F.byte,AAH]
   by_cases k:kd= .font
   ·rw[Av k,AI rfl]
    have e:=B.fo k
    subst e
    rfl
   ·rw[D4 k,AG<|by decide]
    rfl
  have h:some (run,HO.ins (A.cl 1) Q9<|DU (vg kd c m run Q9 gr ZC kp Ve CM C2 refs cl kk en fn own font z0 z1 Z0 Z1) (sR A Bj Z0 Z1 BU) m)=some (a,o):=h
  rw[e]at h
  cases h
  exact B.run
 | gr=>
  have h:some (gr,HO.ins (A.cl 6) ZC [("units",.int<|AD m.units),("dots",.int<|AD m.dots),("cells",.ref cl),("controls",.ref kk),("twilight",.ref z0),("outline",.ref z1),("ends",.ref en),("kept",.ref kp),("still",.int<|bI m.still),("plain",.int<|bI m.plain)])=some (a,o):=h
  rw[F.still,F.plain]at h
  cases h
  exact B.gr
 | kp=>cases h;exact B.kp
 | CM=>
  have h:some (CM,HO.lst<|(BM m.going.length).map fun j=> .ref<|(sR A Bj Z0 Z1 BU).K6 j)=some (a,o):=h
  rw[F.going]at h
  cases h
  exact B.CM
 | C2=>
  have h:some (C2,HO.lst<|iV m.stack.reverse)=some (a,o):=h
  rw[F.stack]at h
  cases h
  exact B.C2
 | refs=>
  have h:some (refs,HO.lst [.int m.r0,.int m.r1,.int m.r2])=some (a,o):=h
  rw[F.r0,F.r1,F.r2]at h
  cases h
  exact B.refs
 | Bj=>
  have h:some (Bj,HO.lst [.int<|AD m.z0,.int<|AD m.z1,.int<|AD m.z2])=some (a,o):=h
  rw[F.z0,F.z1,F.z2]at h
  cases h
  exact B.Bj
 | cells=>cases h;exact B.cl
 | Cq=>cases h;exact B.kk
 | fn=>
  have h:(if kd= .font then some (fn,HO.dK BU)else none)=some (a,o):=h
  by_cases k:kd= .font
  ·rw[AI k]at h
   cases h
   exact B.fn k
  ·rw[AG k]at h
   cases h
 | zl z=>
  match z with
  | 0=>cases h;exact B.z0
  | 1=>cases h;exact B.z1
  | z+2=>
   simp only[GF.want]at h
   rw[AG<|show ¬ z+2<2 by lia]at h
   cases h
 | fr j=>
  have h:(if j<m.going.length then some _ else none)=some (a,o):=h
  rw[F.going,AG<|by show ¬ j<0;lia]at h
  cases h
 | pt z i=>
  match z with
  | 0=>
   have h:(if 0<2/\i<m.zone0.size then some (Z0.pp i,HO.ins (A.cl 3) (Z0.pd i)<|N0 (Z0.lo i) (Z0.ln i)<|AD<|m.zone0.mark i)else none)=some (a,o):=h
   by_cases k:0<2/\i<m.zone0.size
   ·rw[AI k,<-(B.i0 i k.2).2.2]at h
    cases h
    exact B.p0 _ _ _ ⟨i,k.2,.inl ⟨rfl,rfl,rfl⟩⟩
   ·rw[AG k]at h
    cases h
  | 1=>
   have h:(if 1<2/\i<m.zone1.size then some (Z1.pp i,HO.ins (A.cl 3) (Z1.pd i)<|N0 (Z1.lo i) (Z1.ln i)<|AD<|m.zone1.mark i)else none)=some (a,o):=h
   by_cases k:1<2/\i<m.zone1.size
   ·rw[AI k,<-(B.i1 i k.2).2.2]at h
    cases h
    exact B.p1 _ _ _ ⟨i,k.2,.inl ⟨rfl,rfl,rfl⟩⟩
   ·rw[AG k]at h
    cases h
  | z+2=>
   simp only[GF.want]at h
   rw[AG fun y=>absurd y.1<|show ¬ z+2<2 by lia]at h
   cases h
 | po z i=>
  match z with
  | 0=>
   have h:(if 0<2/\i<m.zone0.size then some (Z0.lo i,HO.lst<|pV<|m.zone0.was i)else none)=some (a,o):=h
   by_cases k:0<2/\i<m.zone0.size
   ·rw[AI k,<-(B.i0 i k.2).1]at h
    cases h
    exact B.p0 _ _ _ ⟨i,k.2,.inr<|.inl ⟨rfl,rfl,rfl⟩⟩
   ·rw[AG k]at h
    cases h
  | 1=>
   have h:(if 1<2/\i<m.zone1.size then some (Z1.lo i,HO.lst<|pV<|m.zone1.was i)else none)=some (a,o):=h
   by_cases k:1<2/\i<m.zone1.size
   ·rw[AI k,<-(B.i1 i k.2).1]at h
    cases h
    exact B.p1 _ _ _ ⟨i,k.2,.inr<|.inl ⟨rfl,rfl,rfl⟩⟩
   ·rw[AG k]at h
    cases h
  | z+2=>
   simp only[GF.want]at h
   rw[AG fun y=>absurd y.1<|show ¬ z+2<2 by lia]at h
   cases h
 | pn z i=>
  match z with
  | 0=>
   have h:(if 0<2/\i<m.zone0.size then some (Z0.ln i,HO.lst<|pV<|m.zone0.at_ i)else none)=some (a,o):=h
   by_cases k:0<2/\i<m.zone0.size
   ·rw[AI k,<-(B.i0 i k.2).2.1]at h
    cases h
    exact B.p0 _ _ _ ⟨i,k.2,.inr<|.inr ⟨rfl,rfl,rfl⟩⟩
   ·rw[AG k]at h
    cases h
  | 1=>
   have h:(if 1<2/\i<m.zone1.size then some (Z1.ln i,HO.lst<|pV<|m.zone1.at_ i)else none)=some (a,o):=h
   by_cases k:1<2/\i<m.zone1.size
   ·rw[AI k,<-(B.i1 i k.2).2.1]at h
    cases h
    exact B.p1 _ _ _ ⟨i,k.2,.inr<|.inr ⟨rfl,rfl,rfl⟩⟩
   ·rw[AG k]at h
    cases h
  | z+2=>
   simp only[GF.want]at h
   rw[AG fun y=>absurd y.1<|by lia]at h
   cases h
structure gn(W:Hp)(kd:Ht.Kind)(c:Ht.Codes)(m:Ht.M)(en fn own font:AK)(BU:List (Key×V)):Prop where
 down:W own=some (.lst (Tb c.own))
 wN:W font=some (.lst (Tb c.font))
 e_:c.own.length<=2048
 IV:c.font.length<=2048
 ends:W en=some (.lst (m.ends.map fun e=> .int (AD e)))
 jP:m.ends.length<=8
 Kv:N9 m.zone1.size m.ends
 fns:kd≠ .font->W fn=some (.dK BU)
 Vk:Zh BU m.funs
 c6: ∀ x∈m.funs,x.2<=c.font.length
 fk:kd= .font->own=font/\c.own=c.font
 kept:gH m.kept
 cells: ∀ x∈m.cells,FN x
 RB:m.cells.length<=64
 vals: ∀ x∈m.values,FN x
 Gn:m.values.length<=64
 zone0:LH m.zone0
 zone1:LH m.zone1
 units:16<=m.units/\m.units<=16384
 dots:m.dots<=1000
theorem gn.good{run Q9 gr ZC kp Ve CM C2 refs Bj cl kk en fn own font z0 z1:AK} [T:Txt K mg A](G:gn W kd c m en fn own font BU)(F:qO kd m):
  Good K W (vg kd c m run Q9 gr ZC kp Ve CM C2 refs cl kk en fn own font z0 z1 Z0 Z1) (sR A Bj Z0 Z1 BU) m where
 tP:=by rw[F.P];exact T.k.Hn W
 tF:=by rw[F.F];exact T.k.Hn W
 tQ:=by rw[F.Q];exact T.k.Hn W
 sP:=by rw[F.P];exact⟨by decide,by decide⟩
 sF:=by rw[F.F];exact⟨by decide,by decide⟩
 sQ:=by rw[F.Q];exact⟨by decide,by decide⟩
 own:=G.down
 font:=G.wN
 e_:=G.e_
 IV:=G.IV
 ends:=G.ends
 jP:=G.jP
 Kv:=G.Kv
 fns:=G.fns
 Vk:=G.Vk
 c6:=G.c6
 fk:=G.fk
 st:=by rw[F.stack];exact B7 _
 sti:=by rw[F.stack];exact fun _ z=>absurd z<|Ia
 r0:=by rw[F.r0];exact⟨by decide,by decide⟩
 r1:=by rw[F.r1];exact⟨by decide,by decide⟩
 r2:=by rw[F.r2];exact⟨by decide,by decide⟩
 z0:=by rw[F.z0];decide
 z1:=by rw[F.z1];decide
 z2:=by rw[F.z2];decide
 loop:=by rw[F.loop];exact⟨by decide,by decide⟩
 way:=by rw[F.way];decide
 byte:=by rw[F.byte];decide
 least:=G.kept.least
 cutin:=G.kept.cutin
 width:=G.kept.width
 wO:=G.kept.wO
 base:=G.kept.base
 shift:=G.kept.shift
 cells:=G.cells
 RB:=G.RB
 vals:=G.vals
 Gn:=G.Gn
 zone0:=G.zone0
 zone1:=G.zone1
 units:=G.units
 dots:=G.dots
 going:=by rw[F.going];exact B7 _
 jV:=by rw[F.going];exact fun _ z=>absurd z<|Ia
 br:=by rw[F.going];trivial
 place:=by rw[F.place];exact B7 _
 steps:=by rw[F.steps];exact B7 _
 nc:=rfl
 nv:=rfl
 n0:=rfl
 n1:=rfl
 un:=rfl
def R.begin_{run Q9 gr ZC kp Ve CM C2 refs Bj cl kk en fn own font z0 z1:AK} [T:Txt K mg A](n:Nw H0 H S)(B:Bg A S kd m run Q9 gr ZC kp Ve CM C2 refs Bj cl kk en fn own font z0 z1 Z0 Z1 BU)(F:qO kd m)
  (G:gn (TF S H) kd c m en fn own font BU):R K A (TF S H) (vg kd c m run Q9 gr ZC kp Ve CM C2 refs cl kk en fn own font z0 z1 Z0 Z1) (sR A Bj Z0 Z1 BU) m H:=
 R.make n (B.want F) (G.good F)
end
section
variable{K:AS}{mg:Str->Option AN}{A:B4}{H0 H H' W:Hp}{S:SS}{f:D7}{mo ca dd:AK}
noncomputable def sRn(A:B4)(S:SS)(p dx:AK)(kd:Ht.Kind)(gr fo fn co:V)(CM C2 refs Bj:AK):SS:=
 CZ (CZ (CZ (CZ (CZ S .CM CM<|.lst []) .C2 C2<|.lst []) .refs refs<|.lst [.int 0,.int 0,.int 0]) .Bj Bj<|.lst [.int 1,.int 1,.int 1]) .run p (.ins (A.cl 1) dx<|rnV A kd gr fo fn co CM C2 refs Bj)
noncomputable def AEI:Tag->Bool
 | .run | .Bj | .refs | .C2 | .CM=>true
 | _=>false
def Dr{CM C2 refs Bj:AK}(n:AEI t=false)(h:S t a o):sRn A S p dx kd gr fo fn co CM C2 refs Bj t a o:=
 .inr ⟨(fun z=>by subst z;cases n),.inr ⟨(fun z=>by subst z;cases n),.inr ⟨(fun z=>by subst z;cases n),.inr ⟨(fun z=>by subst z;cases n),.inr ⟨(fun z=>by subst z;cases n),h⟩⟩⟩⟩⟩
def uG(h:G_ A z n C t a o): ∃ i,t= .pt z i\/t= .po z i\/t= .pn z i:=by
 obtain⟨i,_,h⟩:=h
 rcases h with⟨rfl,_⟩ |⟨rfl,_⟩ |⟨rfl,_⟩
 ·exact⟨i,.inl rfl⟩
 ·exact⟨i,.inr<|.inl rfl⟩
 ·exact⟨i,.inr<|.inr rfl⟩
noncomputable def AAX:Tag->Bool
 | .pt _ _ | .po _ _ | .pn _ _=>true
 | _=>false
def Rz(h:G_ A z n C t a o):AAX t=true:=by
 obtain⟨i,rfl | rfl | rfl⟩:=uG h<;>rfl
def Mp(h:AAX t=true)(n:AAX u=false):t≠u:=fun z=>by rw[z,n]at h;cases h
def va(h:AAX t=true):AEI t=false:=by cases t<;>first | rfl | cases h
noncomputable def m0(f:D7)(d:Nat)(funs:List (Nat×Nat))(b:Bool):Ht.M:=qu f d (cG f.cells) (f.values.map<|Ht.scaled f.units d) (Ht.blank f.twilight) (Ht.blank 0) [] Ht.usual funs b
def zI(h:16<=u)(v:Int):Ht.scaled u 0 v=0:=by
 unfold Ht.scaled
 have e:64*v*AD 0=0:=by rw[show AD 0=0 from rfl,Int.mul_zero]
 rw[e]
 have e2:Ht.near 0 (AD u)=0:=by
  unfold Ht.near
  have:(0:Int)<AD u:=by show(0:Int)<(u:Int);lia
  rw[AG<|by lia,Fq _<|by lia]
  exact Int.ediv_eq_zero_of_lt (by lia)<|by lia
 rw[e2]
 rfl
def oY(h:16<=f.units):O9 f=m0 f 0 [] true:=by
 unfold O9 m0
 have e:f.values.map (Ht.scaled f.units 0)=cG f.values.length:=by
  unfold cG
  rw[Oi fun v _=>zI h v,List.map_const']
 rw[e]
def Lh:(Ht.blank n).size=n:=Im ..
def YC(h:i<n):(Ed n x).getD i y=x:=by
 rw[Cc,eK,AI h]
 rfl
def ACr(h:zer C n):t8 C (Ht.blank n):=fun i hi=>by
 rw[Lh]at hi
 obtain⟨a,b,c⟩:=h i hi
 refine⟨a.trans<|(YC hi).symm,b.trans<|(YC hi).symm,c.trans ?_⟩
 ·show 0=AD ((Ed n 0).getD i 0)
  rw[YC hi]
  rfl
theorem YV(h:n<=64):LH (Ht.blank n) where
 lo:=by show(Ed n _).length=(Ed n _).length;simp only[Im]
 lm:=by show(Ed n _).length=(Ed n _).length;simp only[Im]
 ZA:=by show(Ed n _).length<=64;rw[Im];exact h
 org:=fun x hx=>by rw[WN hx];exact⟨⟨by decide,by decide⟩,⟨by decide,by decide⟩⟩
 now:=fun x hx=>by rw[WN hx];exact⟨⟨by decide,by decide⟩,⟨by decide,by decide⟩⟩
 marks:=fun x hx=>by rw[WN hx];decide
theorem wj(x:Int):FN (Ht.cut x):=by unfold FN Ht.cut;lia
theorem bg0{p dx gr dg kp dk CM C2 refs Bj cl kk tw ol en fn own font:AK}(zc:zer C f.twilight)(hfn:kd= .font->S .fn fn (.dK BU))(ho:kd= .font->own=font):
  Bg A (sRn A (sG0 A S f d kk cl tw C gr dg ol en kp dk) p dx kd (.ref gr) (.ref font) (.ref fn) (.ref own) CM C2 refs Bj) kd (m0 f d funs b) p dx gr dg kp dk CM C2 refs Bj cl kk en fn own font tw ol C P0 BU where
 run:=B0
 gr:=Dr rfl B0
 kp:=Dr rfl<|.inr ⟨nofun,B0⟩
 CM:= .inr ⟨nofun,.inr ⟨nofun,.inr ⟨nofun,.inr ⟨nofun,B0⟩⟩⟩⟩
 C2:= .inr ⟨nofun,.inr ⟨nofun,.inr ⟨nofun,B0⟩⟩⟩
 refs:= .inr ⟨nofun,.inr ⟨nofun,B0⟩⟩
 Bj:= .inr ⟨nofun,B0⟩
 cl:=Dr rfl<|.inr ⟨nofun,.inr ⟨nofun,.inl<|.inl<|.inr ⟨nofun,.inl B0⟩⟩⟩
 kk:=Dr rfl<|.inr ⟨nofun,.inr ⟨nofun,.inl<|.inl<|.inr ⟨nofun,.inl<|.inr ⟨nofun,B0⟩⟩⟩⟩
 fn:=fun e=>Dr rfl<|.inr ⟨nofun,.inr ⟨nofun,.inl<|.inl<|.inr ⟨nofun,.inl<|.inr ⟨nofun,.inr ⟨nofun,hfn e⟩⟩⟩⟩⟩
 z0:=by
  show sRn A (sG0 A S f d kk cl tw C gr dg ol en kp dk) p dx kd (.ref gr) (.ref font) (.ref fn) (.ref own) CM C2 refs Bj (.zl 0) tw (.lst<|refsOf C (Ht.blank f.twilight).size)
  rw[Lh]
  exact Dr rfl<|.inr ⟨nofun,.inr ⟨nofun,.inl<|.inl B0⟩⟩
 z1:=Dr rfl<|.inr ⟨nofun,.inr ⟨nofun,.inl<|.inr ⟨rfl,rfl,rfl⟩⟩⟩
 p0:=fun t a o h=>by
  have h:G_ A 0 (Ht.blank f.twilight).size C t a o:=h
  rw[Lh]at h
  have i:=Rz h
  exact Dr (va i)<|.inr ⟨Mp i rfl,.inr ⟨Mp i rfl,.inl<|.inl<|.inr ⟨Mp i rfl,.inr h⟩⟩⟩
 p1:=fun t a o ⟨i,hi,_⟩=>absurd hi<|HM _
 i0:=ACr zc
 i1:=fun i hi=>absurd hi<|HM _
 fo:=ho
theorem good0(h1:W own=some (.lst<|Tb c.own))(h2:W font=some (.lst<|Tb c.font))(l1:c.own.length<=2048)(l2:c.font.length<=2048)(he:W en=some (.lst []))
  (hfn:kd≠ .font->W fn=some (.dK BU)) (fo:Zh BU funs) (fi: ∀ x∈funs,x.2<=c.font.length) (fk:kd= .font->own=font/\c.own=c.font) (lc:f.cells<=64) (lv:f.values.length<=64) (lt:f.twilight<=16) (u:16<=f.units/\f.units<=16384) (hd:d<=1000):
  gn W kd c (m0 f d funs b) en fn own font BU where
 down:=h1
 wN:=h2
 e_:=l1
 IV:=l2
 ends:=he
 jP:=B7 _
 Kv:=trivial
 fns:=hfn
 Vk:=fo
 c6:=fi
 fk:=fk
 kept:=YM
 cells:=fun x hx=>by rw[WN hx];exact⟨by decide,by decide⟩
 RB:=by show(Ed f.cells (0:Int)).length<=64;rw[Im];exact lc
 vals:=fun x hx=>by obtain⟨v,_,rfl⟩:=Fd.mp hx;exact wj _
 Gn:=by show(f.values.map _).length<=64;rw[A8];exact lv
 zone0:=YV<|CC lt<|by decide
 zone1:=YV<|by decide
 units:=u
 dots:=hd
section
variable{g:B2}{v:Var}{m:Ht.M}{om oc od:HO}
theorem R.lz(h:R K A W g v m H)(hm:W mo=some om)(hc:W ca=some oc/\W dd=some od){o:HO}(e:want A g v m t=some (a,o)):wo mo ca dd H a=some o:=X3 (h.at_ e) (h.Q6 e hm).symm (h.Q6 e hc.1).symm (h.Q6 e hc.2).symm
noncomputable def AEo(g:B2)(v:Var)(m:Ht.M)(z:Nat):QN:=⟨g.pp z,g.pd z,v.lo z,v.ln z,(m.zone z).was,(m.zone z).at_,fun i=>AD<|(m.zone z).mark i⟩
theorem R.aj(h:R K A W g v m H)(hm:W mo=some om)(hc:W ca=some oc/\W dd=some od)(hz:z<2):uD A (wo mo ca dd H) (g.zl z) (AEo g v m z) (m.zone z) where
 at_:=h.lz hm hc (t:= .zl z)<|by simp only[want];rw[AI hz];rfl
 ym:=fun i hi=>by
  have e1:want A g v m (.pt z i)=some (g.pp z i,.ins (A.cl 3) (g.pd z i)<|N0 (v.lo z i) (v.ln z i)<|AD<|(m.zone z).mark i):=by simp only[want];rw[AI ⟨hz,hi⟩]
  have e2:want A g v m (.po z i)=some (v.lo z i,.lst<|pV<|(m.zone z).was i):=by simp only[want];rw[AI ⟨hz,hi⟩]
  have e3:want A g v m (.pn z i)=some (v.ln z i,.lst<|pV<|(m.zone z).at_ i):=by simp only[want];rw[AI ⟨hz,hi⟩]
  exact⟨h.lz hm hc e1,h.lz hm hc e2,h.lz hm hc e3,h.apart e3 e2<|by intro z;cases z⟩
 t7:=fun i _=>⟨rfl,rfl,rfl⟩
 ZA:=by
  rcases(show z=0\/z=1 by lia)with rfl | rfl
  ·exact h.good.zone0.ZA
  ·exact h.good.zone1.ZA
theorem Good.kg(h:Good K W g v m):gH m.kept:=⟨h.least,h.cutin,h.width,h.wO,h.base,h.shift⟩
theorem R.AEz(h:R K A W g v m H)(hm:W mo=some om)(hc:W ca=some oc/\W dd=some od)(un:g.un=f.units)(nc:g.nc=f.cells)(nv:g.nv=f.values.length)(n0:g.n0=f.twilight):gJ A (wo mo ca dd H) f (PY m) (.ref g.gr) where
 ex:=by
  have z:=h.aj hm hc (z:=0)<|by decide
  have e:want A g v m .gr=some (g.gr,.ins (A.cl 6) g.ZC<|sj g m):=rfl
  refine⟨g.gr,g.ZC,g.cells,g.Cq,g.zl 0,g.zl 1,g.ends,g.kp,g.Ve,AEo g v m 0,rfl,⟨?_,h.lz hm hc (t:= .cells) rfl,h.lz hm hc (t:= .Cq) rfl,z.at_,z.ym,h.lz hm hc (t:= .kp) rfl⟩,z.t7⟩
  rw[<-un,<-h.good.un]
  exact h.lz hm hc e
 dots:=h.good.dots
 cells:=h.good.cells
 nc:=h.good.nc.trans nc
 vals:=h.good.vals
 nv:=h.good.nv.trans nv
 z:=h.good.zone0
 n0:=h.good.n0.trans n0
 kept:=h.good.kg
end
end
end GF
end
section
namespace GF
open PySem PySem.Spec PyProof.Rows L2
variable{P:BH}{w:Ap}{K:AS}{mg:Str->Option AN}{base:Ay}{A:B4}[T:Txt K mg A]
section
variable{H0 H H':Hp}{S:SS}{mo md ca cd a l:AK}{o:HO}{xs:List Int}{i n:Nat}{f:D7}
def ck(h: ∀ x∈r,0<=x/\x<=255):Tb (HW r)=iV r:=by
 unfold Tb HW iV
 rw[Oy]
 refine Oi fun x hx=>?_
 obtain⟨h1,h2⟩:=h x hx
 show V.int (AD (UInt8.ofNat x.toNat).toNat)= .int x
 rw[UInt8.toNat_ofNat']
 have:x.toNat%256=x.toNat:=Bu<|by lia
 rw[show(2:Nat)^8=256 from rfl,this,show AD x.toNat=x from Lv h1]
def text_len:(HW r).length=r.length:=A8 ..
theorem Sb: ∀{n:Nat} {m:Ht.M},Ht.run k c n m= .fault fl told->told.length=4
 | 0,m,h=>by cases h;rfl
 | n+1,m,h=>by
  rw[S5]at h
  split at h
  ·cases h
  ·split at h
   ·cases h;rfl
   ·exact Sb h
def O3{l:List Nat}:XW l=iV (l.map AD):=by unfold XW iV;rw[Oy];rfl
def kE(b: ¬ 2048<c.length)(e:Ht.runAll .font ⟨c,c⟩ (O9 f)= .done m):Bh f (.font c)=({f with font:=c,funs:=m.funs,size:=none,shape:=none},PU):=by
 have b': ¬ Cz f (.font c)=true:=fun y=>b<|An y
 unfold Bh
 rw[AG b']
 simp only[e,Ou]
def ka(b: ¬ 2048<c.length)(e:Ht.runAll .font ⟨c,c⟩ (O9 f)= .fault k told):Bh f (.font c)=(f,.refused<|-5::(k::told).map AD):=by
 have b': ¬ Cz f (.font c)=true:=fun y=>b<|An y
 unfold Bh
 rw[AG b']
 simp only[e,Ou]
 rfl
def vd{p dx gr dg kp dk CM C2 refs Bj cl kk tw ol en:AK}{x y z w:V}:sRn A (sG0 A S f d kk cl tw C gr dg ol en kp dk) p dx kd x y z w CM C2 refs Bj .rest en (.lst []):=
 Dr rfl (.inr ⟨nofun,.inr ⟨nofun,.inr ⟨rfl,rfl,rfl⟩⟩⟩)
def dF (TD:K1 P w K A):O0 P w base 12 185 ["machine","calls"] (GP K A 2):=by
 refine T.UD.F.DL ["machine","calls","code","functions","fault"] fun H vs Q E hr h=>?_
 obtain⟨dd,od,mo,md,ca,cd,a,xs,i,f,tc,fo,fu,sz,sh,c,t,rfl,h,hi,hcall,hask,q⟩:=h
 refine⟨_,(AB (AO 2<|BI AV C5 T.DN)<|AB (Aq (A0 DE (Dc T.k.CD<|Af Aj)<|Bt T.k.MH) (AF<|AY<|Ba<|Af<|Bt T.k.DA) AX)<|AB (AO 3 Xb)<|AB (AO 4<|Ah (OM TD) T.R6<|Af<|Fw T.c.wx OQ (hr.mono<|by decide) rfl T.c.uv T.SA.2 .nil Gp<|Cs (Bt T.k.ku)<|RQ (Ah RV T.Td<|Ax AH AE) Aj Aj A6)<|AB (Aq (A0 DE (Dc T.k.CD<|Af CG) AE) (AF<|AY<|AU Tx (Ba<|Af<|Bt T.k.ID) CG) AX)<|AB (BC AH Aj)<|AB (BC AH A6)<|AB (Ad<|Ah JO T.Jl<|Af AH)<|AF<|AY<|Ba<|Af<|Bt T.k.Jb),?_⟩
 obtain⟨hl,ys,er,rfl⟩:=call_of rfl hcall
 rw[G0]at er
 obtain⟨ra,ta,zsa,era,esa,rfl⟩:=E5 er
 obtain⟨ma,ema,lea,rfl,rfl⟩:=UE era
 cases (esa)
 have hx:Ip [[2],(xs.drop<|i+1).take ma]=some (.font<|HW<|(xs.drop<|i+1).take ma):=rfl
 refine⟨h.hc,rfl,h.rr ema lea fun l1 H1 h1 s1 r1 f1=>⟨.inl<|BF.of<|CT _ _ r1,?_⟩⟩
 have tb:=ck<|all_range<|hask
 rw[D6,<-(text_len (r:=(xs.drop<|i+1).take ma))]
 rw[<-tb]at r1
 obtain⟨co,eco⟩: ∃ co,co=HW ((xs.drop (i+1)).take ma):=⟨_,rfl⟩
 rw[<-eco]at hx r1 ⊢
 refine A7 (fun b1=>⟨(show 1<=sizeLine by decide),fun l2 hl2=>q.fin (ys:= [-1]) h1 s1 hl2 (JR hx<|Av<|BQ.mp<|An b1) (by lia) lea rfl<|by decide⟩) fun b1=>?_
 have c1: ¬ 2048<co.length:=fun z=>b1<|Av<|BQ.mpr z
 refine fun fn hfn=>?_
 have mf:=h1.mf
 refine⟨H1,_,mo,md,tc,fo,fu,sz,sh,f,0,rfl,by decide,mf.units,mf.Gn,mf.cl,mf.tw,h1.hm,CT _ _ mf.tc,(Nw.nil (H:=H1)).put (t:= .fn) (o:= .dK []) hfn,fun kk cl tw C gr dg ol en kp dk H2 zc n2=>?_⟩
 intro p dx np ndx ne
 refine⟨H1,_,p,dx,.font,_,_,_,_,rfl,((n2.ZN ndx).put<|(AQ ne.symm).trans np),fun CM C2 refs Bj H3 n3=>⟨rfl,?_⟩⟩
 refine⟨_,_,_,_,rfl,R.begin_ (K:=K) n3 (bg0 (kd:= .font) (funs:= []) (b:=true) (own:=l1) (font:=l1) (fn:=fn) (BU:= []) zc (fun _=>B0) fun _=>rfl) (Nc rfl)<|good0 (c:=⟨co,co⟩) (Bl n3<|CT _ _ r1) (Bl n3<|CT _ _ r1) (Ej c1) (Ej c1) (XQ n3 vd) (fun z=>absurd rfl z) jg (fun _ z=>absurd z<|Ia) (fun _=>⟨rfl,rfl⟩) mf.cl mf.Gn mf.tw mf.units<|B7 _,(fun m' er pl b W' v' H' l sw wl r' el=>?_),(fun fl told er pl b W' v' m' H' l sw wl r' el=>?_)⟩
 ·have re:Ht.runAll .font ⟨co,co⟩ (O9 f)= .done m':=by rw[oY mf.units.1];exact er
  have sH:Bc H1 H':=fun b o z=>r'.sub _ _<|sw _ _<|Bl n3 z
  have hl':=r'.sub _ _ el
  refine⟨.inl<|BF.of hl',?_⟩
  have h4:=h1.grow sH
  have k:=h4.ml
  refine⟨k.hm,Ao,(B8 rfl),?_⟩
  replace k:=k.set<|W_ f.units f.twilight f.cells tc l1 fu sz sh
  refine⟨k.hm,Ao,(B8 rfl),?_⟩
  replace k:=k.set<|W_ f.units f.twilight f.cells tc l1 fn sz sh
  refine⟨mo,md,_,_,_,_,_,_,_,_,rfl,k.hm,?_⟩
  replace k:=k.set<|W_ f.units f.twilight f.cells tc l1 fn .non .non
  refine⟨(by decide),fun l9 hl9=>?_⟩
  have sW:=DC (mo:=mo) (ca:=ca) (dd:=dd) sH
  exact q.fin (ys:= [0]) (g:={f with font:=co,funs:=m'.funs,size:=none,shape:=none}) (k.ms (f:={f with font:=co,funs:=m'.funs,size:=none,shape:=none}) ⟨h4.mf.tc,sW _ _ r1,⟨v'.BU,r'.lz (sw _ _<|Bl n3 h1.hm) (XG (sw _ _<|Bl n3 h1.hc)<|sw _ _<|Bl n3 h1.hd) (t:= .fn) rfl,r'.good.Vk⟩,r'.good.c6,Ej c1,mf.Gn,mf.vals,mf.units,mf.tw,mf.cl,.inl ⟨rfl,rfl⟩,.inl ⟨rfl,rfl⟩⟩) (aZ (s1.trans sW) k.w) hl9 (C4 hx<|kE c1 re) (by lia) lea rfl<|by decide
 ·have re:Ht.runAll .font ⟨co,co⟩ (O9 f)= .fault fl told:=by rw[oY mf.units.1];exact er
  have sH:Bc H1 H':=fun b o z=>r'.sub _ _<|sw _ _<|Bl n3 z
  have hl':=r'.sub _ _ el
  have tl:=Sb er
  refine⟨.inl<|BF.of hl',A7 (fun _=>?_) fun z=>absurd (Av<|BQ.mpr<|OZ _) z⟩
  refine⟨(by decide),fun l2 n2=>?_⟩
  have s2:=Bw (o:= .lst [.int<|-5]) n2
  refine⟨_,_,_,_,rfl,rfl,AJ,s2 _ _ hl',(by rw[O3,D6,A8];show 1+(told.length+1)<=sizeLine;rw[tl];decide),fun l3 n3=>?_⟩
  rw[O3]
  exact q.fin ((h1.grow sH).grow s2) (s1.trans<|DC<|sH.trans s2) n3 (C4 hx<|ka c1 re) (by lia) lea rfl<|by show((fl::told).map AD).length+1<=200;rw[A8];show told.length+1+1<=200;rw[tl];decide
end
section
variable{H0 H H':Hp}{S:SS}{mo md ca cd a l:AK}{o:HO}{xs:List Int}{i n:Nat}{f:D7}
def Rj:Cz f (.size d c)=(decide (d<1)||(decide (1000<d)||decide (2048<c.length))):=rfl
def kh(b: ¬ Cz f (.size d c)=true)(e:Ht.runAll .size ⟨c,f.font⟩ (lu f d)= .done m):Bh f (.size d c)=({f with size:=some<|PY m,shape:=none},PU):=by
 unfold Bh
 rw[AG b]
 simp only[e,Ou]
def ju(b: ¬ Cz f (.size d c)=true)(e:Ht.runAll .size ⟨c,f.font⟩ (lu f d)= .fault k told):Bh f (.size d c)=(f,.refused<|-5::(k::told).map AD):=by
 unfold Bh
 rw[AG b]
 simp only[e,Ou]
 rfl
def fE (TD:K1 P w K A):O0 P w base 12 186 ["machine","calls"] (GP K A 3):=by
 refine T.Ug.F.DL ["machine","calls","dots","code","ground","fault"] fun H vs Q E hr h=>?_
 obtain⟨dd,od,mo,md,ca,cd,a,xs,i,f,tc,fo,fu,sz,sh,c,t,rfl,h,hi,hcall,hask,q⟩:=h
 refine⟨_,(AB (AO 2<|BI AV As T.A3)<|AB (AO 3<|BI AV C5 T.DN)<|AB (Aq (PW.pt<|Fy (A0 Dq Aj AE)<|Fy (A0 DE Aj AE)<|GL<|A0 DE (Dc T.k.CD<|Af A6)<|Bt T.k.MH) (AF<|AY<|Ba<|Af<|Bt T.k.DA) AX)<|AB (AO 4<|Ah RV T.Td<|Ax AH Aj)<|AB (AO 5<|Ah (OM TD) T.R6<|Af<|Fw T.c.wx OQ (hr.mono<|by decide) rfl T.c.uv T.SA.2 .nil Gp<|Cs (Bt T.k.ug)<|RQ CG A6 (AR AH)<|AR AH)<|AB (Aq (A0 DE (Dc T.k.CD<|Af ET) AE) (AF<|AY<|AU Tx (Ba<|Af<|Bt T.k.ID) ET) AX)<|AB (BC AH CG)<|AB (BC AH XN)<|AF<|AY<|Ba<|Af<|Bt T.k.Jb),?_⟩
 obtain⟨hl,ys,er,rfl⟩:=call_of rfl hcall
 have hl2:i+1<=xs.length:=by rw[Gs]at hl;lia
 rw[FJ]at er
 obtain⟨ra,ta,zsa,era,esa,rfl⟩:=E5 er
 obtain⟨ma,ema,lea,rfl,rfl⟩:=UE era
 cases (esa)
 obtain⟨x0,e0⟩:=Ey (xs:=xs) (i:=i+0)<|by lia
 rw[jZ hl<|IS.trans e0]at hask q
 have ha:=Cu<|hask
 obtain⟨d,rfl,_⟩:=xc ha.1
 have hx:Ip [[3,AD d],(xs.drop<|i+1+1).take ma]=some (.size d<|HW<|(xs.drop<|i+1+1).take ma):=rfl
 refine⟨h.hc,rfl,h.rn e0 fun H0 h0 w0=>⟨h0.hc,rfl,h0.rr ema lea fun l1 H1 h1 s1 r1 f1=>?_⟩⟩
 have tb:=ck<|all_range ha.2
 have tln:=text_len (r:=(xs.drop<|i+1+1).take ma)
 rw[<-tb]at r1
 obtain⟨co,eco⟩: ∃ co,co=HW ((xs.drop (i+1+1)).take ma):=⟨_,rfl⟩
 rw[<-eco]at hx r1 tln
 have sm:Bc (wo mo ca dd H) (wo mo ca dd H1):=by rw[<-w0];exact s1
 have bad:Cz f (.size d co)=true-> ∀ l,H1 l=none->Q (.ref l) (upd H1 l<|.lst [.int<|-1]):=fun b l hl=>q.fin h1 sm hl (JR hx b) (by lia) lea rfl<|by decide
 refine A7 (fun b1=>⟨(show 1<=sizeLine by decide),fun l hl=>bad (by rw[Rj];exact jR<|Av<|BQ.mp<|An b1) l hl⟩) fun b1=>?_
 refine A7 (fun b2=>⟨(show 1<=sizeLine by decide),fun l hl=>bad (by rw[Rj];exact Qc<|jR<|Av<|BQ.mp<|An b2) l hl⟩) fun b2=>?_
 refine⟨.inl<|BF.of<|CT _ _ r1,?_⟩
 have bln:(Tb co).length=co.length:=A8 ..
 rw[bln]
 refine A7 (fun b3=>⟨(show 1<=sizeLine by decide),fun l hl=>bad (by rw[Rj];exact Qc<|Qc<|Av<|BQ.mp<|An b3) l hl⟩) fun b3=>?_
 have c1: ¬ d<1:=fun z=>b1<|Av<|BQ.mpr z
 have c2: ¬ 1000<d:=fun z=>b2<|Av<|BQ.mpr z
 have c3: ¬ 2048<co.length:=fun z=>b3<|Av<|BQ.mpr z
 have good: ¬ Cz f (.size d co)=true:=by rw[Rj,D4 c1,D4 c2,D4 c3];decide
 have mf:=h1.mf
 obtain⟨BU,hfu,fof⟩:=mf.fu
 refine⟨H1,_,mo,md,tc,fo,fu,sz,sh,f,d,rfl,Ej c2,mf.units,mf.Gn,mf.cl,mf.tw,h1.hm,CT _ _ mf.tc,Nw.nil,fun kk cl tw C gr dg ol en kp dk H2 zc n2=>⟨(n2.same _ _ h1.hm),Ao,rfl,(n2.same _ _ h1.hm),Ao,rfl,?_⟩⟩
 intro p dx np ndx ne
 refine⟨H1,_,p,dx,.size,_,_,_,_,rfl,((n2.ZN ndx).put<|(AQ ne.symm).trans np),fun CM C2 refs Bj H3 n3=>⟨rfl,?_⟩⟩
 refine⟨_,_,_,_,rfl,R.begin_ (K:=K) n3 (bg0 (kd:= .size) (funs:=f.funs) (b:=false) (own:=l1) (font:=fo) (fn:=fu) (BU:=BU) zc nofun nofun) (Nc rfl)<|good0 (c:=⟨co,f.font⟩) (Bl n3<|CT _ _ r1) (Bl n3<|CT _ _ mf.fo) (Ej c3) mf.IV (XQ n3 vd) (fun _=>Bl n3<|CT _ _ hfu) fof mf.fin nofun mf.cl mf.Gn mf.tw mf.units (Ej c2),(fun m' er pl b W' v' H' l sw wl r' el=>?_),(fun fl told er pl b W' v' m' H' l sw wl r' el=>?_)⟩
 ·have re:=er
  have sH:Bc H1 H':=fun b o z=>r'.sub _ _<|sw _ _<|Bl n3 z
  have hl':=r'.sub _ _ el
  refine⟨.inl<|BF.of hl',?_⟩
  have h4:=h1.grow sH
  have k:=h4.ml
  refine⟨k.hm,Ao,(B8 rfl),?_⟩
  replace k:=k.set<|W_ f.units f.twilight f.cells tc fo fu (.ref gr) sh
  refine⟨k.hm,Ao,(B8 rfl),?_⟩
  replace k:=k.set<|W_ f.units f.twilight f.cells tc fo fu (.ref gr) .non
  refine⟨(by decide),fun l9 hl9=>?_⟩
  have mf4:=h4.mf
  have szk:=r'.AEz (sw _ _<|Bl n3 h1.hm) (XG (sw _ _<|Bl n3 h1.hc)<|sw _ _<|Bl n3 h1.hd) rfl (Im ..) (A8 ..) Lh
  have szk2:gJ A (wo mo ca dd H') {f with size:=some<|PY m',shape:=none} (PY m') (.ref gr):=⟨szk.ex,szk.dots,szk.cells,szk.nc,szk.vals,szk.nv,szk.z,szk.n0,szk.kept⟩
  exact q.fin (ys:= [0]) (g:={f with size:=some<|PY m',shape:=none}) (k.ms (f:={f with size:=some<|PY m',shape:=none}) ⟨mf4.tc,mf4.fo,mf4.fu,mf.fin,mf.IV,mf.Gn,mf.vals,mf.units,mf.tw,mf.cl,.inr ⟨_,rfl,szk2⟩,.inl ⟨rfl,rfl⟩⟩) (aZ (sm.trans<|DC (mo:=mo) (ca:=ca) (dd:=dd) sH) k.w) hl9 (C4 hx<|kh good re) (by lia) lea rfl<|by decide
 ·have sH:Bc H1 H':=fun b o z=>r'.sub _ _ (sw _ _<|Bl n3 z)
  have hl':=r'.sub _ _ el
  have tl:=Sb er
  refine⟨.inl<|BF.of hl',A7 (fun _=>?_) fun z=>absurd (Av<|BQ.mpr<|OZ _) z⟩
  refine⟨(by decide),fun l2 n2=>?_⟩
  have s2:=Bw (o:= .lst [.int<|-5]) n2
  refine⟨_,_,_,_,rfl,rfl,AJ,s2 _ _ hl',(by rw[O3,D6,A8];show 1+(told.length+1)<=sizeLine;rw[tl];decide),fun l3 n3=>?_⟩
  rw[O3]
  exact q.fin ((h1.grow sH).grow s2) (sm.trans<|DC<|sH.trans s2) n3 (C4 hx<|ju good er) (by lia) lea rfl<|by show((fl::told).map AD).length+1<=200;rw[A8];show told.length+1+1<=200;rw[tl];decide
end
end GF
end
section
namespace GF
open PySem PySem.Spec PyProof.Rows L2
section
variable{K:AS}{mg:Str->Option AN}{A:B4}{H0 H H' W:Hp}{S:SS}{f:D7}{mo ca dd:AK}
theorem jx: ∀{ps:List Int},bY ps=true->ps.length=3*(HB ps).length/\ ∀ i,i<(HB ps).length->(HB ps)[i]?=some (ps.getD (3*i) 0,ps.getD (3*i+1) 0,J4<|ps.getD (3*i+2) 0)/\0<=ps.getD (3*i+2) 0
 | [],_=>⟨rfl,fun i h=>absurd h<|HM _⟩
 | [_],h=>by cases h
 | [_,_],h=>by cases h
 | x::y::k::r,h=>by
  have h:(decide (-32768<=x)&&(decide (x<=32767)&&(decide (-32768<=y)&&(decide (y<=32767)&&(decide (0<=k)&&(decide (k<=255)&&bY r))))))=true:=h
  have h5:=(Cu (Cu (Cu (Cu h).2).2).2).2
  have hk:=An (Cu h5).1
  obtain⟨i1,i2⟩:=jx (Cu (Cu h5).2).2
  refine⟨?_,fun i hi=>?_⟩
  ·show r.length+1+1+1=3*((HB r).length+1)
   lia
  ·match i with
   | 0=>exact⟨rfl,hk⟩
   | j+1=>
    have hj:j<(HB r).length:=by
     have:j+1<(HB r).length+1:=hi
     lia
    have e0:3*(j+1)=3*j+1+1+1:=by lia
    have e1:3*(j+1)+1=3*j+1+1+1+1:=by lia
    have e2:3*(j+1)+2=3*j+2+1+1+1:=by lia
    rw[e1,e2,e0]
    exact i2 j hj
def OI:(Ft f d g).size=g.points.length:=A8 ..
def getD_map{l:List α}{g:α->β}{x:α}{y:β}(h:l[i]?=some x):(l.map g).getD i y=g x:=by
 rw[Cc,CY,h]
 rfl
def tY(hp:bY ps=true)(io:ny f.units d ps C (HB ps).length):t8 C (Ft f d ⟨HB ps,es,co⟩):=fun i hi=>by
 rw[OI]at hi
 obtain⟨e,pos⟩:=(jx hp).2 i hi
 obtain⟨a,b,c⟩:=io i hi
 refine⟨a.trans<|(getD_map (g:=fun p:Int×Int×Nat=>(Ht.scaled f.units d p.1,Ht.scaled f.units d p.2.1)) (y:=(0,0)) e).symm,b.trans<|(getD_map (g:=fun p:Int×Int×Nat=>(Ht.scaled f.units d p.1,Ht.scaled f.units d p.2.1)) (y:=(0,0)) e).symm,c.trans ?_⟩
 ·show _=AD (((HB ps).map fun p=>p.2.2%2).getD i 0)
  rw[getD_map e]
  show _=((J4 (ps.getD (3*i+2) 0)%2:Nat):Int)
  unfold J4
  lia
theorem jB(h:g.points.length<=64):LH (Ft f d g) where
 lo:=rfl
 lm:=by show(g.points.map _).length=(g.points.map _).length;simp only[A8]
 ZA:=by show(g.points.map _).length<=64;rw[A8];exact h
 org:=fun x hx=>by obtain⟨v,_,rfl⟩:=Fd.mp hx;exact⟨Du _,Du _⟩
 now:=fun x hx=>by obtain⟨v,_,rfl⟩:=Fd.mp hx;exact⟨Du _,Du _⟩
 marks:=fun x hx=>by obtain⟨v,_,rfl⟩:=Fd.mp hx;show v.2.2%2<8;lia
theorem aR: ∀{es:List Nat},GX es=true->(∀ e∈es,e<n)->N9 n es
 | [],_,_=>trivial
 | [a],_,h=>h a<|gA.mpr rfl
 | a::b::l,r,h=>by
  have r:(decide (a<b)&&GX (b::l))=true:=r
  exact⟨An (Cu r).1,aR (Cu r).2 fun e he=>h e<|C0 _ he⟩
def Vx:fit n (-1) es=true↔GX es=true/\ ∀ e∈es,e<n:=by
 rw[pN]
 exact⟨fun h=>h.2,fun h=>⟨fun e _=>by show(-1:Int)<(e:Int);lia,h⟩⟩
theorem zf:(!GX es||es.any fun e=>decide (n<=e))=!fit n (-1) es:=by
 cases q:fit n (-1) es with
 | true=>
  obtain⟨a,b⟩:=Vx.mp q
  rw[a]
  show(es.any fun e=>decide (n<=e))=false
  rw[eC]
  intro e he z
  exact absurd (An z)<|by have:=b e he;lia
 | false=>
  cases r:GX es with
  | false=>rfl
  | true=>
   cases s:es.any fun e=>decide (n<=e)with
   | true=>rfl
   | false=>
    have:=Vx.mpr ⟨r,fun e he=>by
     exact fH fun y=>(eC.mp s e he)<|Av y⟩
    rw[q]at this
    cases this
def tS:Cz f (.shape g)=(decide (64<g.points.length)||(decide (8<g.ends.length)||(decide (2048<g.code.length)||!fit g.points.length (-1) g.ends))):=by
 rw[<-zf]
 rfl
theorem u9: ∀{r:List Int},(∀ x∈r,0<=x)->iV r=XW (r.map J4)
 | [],_=>rfl
 | x::r,h=>by
  show V.int x::iV r=V.int (AD x.toNat)::XW (r.map J4)
  rw[u9 fun y hy=>h y<|C0 _ hy,show AD x.toNat=x from Lv<|h x<|D0 ..]
def ADS{r:List Int}(h:r.all c7=true): ∀ x∈r,0<=x:=fun x hx=>by
 obtain⟨n,rfl,_⟩:=xc<|F7.mp h x hx
 exact FG n
def iM(b: ¬ Cz f (.shape g)=true)(e:f.size=none):Bh f (.shape g)=(f,V9<|-2):=by
 unfold Bh
 rw[AG b]
 simp only[e]
def iW(b: ¬ Cz f (.shape g)=true)(e:f.size=some s)(st:s.still=true):Bh f (.shape g)=({f with shape:=some (s.zone0,Ft f s.dots g)},PU):=by
 unfold Bh
 rw[AG b]
 simp only[e,st,D8]
def jY(b: ¬ Cz f (.shape g)=true)(e:f.size=some s)(st:s.still=false)(r:Ht.runAll .shape ⟨g.code,f.font⟩ (J2 f s g)= .done m):
  Bh f (.shape g)=({f with shape:=some (m.zone0,m.zone1)},PU):=by
 unfold Bh
 rw[AG b]
 simp only[e,st,Wk,FH,r,Ou]
def iZ(b: ¬ Cz f (.shape g)=true)(e:f.size=some s)(st:s.still=false)(r:Ht.runAll .shape ⟨g.code,f.font⟩ (J2 f s g)= .fault k told):
  Bh f (.shape g)=(f,.refused<|-5::(k::told).map AD):=by
 unfold Bh
 rw[AG b]
 simp only[e,st,Wk,FH,r,Ou]
 rfl
theorem Nw.lz(n:Nw H0 H S)(hm:H0 mo=some om)(hc:H0 ca=some oc/\H0 dd=some od)(h:S t a o):wo mo ca dd H a=some o:=
 X3 (n.at_ _ _ _ h).1 (Ac hm (n.at_ _ _ _ h).2).symm (Ac hc.1 (n.at_ _ _ _ h).2).symm (Ac hc.2 (n.at_ _ _ _ h).2).symm
theorem Nw.aj(n:Nw H0 H S)(hm:H0 mo=some om)(hc:H0 ca=some oc/\H0 dd=some od)(hz:S (.zl z) a (.lst<|refsOf C y.size))(hp: ∀ t a o,G_ A z y.size C t a o->S t a o)(t7:t8 C y)(ZA:y.size<=64):uD A (wo mo ca dd H) a C y where
 at_:=n.lz hm hc hz
 ym:=fun i hi=>by
  have e1:=hp _ _ _ ⟨i,hi,.inl ⟨rfl,rfl,rfl⟩⟩
  have e2:=hp _ _ _ ⟨i,hi,.inr<|.inl ⟨rfl,rfl,rfl⟩⟩
  have e3:=hp _ _ _ ⟨i,hi,.inr<|.inr ⟨rfl,rfl,rfl⟩⟩
  refine⟨n.lz hm hc e1,n.lz hm hc e2,n.lz hm hc e3,fun q=>?_⟩
  rw[q]at e2
  exact absurd (n.one _ _ _ _ _ e2 e3)<|by intro z;cases z
 t7:=t7
 ZA:=ZA
noncomputable def xb(A:B4)(f:D7)(s:eG)(lo le:AK)(C D:QN)(n:Nat)(gr dg cl kk tw kp dk ol1 en1:AK):SS:=
 sGs A (CZ (R9 AEa<|G_ A 1 n C) (.zl 1) lo<|.lst<|refsOf C n) gr dg (.int<|AD f.units) (.int<|AD s.dots) cl kk tw (.ref lo) (.ref le) kp dk (if bI s.plain=0 then s.kept else Ht.usual) (iV s.cells) (iV s.values) D s.zone0.size ol1 en1
section
variable{s:eG}{lo le:AK}{C D:QN}{n:Nat}{gr dg cl kk tw kp dk ol1 en1:AK}
def w_:xb A f s lo le C D n gr dg cl kk tw kp dk ol1 en1 .gr gr (.ins (A.cl 6) dg<|grV (.int<|AD f.units) (.int<|AD s.dots) cl kk tw lo le kp 0 0):=B0
def ABo:xb A f s lo le C D n gr dg cl kk tw kp dk ol1 en1 .kp kp (.ins (A.cl 5) dk<|S3<|if bI s.plain=0 then s.kept else Ht.usual):= .inr ⟨nofun,B0⟩
def uf:xb A f s lo le C D n gr dg cl kk tw kp dk ol1 en1 (.zl 0) tw (.lst<|refsOf D s.zone0.size):= .inr ⟨nofun,.inr ⟨nofun,.inl<|.inl B0⟩⟩
def ACH:xb A f s lo le C D n gr dg cl kk tw kp dk ol1 en1 .cells cl (.lst<|iV s.cells):= .inr ⟨nofun,.inr ⟨nofun,.inl<|.inl<|.inr ⟨nofun,.inl<|.inr ⟨nofun,B0⟩⟩⟩⟩
def ABw:xb A f s lo le C D n gr dg cl kk tw kp dk ol1 en1 .Cq kk (.lst<|iV s.values):= .inr ⟨nofun,.inr ⟨nofun,.inl<|.inl<|.inr ⟨nofun,.inl B0⟩⟩⟩
def vW:xb A f s lo le C D n gr dg cl kk tw kp dk ol1 en1 (.zl 1) lo (.lst<|refsOf C n):= .inr ⟨nofun,.inr ⟨nofun,.inl<|.inl<|.inr ⟨nofun,.inl<|.inr ⟨nofun,.inr ⟨nofun,B0⟩⟩⟩⟩⟩
def vb(h:G_ A 0 s.zone0.size D t a o):xb A f s lo le C D n gr dg cl kk tw kp dk ol1 en1 t a o:=by
 have i:=Rz h
 exact .inr ⟨Mp i rfl,.inr ⟨Mp i rfl,.inl<|.inl<|.inr ⟨Mp i rfl,.inr h⟩⟩⟩
def ua(h:G_ A 1 n C t a o):xb A f s lo le C D n gr dg cl kk tw kp dk ol1 en1 t a o:=by
 have i:=Rz h
 exact .inr ⟨Mp i rfl,.inr ⟨Mp i rfl,.inl<|.inl<|.inr ⟨Mp i rfl,.inl<|.inr ⟨Mp i rfl,.inr ⟨Mp i rfl,.inr ⟨Mp i rfl,.inr h⟩⟩⟩⟩⟩⟩
def zJ:(if bI s.plain=0 then s.kept else Ht.usual)=if s.plain=true then Ht.usual else s.kept:=by
 cases s.plain<;>rfl
def xS(al:alike D B s.zone0.size)(t7:t8 B s.zone0):t8 D s.zone0:=fun i hi=>by
 obtain⟨a,b,c⟩:=al i hi
 obtain⟨a',b',c'⟩:=t7 i hi
 exact⟨a.trans a',b.trans b',c.trans c'⟩
theorem bgS{p dx CM C2 refs Bj fn own font:AK}(hn:n=(Ft f s.dots g).size)(i0:t8 D s.zone0)(i1:t8 C (Ft f s.dots g)):
  Bg A (sRn A (xb A f s lo le C D n gr dg cl kk tw kp dk ol1 en1) p dx .shape (.ref gr) (.ref font) (.ref fn) (.ref own) CM C2 refs Bj) .shape (J2 f s g) p dx gr dg kp dk CM C2 refs Bj cl kk le fn own font tw lo D C BU where
 run:=B0
 gr:=Dr rfl w_
 kp:=by
  show sRn A _ p dx .shape _ _ _ _ CM C2 refs Bj .kp kp (.ins (A.cl 5) dk<|S3<|if s.plain=true then Ht.usual else s.kept)
  rw[<-zJ]
  exact Dr rfl ABo
 CM:= .inr ⟨nofun,.inr ⟨nofun,.inr ⟨nofun,.inr ⟨nofun,B0⟩⟩⟩⟩
 C2:= .inr ⟨nofun,.inr ⟨nofun,.inr ⟨nofun,B0⟩⟩⟩
 refs:= .inr ⟨nofun,.inr ⟨nofun,B0⟩⟩
 Bj:= .inr ⟨nofun,B0⟩
 cl:=Dr rfl ACH
 kk:=Dr rfl ABw
 fn:=nofun
 z0:=Dr rfl uf
 z1:=by
  show sRn A _ p dx .shape _ _ _ _ CM C2 refs Bj (.zl 1) lo (.lst<|refsOf C (Ft f s.dots g).size)
  rw[<-hn]
  exact Dr rfl vW
 p0:=fun t a o h=>Dr (va<|Rz h)<|vb h
 p1:=fun t a o h=>by
  have h:G_ A 1 (Ft f s.dots g).size C t a o:=h
  rw[<-hn]at h
  exact Dr (va<|Rz h)<|ua h
 i0:=i0
 i1:=i1
 fo:=nofun
end
theorem AD5(h1:W own=some (.lst<|Tb g.code))(h2:W font=some (.lst<|Tb f.font))(l1:g.code.length<=2048)(l2:f.font.length<=2048)(he:W le=some (.lst<|XW g.ends))(l3:g.ends.length<=8)(l4:g.points.length<=64)
  (fi:fit g.points.length (-1) g.ends=true) (hfn:W fn=some (.dK BU)) (fo:Zh BU f.funs) (fin: ∀ x∈f.funs,x.2<=f.font.length) (lc:f.cells<=64) (lv:f.values.length<=64) (u:16<=f.units/\f.units<=16384) (ok:gJ A H f s sz):
  gn W .shape ⟨g.code,f.font⟩ (J2 f s g) le fn own font BU where
 down:=h1
 wN:=h2
 e_:=l1
 IV:=l2
 ends:=he
 jP:=l3
 Kv:=by
  show N9 (Ft f s.dots g).size g.ends
  rw[OI]
  exact aR (Vx.mp fi).1 (Vx.mp fi).2
 fns:=fun _=>hfn
 Vk:=fo
 c6:=fin
 fk:=nofun
 kept:=by
  show gH (if s.plain=true then Ht.usual else s.kept)
  split
  ·exact YM
  ·exact ok.kept
 cells:=ok.cells
 RB:=by rw[show(J2 f s g).cells.length=f.cells from ok.nc];exact lc
 vals:=ok.vals
 Gn:=by rw[show(J2 f s g).values.length=f.values.length from ok.nv];exact lv
 zone0:=ok.z
 zone1:=jB l4
 units:=u
 dots:=ok.dots
end
end GF
end
section
namespace GF
open PySem PySem.Spec PyProof.Rows L2
variable{P:BH}{w:Ap}{K:AS}{mg:Str->Option AN}{base:Ay}{A:B4}[T:Txt K mg A]
section
variable{H0 H H':Hp}{S:SS}{mo md ca cd a l:AK}{o:HO}{xs:List Int}{i n:Nat}{f:D7}
def ADR:BN ((3*n:Nat):Int) 3=AD n:=by
 rw[Fq _<|by decide]
 lia
def ZJ (TD:K1 P w K A):O0 P w base 12 189 ["machine","calls"] (GP K A 4):=by
 refine T.QP.F.DL ["machine","calls","points","ends","code","point_count","ground","fault"] @fun _ _ _ s H vs Q E hr h=>?_
 obtain⟨dd,od,mo,md,ca,cd,a,xs,i,f,tc,fo,fu,sz,sh,c,t,rfl,h,hi,hcall,hask,q⟩:=h
 refine⟨_,(AB (AO 2<|BI AV C5 T.DN)<|AB (AO 3<|BI AV C5 T.DN)<|AB (AO 4<|BI AV C5 T.DN)<|AB (AO 5<|AU Bn (Dc T.k.CD<|Af Aj) AE)<|AB (Aq (PW.pt<|Fy (A0 DE ET AE)<|Fy (A0 DE (Dc T.k.CD<|Af A6) AE)<|Fy (A0 DE (Dc T.k.CD<|Af CG)<|Bt T.k.MH)<|GL<|w6<|MN<|Ah gV T.iO<|Ax A6 ET) (AF<|AY<|Ba<|Af<|Bt T.k.DA) AX)<|AB (Aq (KW<|Kg<|AR AH) (AF<|AY<|Ba<|Af<|Bt T.k.F_) AX)<|AB (AO 6<|Ah Pk T.LK<|CH (AR AH) (Ah ZL T.YS<|Ax (AR AH) Aj) A6)<|AB (Aq (A0 BD (AR<|AR AH) AE) (AB (AO 7<|Ah (OM TD) T.R6<|Af<|Fw T.c.wx OQ (hr.mono<|by decide) rfl T.c.uv T.SA.2 .nil Gp<|Cs (Bt T.k.yE)<|RQ (pv 6) CG (AR AH)<|AR AH)<|AF<|Aq (A0 DE (Dc T.k.CD<|Af<|pv 7) AE) (AF<|AY<|AU Tx (Ba<|Af<|Bt T.k.ID)<|pv 7) AX) AX)<|AB (BC AH<|JK<|Ax (AR<|pv 6)<|AR<|pv 6)<|AF<|AY<|Ba<|Af<|Bt T.k.Jb),?_⟩
 obtain⟨hl,ys,er,rfl⟩:=call_of rfl hcall
 rw[G0]at er
 obtain⟨ra,ta,zsa,era,esa,rfl⟩:=E5 er
 obtain⟨ma,ema,lea,rfl,rfl⟩:=UE era
 obtain⟨rb,tb,zsb,erb,esb,rfl⟩:=E5 esa
 obtain⟨mb,emb,leb,rfl,rfl⟩:=UE erb
 obtain⟨rc,tc,zsc,erc,esc,rfl⟩:=E5 esb
 obtain⟨mc,emc,lec,rfl,rfl⟩:=UE erc
 cases (esc)
 obtain⟨pr,epr⟩: ∃ pr,pr=(xs.drop (i+1)).take ma:=⟨_,rfl⟩
 obtain⟨en,een⟩: ∃ en,en=(xs.drop (i+1+ma+1)).take mb:=⟨_,rfl⟩
 obtain⟨cr,ecr⟩: ∃ cr,cr=(xs.drop (i+1+ma+1+mb+1)).take mc:=⟨_,rfl⟩
 rw[<-epr,<-een,<-ecr]at q hask
 have ha:=Cu<|hask
 have hpo:=ha.1
 have hps:=(jx hpo).1
 have hx:Ip [[4],pr,en,cr]=some (.shape ⟨HB pr,en.map J4,HW cr⟩):=rfl
 refine⟨h.hc,rfl,h.rr ema lea fun l1 H1 h1 s1 r1 f1=>⟨h1.hc,rfl,h1.rr emb leb fun l2 H2 h2 s2 r2 f2=>⟨h2.hc,rfl,h2.rr emc lec fun l3 H3 h3 s3 r3 f3=>?_⟩⟩⟩
 rw[<-epr]at r1
 rw[<-een]at r2
 rw[<-ecr]at r3
 replace r1:=s3 _ _<|s2 _ _ r1
 replace r2:=s3 _ _ r2
 have sm:=s1.trans<|s2.trans s3
 rw[u9<|ADS (Cu ha.2).1]at r2
 rw[<-ck (all_range (Cu ha.2).2)]at r3
 obtain⟨np_,enp⟩: ∃ n,n=(HB pr).length:=⟨_,rfl⟩
 obtain⟨g,eg⟩: ∃ g:Wrhint.Given,g=⟨HB pr,en.map J4,HW cr⟩:=⟨_,rfl⟩
 have g1:g.points.length=np_:=by rw[eg,enp]
 have g2:g.ends=en.map J4:=by rw[eg]
 have g3:g.code=HW cr:=by rw[eg]
 rw[<-eg]at hx
 rw[<-g2]at r2
 rw[<-g3]at r3
 have epc:BN ((iV pr).length:Int) 3=AD np_:=by rw[D6,hps,<-enp];exact ADR
 refine⟨.inl<|BF.of<|CT _ _ r1,⟨by decide,by decide⟩,?_⟩
 dsimp only
 rw[epc]
 have bad:Cz f (.shape g)=true-> ∀ l,H3 l=none->Q (.ref l) (upd H3 l<|.lst [.int<|-1]):=fun b l hl=>q.fin h3 sm hl (JR hx b) (by lia) lec rfl<|by decide
 have bs:Cz f (.shape g)=_:=tS
 rw[g1]at bs
 refine A7 (fun b1=>⟨(show 1<=sizeLine by decide),fun l hl=>bad (bs.trans<|jR<|Av<|BQ.mp<|An b1) l hl⟩) fun b1=>?_
 refine⟨.inl<|BF.of<|CT _ _ r2,?_⟩
 rw[show(XW g.ends).length=g.ends.length from A8 ..]
 refine A7 (fun b2=>⟨(show 1<=sizeLine by decide),fun l hl=>bad (bs.trans<|Qc<|jR<|Av<|BQ.mp<|An b2) l hl⟩) fun b2=>?_
 refine⟨.inl<|BF.of<|CT _ _ r3,?_⟩
 rw[show(Tb g.code).length=g.code.length from A8 ..]
 refine A7 (fun b3=>⟨(show 1<=sizeLine by decide),fun l hl=>bad (bs.trans<|Qc<|Qc<|jR<|Av<|BQ.mp<|An b3) l hl⟩) fun b3=>?_
 refine⟨l2,g.ends,np_,rfl,BF.of<|CT _ _ r2,A7 (fun b4=>⟨(show 1<=sizeLine by decide),fun l hl=>bad (bs.trans<|Qc<|Qc<|Qc b4) l hl⟩) fun b4=>?_⟩
 have c1: ¬ 64<np_:=fun z=>b1<|Av<|BQ.mpr z
 have c2: ¬ 8<g.ends.length:=fun z=>b2<|Av<|BQ.mpr z
 have c3: ¬ 2048<g.code.length:=fun z=>b3<|Av<|BQ.mpr z
 have c4:fit np_ (-1) g.ends=true:=by
  cases e:fit np_ (-1) g.ends with
  | true=>rfl
  | false=>exact absurd (by rw[e];rfl) b4
 have good: ¬ Cz f (.shape g)=true:=by rw[bs,D4 c1,D4 c2,D4 c3,c4];decide
 have mf:=h3.mf
 obtain⟨BU,hfu,fof⟩:=mf.fu
 refine⟨h3.hm,Ao,rfl,?_⟩
 rcases mf.size with⟨e0,rfl⟩ |⟨s,e0,ok⟩
 ·refine ?_
  exact⟨(show 1<=sizeLine by decide),fun l1 n1=>q.fin (ys:= [-2]) h3 sm n1 (C4 hx<|iM good e0) (by lia) lec rfl<|by decide⟩
 obtain⟨za,dz,cl,kk,tw,ol,en0,kp,dk,B,rfl,hz,zi⟩:=ok.ex
 have hz3:=hz.mono CT
 have hn:=Ej c1
 refine⟨h3.hm,Ao,rfl,h3.hm,Ao,rfl,H3,_,za,dz,f.units,s.dots,cl,kk,tw,ol,en0,kp,l1,_,_,pr,np_,rfl,hn,by rw[enp];exact hps,ok.dots,mf.units,hz3.at_,CT _ _ r1,Nw.nil,fun lo C H4 io n4=>⟨H3,_,za,dz,_,_,cl,kk,tw,ol,en0,kp,dk,_,_,iV s.cells,iV s.values,B,s.zone0.size,s.kept,_,_,rfl,ok.z.ZA,by rw[D6,ok.nc];exact mf.cl,by rw[D6,ok.nv];exact mf.Gn,hz3,n4,fun cl' kk' tw' C' gr dg kp' dk' ol1 en1 H5 al n5=>?_⟩⟩
 have io2:ny f.units s.dots pr C (HB pr).length:=by rw[<-enp];exact io
 have i1:t8 C (Ft f s.dots g):=by rw[eg];exact tY hpo io2
 have i0:=xS al zi
 have hzs:np_=(Ft f s.dots g).size:=by rw[OI,g1]
 have n5':Nw H3 H5 (xb A f s lo l2 C C' np_ gr dg cl' kk' tw' kp' dk' ol1 en1):=n5
 refine⟨(n5.same _ _ h3.hm),Ao,rfl,n5.same _ _ hz3.at_,AW,rfl,rfl,A7 (fun e=>?_) fun e=>?_⟩
 ·have st0:s.still=false:=by
   cases q:s.still with
   | false=>rfl
   | true=>rw[q]at e;exact absurd e<|by decide
  refine⟨(n5.same _ _ h3.hm),Ao,rfl,(n5.same _ _ h3.hm),Ao,rfl,?_⟩
  intro p dx np ndx ne
  refine⟨H3,_,p,dx,.shape,_,_,_,_,rfl,((n5'.ZN (o:= .own p) ndx).put (t:= .run)<|(AQ ne.symm).trans np),fun CM C2 refs Bj H6 n6=>⟨rfl,?_⟩⟩
  refine⟨_,_,_,_,rfl,R.begin_ (K:=K) n6 (bgS (own:=l3) (font:=fo) (fn:=fu) (BU:=BU) hzs i0 i1) (Nc rfl)<|AD5 (Bl n6<|CT _ _ r3) (Bl n6<|CT _ _ mf.fo) (Ej c3) mf.IV (Bl n6<|CT _ _ r2) (Ej c2) (by rw[g1];exact hn) (by rw[g1];exact c4) (Bl n6<|CT _ _ hfu) fof mf.fin mf.cl mf.Gn mf.units ok,(fun m' er pl b W' v' H' l sw wl r' el=>?_),(fun fl told er pl b W' v' m' H' l sw wl r' el=>?_)⟩
  ·have re:Ht.runAll .shape ⟨g.code,f.font⟩ (J2 f s g)= .done m':=er
   have sH:Bc H3 H':=fun b o z=>r'.sub _ _<|sw _ _<|Bl n6 z
   have hl':=r'.sub _ _ el
   have wm:=sw _ _<|Bl n6 h3.hm
   have wc:=XG (sw _ _<|Bl n6 h3.hc)<|sw _ _<|Bl n6 h3.hd
   refine⟨.inl<|BF.of hl',?_⟩
   have h4:=h3.grow sH
   have az0:uD A (wo mo ca dd H') tw' _ m'.zone0:=r'.aj wm wc (z:=0)<|by decide
   have az1:uD A (wo mo ca dd H') lo _ m'.zone1:=r'.aj wm wc (z:=1)<|by decide
   have hgr:=r'.at_ (t:= .gr) rfl
   refine⟨hgr,AW,rfl,hgr,AW,rfl,(show 2<=sizeLine by decide),fun tp ntp=>?_⟩
   have st:=Bw (o:= .tup [.ref tw',.ref lo]) ntp
   have k:=(h4.grow st).ml
   refine⟨k.hm,Ao,(B8 rfl),?_⟩
   replace k:=k.set<|W_ f.units f.twilight f.cells tc fo fu (.ref za)<|.ref tp
   refine⟨(show 1<=sizeLine by decide),fun l9 hl9=>?_⟩
   have mf4:=(h4.grow st).mf
   have sW:=DC (mo:=mo) (ca:=ca) (dd:=dd)<|sH.trans st
   exact q.fin (ys:= [0]) (g:={f with shape:=some (m'.zone0,m'.zone1)}) (k.ms (f:={f with shape:=some (m'.zone0,m'.zone1)}) ⟨mf4.tc,mf4.fo,mf4.fu,mf.fin,mf.IV,mf.Gn,mf.vals,mf.units,mf.tw,mf.cl,mf4.size.imp_right fun⟨s,q1,q2⟩=>⟨s,q1,q2.ex,q2.dots,q2.cells,q2.nc,q2.vals,q2.nv,q2.z,q2.n0,q2.kept⟩,.inr ⟨_,tp,_,_,_,_,rfl,rfl,(h4.cU ntp),az0.mono<|DC st,az1.mono<|DC st⟩⟩) (aZ (sm.trans sW) k.w) hl9 (C4 hx<|jY good e0 st0 re) (by lia) lec rfl<|by decide
  ·have re:Ht.runAll .shape ⟨g.code,f.font⟩ (J2 f s g)= .fault fl told:=er
   have sH:Bc H3 H':=fun b o z=>r'.sub _ _<|sw _ _<|Bl n6 z
   have hl':=r'.sub _ _ el
   have tl:=Sb er
   refine⟨.inl<|BF.of hl',A7 (fun _=>?_) fun z=>absurd (Av<|BQ.mpr<|OZ _) z⟩
   refine⟨(show 1<=sizeLine by decide),fun l4 n4=>?_⟩
   have s4:=Bw (o:= .lst [.int<|-5]) n4
   refine⟨_,_,_,_,rfl,rfl,AJ,s4 _ _ hl',(by rw[O3,D6,A8];show 1+(told.length+1)<=sizeLine;rw[tl];decide),fun l5 n5=>?_⟩
   rw[O3]
   exact q.fin (ys:= -5::(fl::told).map AD) ((h3.grow sH).grow s4) (sm.trans<|DC<|sH.trans s4) n5 (C4 hx<|iZ good e0 st0 re) (by lia) lec rfl<|by show((fl::told).map AD).length+1<=200;rw[A8];show told.length+1+1<=200;rw[tl];decide
 ·have st0:s.still=true:=by
   cases q:s.still with
   | true=>rfl
   | false=>rw[q]at e;exact absurd rfl e
  have sH:Bc H3 H5:=n5'.same
  have h4:=h3.grow sH
  have az0:uD A (wo mo ca dd H5) tw' C' s.zone0:=n5'.aj h3.hm ⟨h3.hc,h3.hd⟩ (z:=0) uf (fun t a o h=>vb h) i0 ok.z.ZA
  have az1:uD A (wo mo ca dd H5) lo C (Ft f s.dots g):=n5'.aj h3.hm ⟨h3.hc,h3.hd⟩ (z:=1) (by rw[<-hzs];exact vW) (fun t a o h=>by rw[<-hzs]at h;exact ua h) i1<|by rw[<-hzs];exact hn
  have hgr:=(n5'.at_ _ _ _ w_).1
  refine⟨hgr,AW,rfl,hgr,AW,rfl,(show 2<=sizeLine by decide),fun tp ntp=>?_⟩
  have st:=Bw (o:= .tup [.ref tw',.ref lo]) ntp
  have k:=(h4.grow st).ml
  refine⟨k.hm,Ao,(B8 rfl),?_⟩
  replace k:=k.set<|W_ f.units f.twilight f.cells tc fo fu (.ref za)<|.ref tp
  refine⟨(show 1<=sizeLine by decide),fun l9 hl9=>?_⟩
  have mf4:=(h4.grow st).mf
  exact q.fin (ys:= [0]) (g:={f with shape:=some (s.zone0,Ft f s.dots g)}) (k.ms (f:={f with shape:=some (s.zone0,Ft f s.dots g)}) ⟨mf4.tc,mf4.fo,mf4.fu,mf.fin,mf.IV,mf.Gn,mf.vals,mf.units,mf.tw,mf.cl,mf4.size.imp_right fun⟨s,q1,q2⟩=>⟨s,q1,q2.ex,q2.dots,q2.cells,q2.nc,q2.vals,q2.nv,q2.z,q2.n0,q2.kept⟩,.inr ⟨_,tp,_,_,_,_,rfl,rfl,(h4.cU ntp),az0.mono<|DC st,az1.mono<|DC st⟩⟩) (aZ (sm.trans<|DC (mo:=mo) (ca:=ca) (dd:=dd)<|sH.trans st) k.w) hl9 (C4 hx<|iW good e0 st0) (by lia) lec rfl<|by decide
end
section
variable{H0 H H':Hp}{S:SS}{dd mo md ca cd a l:AK}{o od:HO}{xs:List Int}{i n:Nat}{f:D7}
noncomputable def ACs(X:Cx)(E:XK)(tf:TE)(t:TA):TE:=fun σ H Q=>tf σ H fun fv H1=> ∃ f ps sp,fv= .ref f/\AAr X f ps sp E/\t σ H1 fun vs H2=>sp vs H2 Q E
def u_{E:XK}{fp pos:Pos}(hv:PE X (.Subscript fo fi fp) tf)(ha:L2.PA X (e::es) t)
  (he:Au (e::es) X.env=(false,eval e X.env)::Au es X.env:=by rfl) (hpl:(Co pos<|Au es X.env).any (·.1)=false:=by rfl):
  PE X (.Call (.Subscript fo fi fp) (e::es) [] pos) (ACs X E tf t):=by
 intro pins s σ H Q I h
 refine R4<|HV (hv pins s σ H _ I h) fun u s1 v H1 I1 r1 q_=>?_
 obtain⟨f,ps,sp,e1,cv,h2⟩:=q_
 subst e1
 obtain⟨CX,k,fd,F,hr,hk,hb,hx⟩:=cv.ex
 obtain rfl:u=CL f:=r1
 refine LW I1.ok.mod.xi hk (ki (ha pos pins s1 σ H1 _ I1 h2) fun us s2 vs H2 I2 r q=>⟨I2.Qs,?_⟩) he hpl
 exact Xd F hr hb .nil hx I2 r<|by rw[O5];exact q
def wR (TD:K1 P w K A)(h:EN p=some z): ∃ n k fd,E2 (aF A) (.inl p)=some (.ref<|A.ad n)/\ES P w K mg base cV k (A.ad n) fd ["machine","calls"] (GP K A p)/\k<=12/\FT K (.ref<|A.ad n)=true/\Binds K fd ["machine","calls"] []:=by
 by_cases h0:0<=p/\p<=10
 ·rcases(show p=0\/p=1\/p=2\/p=3\/p=4\/p=5\/p=6\/p=7\/p=8\/p=9\/p=10 by lia)with rfl | rfl | rfl | rfl | rfl | rfl | rfl | rfl | rfl | rfl | rfl
  ·exact⟨182,_,_,rfl,fc,(by decide),T.Tt.F.kp,T.Tt.b⟩
  ·exact⟨183,_,_,rfl,Yq,(by decide),T.N8.F.kp,T.N8.b⟩
  ·exact⟨185,_,_,rfl,dF TD,(by decide),T.UD.F.kp,T.UD.b⟩
  ·exact⟨186,_,_,rfl,fE TD,(by decide),T.Ug.F.kp,T.Ug.b⟩
  ·exact⟨189,_,_,rfl,ZJ TD,(by decide),T.QP.F.kp,T.QP.b⟩
  ·exact⟨190,_,_,rfl,Y2,(by decide),T.Ni.F.kp,T.Ni.b⟩
  ·exact⟨193,_,_,rfl,gY,(by decide),T.X9.F.kp,T.X9.b⟩
  ·exact⟨194,_,_,rfl,Zl,(by decide),T.RD.F.kp,T.RD.b⟩
  ·exact⟨195,_,_,rfl,cJ,(by decide),T.UY.F.kp,T.UY.b⟩
  ·exact⟨196,_,_,rfl,Vb,(by decide),T.L9.F.kp,T.L9.b⟩
  ·exact⟨197,_,_,rfl,Zo,(by decide),T.Qn.F.kp,T.Qn.b⟩
 ·unfold EN at h
  rw[AG<|by lia,AG<|by lia,AG<|by lia,AG<|by lia,AG<|by lia,AG<|by lia,AG<|by lia,AG<|by lia,AG<|by lia,AG<|by lia,AG<|by lia]at h
  cases h
theorem XX{cs:List (List<|List Int)}(h:KL EN n (p::r)=some cs): ∃ m c t cs',MJ EN (p::r)=some (c,t)/\KL EN m t=some cs'/\cs=c::cs':=by
 cases n with
 | zero=>cases h
 | succ m=>
  simp only[KL]at h
  split at h
  ·cases h
  ·rename_i c t e
   split at h
   ·cases h
   ·rename_i cs' e2
    cases h
    exact⟨m,c,t,cs',e,e2,rfl⟩
def Z_{cs:List (List<|List Int)}(h:KL EN n []=some cs):cs= []:=by
 cases n<;>(cases h;rfl)
theorem Mh(h:MJ EN (p::r)=some (c,t)): ∃ z,EN p=some z:=by
 cases e:EN p with
 | none=>simp only[MJ,e]at h;cases h
 | some z=>exact⟨z,rfl⟩
def jh(h:MJ EN (p::r)=some (c,t)):qg c=c:=by
 have nil: ∀{ys:List (List Int)} {x:List Int},Sa 0 x=some (ys,t)->ys= []:=fun h=>by cases h;rfl
 by_cases h0:0<=p/\p<=10
 ·rcases(show p=0\/p=1\/p=2\/p=3\/p=4\/p=5\/p=6\/p=7\/p=8\/p=9\/p=10 by lia)with rfl | rfl | rfl | rfl | rfl | rfl | rfl | rfl | rfl | rfl | rfl
  ·obtain⟨hl,ys,er,rfl⟩:=call_of rfl h
   match r,hl with | _::_::_::_,_=>rw[nil er];rfl
  ·obtain⟨hl,ys,er,rfl⟩:=call_of rfl h
   obtain⟨_,_,zs,_,es,rfl⟩:=E5 er
   rw[nil es];rfl
  ·obtain⟨hl,ys,er,rfl⟩:=call_of rfl h
   obtain⟨_,_,zs,_,es,rfl⟩:=E5 er
   rw[nil es];rfl
  ·obtain⟨hl,ys,er,rfl⟩:=call_of rfl h
   obtain⟨_,_,zs,_,es,rfl⟩:=E5 er
   match r,hl with | _::_,_=>rw[nil es];rfl
  ·obtain⟨hl,ys,er,rfl⟩:=call_of rfl h
   obtain⟨x1,s1,z1,r1,es1,e1⟩:=E5 er
   obtain⟨x2,s2,z2,r2,es2,e2⟩:=E5 es1
   obtain⟨x3,s3,z3,r3,es3,e3⟩:=E5 es2
   rw[e1,e2,e3,nil es3];rfl
  ·obtain⟨hl,ys,er,rfl⟩:=call_of rfl h
   match r,hl with | _::_,_=>rw[nil er];rfl
  ·obtain⟨hl,ys,er,rfl⟩:=call_of rfl h
   match r,hl with | _::_::_,_=>rw[nil er];rfl
  ·obtain⟨hl,ys,er,rfl⟩:=call_of rfl h
   rw[nil er];rfl
  ·obtain⟨hl,ys,er,rfl⟩:=call_of rfl h
   match r,hl with | _::_::_,_=>rw[nil er];rfl
  ·obtain⟨hl,ys,er,rfl⟩:=call_of rfl h
   match r,hl with | _::_::_::_,_=>rw[nil er];rfl
  ·obtain⟨hl,ys,er,rfl⟩:=call_of rfl h
   match r,hl with | _::_::_::_::_,_=>rw[nil er];rfl
 ·obtain⟨z,ez⟩:=Mh h
  unfold EN at ez
  rw[AG<|by lia,AG<|by lia,AG<|by lia,AG<|by lia,AG<|by lia,AG<|by lia,AG<|by lia,AG<|by lia,AG<|by lia,AG<|by lia,AG<|by lia]at ez
  cases ez
theorem Um: ∀{cs:List (List<|List Int)} {n:Nat} {r:List Int},KL EN n r=some cs->cs.map qg=cs
 | [],_,_,_=>rfl
 | c::cs,n,[],h=>by have:=Z_ h;cases this
 | c::cs,n,p::r,h=>by
  obtain⟨m,c',t,cs',e1,e2,e3⟩:=XX h
  cases e3
  rw[Fs,jh e1,Um e2]
inductive vV(K:AS)(vs:List V)(H:Hp)(Q:VK)(E_:XK):Prop
 | mk: ∀ a xs,vs= [.ref a]->BF K H a (xs.map V.int)->qH xs=true->(∀ H' p,H' p=some (.lst ((Sf xs).map V.int))->Q (.ref p) H')->vV K vs H Q E_
def MS.Hg(h:MS K A H dd od mo md ca cd a xs i f tc fo fu sz sh)(o:HO):MS K A (upd H dd o) dd o mo md ca cd a xs i f tc fo fu sz sh:=
 ⟨(AQ h.nm).trans h.hm,by rw[AED];exact h.mf,(AQ h.nc).trans h.hc,by rw[AED];exact h.hl,AJ,h.nm,h.nc⟩
structure Btw(K:AS)(A:B4)(H:Hp)(dd mo md ca cd a:AK)(xs:List Int)(i:Nat)(acc:List Int):Prop where
 ex: ∃ f tc fo fu sz sh n cs,MS K A H dd (.lst (iV acc)) mo md ca cd a xs i f tc fo fu sz sh/\KL EN n (xs.drop i)=some cs/\cs.all dm=true/\acc.length+201*cs.length<=80400/\Sf xs=acc++V8 (V2 Lu f cs)
 le:i<=xs.length
def tE{cs:List (List<|List Int)}:V8 (V2 Lu f<|c::cs)=(((gD f c).2.length:Int)::(gD f c).2)++V8 (V2 Lu (gD f c).1 cs):=rfl
def vS(h: ¬ i<xs.length):xs.drop i= []:=RP (Ej h)
def sy(h:i<xs.length): ∃ x,xs[i]?=some x/\xs.drop i=x::xs.drop (i+1):=⟨xs[i],CS h,Ws h⟩
def j8 (TD:K1 P w K A):O0 P w base 13 198 ["calls"] (vV K):=by
 refine T.answers.F.DL ["calls","machine","source","told","answer"] fun H vs Q E hr h=>?_
 obtain⟨a,xs,rfl,hs,ask,q⟩:=h
 refine⟨_,(AB (AO 1<|Xc T.c.rM Vm (hr.mono<|by decide) rfl T.c.t6 T.SY.2 .nil Gp)<|AB (AO 2<|Fw T.c.AAP ZV (hr.mono<|by decide) rfl T.c.xr T.YF.2 .nil Gp<|Af AH)<|AB (AO 3<|Ba Ez)<|AB (JH Ir (MN<|BI Aj ZD T.Y1)<|AB (AO 4<|u_ (E:=E0) (bT (DZ rfl T.k.x8<|show L2.RelV (.ref<|A.tg 9) _ from rfl) (BI Aj As T.A3) fun _ _=>rfl)<|Ax AV Aj)<|AB (Ad<|VD FK RX TN LU A6<|Af<|Dc T.k.CD<|Af CG)<|AF<|Ad<|VD FK nM nS bH A6<|Af CG)<|AF<|AY A6),?_⟩
 obtain⟨cs,hcs,hak,hlen,hans⟩: ∃ cs,KL EN xs.length xs=some cs/\cs.all dm=true/\cs.length<=400/\Sf xs=V8 (V2 Lu mD cs):=by
  unfold qH at ask
  cases e:KL EN xs.length xs with
  | none=>simp only[dB,e]at ask;cases ask
  | some cs=>
   have ec:dB xs=some cs:=by simp only[dB,e,Um e]
   rw[ec]at ask
   have h2:=Cu (Cu<|ask).2
   refine⟨cs,rfl,h2.1,An h2.2,?_⟩
   unfold Sf
   rw[ec]
   rfl
 intro mo md hmo hmd ne
 refine⟨H,_,mo,md,rfl,((Nw.nil.ZN hmd).put<|(AQ ne.symm).trans hmo),fun tc fo fu H1 n1=>⟨rfl,?_⟩⟩
 intro ca cd hca hcd ne2
 refine⟨ca,cd,a,rfl,AJ,rfl,?_⟩
 rw[Bk]
 have s12:=(Bw (o:= .own ca) hcd).trans<|Bw (o:= .ins (A.cl 7) cd<|qN a 0)<|show upd H1 cd (.own ca) ca=none from(AQ ne2.symm).trans hca
 refine⟨B7 _,fun D nD=>?_⟩
 have s3:=Bw (o:= .lst []) nD
 have hm1:=n1.is
 have e1:=(n1.at_ .rest tc _<|.inr ⟨nofun,.inl<|.inl<|.inr ⟨rfl,rfl,rfl⟩⟩).1
 have e2:=(n1.at_ .rest fo _<|.inr ⟨nofun,.inl<|.inr ⟨rfl,rfl,rfl⟩⟩).1
 have e3:=(n1.at_ .rest fu _<|.inr ⟨nofun,.inr ⟨rfl,rfl,rfl⟩⟩).1
 have wof: ∀ b o,H1 b=some o->b≠mo->wo mo ca D (upd (upd (upd H1 cd<|.own ca) ca<|.ins (A.cl 7) cd<|qN a 0) D<|.lst []) b=some o:=fun b o e n=>X3 (s3 _ _<|s12 _ _ e) n (Ac e hca)<|Ac (s12 _ _ e) nD
 have ms:MS K A (upd (upd (upd H1 cd<|.own ca) ca<|.ins (A.cl 7) cd<|qN a 0) D<|.lst []) D (.lst<|iV []) mo md ca cd a xs 0 mD tc fo fu .non .non:=
  ⟨s3 _ _<|s12 _ _ hm1,⟨wof _ _ e1 (aW e1 hm1<|by intro z;cases z),wof _ _ e2 (aW e2 hm1 (by intro z;cases z)),⟨[],wof _ _ e3 (aW e3 hm1 (by intro z;cases z)),jg⟩,(fun _ z=>absurd z<|Ia),B7 _,B7 _,(fun _ z=>absurd z<|Ia),⟨by decide,by decide⟩,by decide,by decide,.inl ⟨rfl,rfl⟩,.inl ⟨rfl,rfl⟩⟩,s3 _ _<|AJ,K8 (fun b o e=>wof b o (n1.same _ _ e)<|Ac e hmo) hs,AJ,Ac (s12 _ _ hm1) nD,Ac (AJ) nD⟩
 refine NP (fun σ H'=> ∃ i acc v,σ= [some<|.ref a,some<|.ref mo,some<|.ref ca,some<|.ref D,v]/\Btw K A H' D mo md ca cd a xs i acc) (fun σ H'=>match H' ca with | some (.ins _ _ [_,(_,.int j)])=>xs.length-j.toNat | _=>0) ⟨0,[],none,rfl,⟨_,_,_,_,_,_,_,_,ms,(by rw[G0];exact hcs),hak,(by show 0+201*cs.length<=80400;lia),(by rw[List.nil_append];exact hans)⟩,B7 _⟩ ?_ ?_
 ·rintro σ H2 ⟨i,acc,v,rfl,B⟩
  obtain⟨f,tc,fo,fu,sz,sh,n,cs,h,hcs,hak,hlen,hans⟩:=B.ex
  refine⟨h.hc,rfl,ca,cd,a,i,iV xs,rfl,h.hc,K8 CT h.hl,?_⟩
  rw[D6]
  refine A7 (fun e=>?_) fun e=>?_
  ·have hi:=An e
   obtain⟨p,ep,ed⟩:=sy hi
   rw[ed]at hcs
   obtain⟨m,c,t,cs',ec,ecs,rfl⟩:=XX hcs
   obtain⟨z,ez⟩:=Mh ec
   obtain⟨nn,k,fd,ev,F,hk,kp,bd⟩:=wR TD ez
   have ha:=Cu<|hak
   refine⟨h.hc,rfl,h.rn ep fun H3 h3 w3=>⟨_,_,.inl p,_,rfl,TD.AEm,rfl,ev,A.ad nn,["machine","calls"],GP K A p,rfl,⟨⟨cV,k,fd,F,hr.mono hk,kp,bd,Gp⟩⟩,D,_,mo,md,ca,cd,a,xs,i+1,f,tc,fo,fu,sz,sh,c,t,rfl,h3,hi,ec,ha.1,fun l H4 j tc' fo' fu' sz' sh' sW h4 ij jl ej wl wn ln=>?_⟩⟩
   have hl:=jO wl
   have hlen2:acc.length+201*(cs'.length+1)<=80400:=hlen
   refine⟨.inl ⟨rfl,_,BF.of h4.hd⟩,.inl<|BF.of hl.1,h4.hd,(by rw[D6];exact Er (show acc.length<=80400 by lia)<|by decide),?_⟩
   refine⟨.inl ⟨rfl,_,BF.of AJ⟩,_,_,_,_,rfl,rfl,AJ,(AQ hl.2.2.2).trans hl.1,(by rw[E8,D6,D6];exact CC (show acc.length+1+(gD f c).2.length<=80400 by lia)<|by decide),?_⟩
   rw[Bk]
   have eacc:iV acc++ [V.int ((iV (gD f c).2).length:Int)]++iV (gD f c).2=iV (acc++(((gD f c).2.length:Int)::(gD f c).2)):=by
    rw[kR,D6,qj]
    rfl
   rw[eacc]
   have h5:=h4.Hg<|.lst<|iV<|acc++(((gD f c).2.length:Int)::(gD f c).2)
   refine⟨⟨j,_,_,rfl,⟨_,_,_,_,_,_,m,cs',h5,(by rw[ej];exact ecs),ha.2,?_,?_⟩,jl⟩,?_⟩
   ·rw[E8,HG]
    lia
   ·rw[hans,tE,qj]
   ·rw[h5.hc,h.hc]
    show xs.length-j<xs.length-i
    lia
  ·have hi: ¬ i<xs.length:=fun z=>e (Av z)
   rw[vS hi]at hcs
   have:=Z_ hcs
   subst this
   have ha:Sf xs=acc:=by rw[hans];show acc++ []=acc;rw[O5]
   exact q H2 D<|by rw[ha];exact h.hd
 ·exact fun σ H2 Q1 Q2 mono h=>Jg.mono h fun v h=>QL.mono h fun a ⟨h1,h2,h⟩=>⟨h1,h2,by
   obtain⟨p,dx',a',i,zs,e3,h3,h4,q5⟩:=h
   exact⟨p,dx',a',i,zs,e3,h3,h4,mono _ _ q5⟩⟩
end
end GF
end
section
section
namespace L2
open PySem PySem.Spec PyProof.Rows
open PySem.W (WData Codec OpenSpec Well WellAll ReadsW ReadsAllW)
mutual
inductive Dw(K:AS)(H:Hp):V->HF->Prop
 | non:Dw K H .non .none
 | bl (b:Bool):Dw K H (.bl b) (.bool b)
 | int (i:Int):Dw K H (.int i) (.int i)
 | str (x:Str):Dw K H (.str x) (.str x)
 | byt (b:Array UInt8):Dw K H (.byt b) (.bytes b.toList)
 | lst {a:AK} {xs:List V} {ds:List HF}:BF K H a xs->Mn K H xs ds->Dw K H (.ref a) (.list ds)
 | tup {a:AK} {xs:List V} {ds:List HF}:Dh K H a xs->Mn K H xs ds->Dw K H (.ref a) (.tuple ds)
inductive Mn(K:AS)(H:Hp):List V->List HF->Prop
 | nil:Mn K H [] []
 | cons {v:V} {vs:List V} {d:HF} {ds:List HF}:Dw K H v d->Mn K H vs ds->Mn K H (v::vs) (d::ds)
end
theorem pA{K:AS}: ∀ ns:List Int,Mn K H (ns.map V.int) (ns.map pG)
 | []=> .nil
 | n::r=> .cons (.int n)<|pA r
theorem nQ{K:AS}: ∀(ns:List Int) xs,Mn K H xs (ns.map pG)->xs=ns.map V.int
 | [],xs,h=>by
  cases h
  rfl
 | n::r,xs,h=>by
  cases h with
  | cons h1 h2=>
   cases h1
   rw[nQ r _ h2]<;>rfl
section
variable{P:BH}{w:Ap}{K:AS}{H:Hp}{h:Ay}{R:PySem.W.WRecords}{cl:Str->Option AK}
def ABI(C1:NH P w H h)(KX:K.In h)(q:BF K H a xs): ∃ its o n,Vals xs its/\h.get? a=some o/\o.cls= .type "list"/\o.data= .seq its.toArray n:=by
 rcases q with q |⟨o,its,n,e,hc,_,hd,_,hv⟩
 ·obtain⟨_,its,n,hv,e⟩:=(q.ok C1)
  exact⟨its,_,n,hv,e,rfl,rfl⟩
 ·exact⟨its.toList,o,n,hv,KX _ _ e,hc,by simp[hd]⟩
def AB1(C1:NH P w H h)(KX:K.In h)(q:Dh K H a xs): ∃ its o n,Vals xs its/\h.get? a=some o/\o.cls= .type "tuple"/\o.data= .seq its.toArray n:=by
 rcases q with q |⟨o,its,n,e,hc,hd,_,hv⟩
 ·obtain⟨_,its,hv,o,e,hc,n,hd⟩:=(q.ok C1)
  exact⟨its,o,n,hv,e,hc,hd⟩
 ·exact⟨its.toList,o,n,hv,KX _ _ e,hc,by simp[hd]⟩
mutual
theorem Dw.reads(C1:NH P w H h)(KX:K.In h): ∀ d v u,Dw K H v d->RelV v u-> ∃ as,ReadsW R cl h u d as
 | .none,_,_,x,r=>by
  cases x
  cases r
  exact⟨_,ReadsW.none⟩
 | .bool b,_,_,x,r=>by
  cases x
  cases r
  exact⟨_,ReadsW.bool b⟩
 | .int i,_,_,x,r=>by
  cases x
  obtain⟨t,rfl⟩:=r
  exact⟨_,ReadsW.int i t⟩
 | .str s,_,_,x,r=>by
  cases x
  obtain⟨t,rfl⟩:=r
  exact⟨_,ReadsW.str s t⟩
 | .bytes b,_,_,x,r=>by
  cases x
  obtain⟨t,rfl⟩:=r
  exact⟨_,ReadsW.bytes _ t⟩
 | .list ds,_,_,x,r=>by
  cases x with
  | lst hs ha=>
   cases r
   obtain⟨its,o,n,rv,ho,hc,hd⟩:=ABI C1 KX hs
   obtain⟨as,hr⟩:=Dw.readsAll C1 KX ds _ its ha rv
   exact⟨_,ReadsW.list ho hc hd hr⟩
 | .tuple ds,_,_,x,r=>by
  cases x with
  | tup hs ha=>
   cases r
   obtain⟨its,o,n,rv,ho,hc,hd⟩:=AB1 C1 KX hs
   obtain⟨as,hr⟩:=Dw.readsAll C1 KX ds _ its ha rv
   exact⟨_,ReadsW.tuple ho hc hd hr⟩
 | .float _,_,_,x,_=>by cases x
 | .dict _,_,_,x,_=>by cases x
 | .bytearray _,_,_,x,_=>by cases x
 | .set _,_,_,x,_=>by cases x
 | .frozenset _,_,_,x,_=>by cases x
 | .obj _ _,_,_,x,_=>by cases x
theorem Dw.readsAll(C1:NH P w H h)(KX:K.In h): ∀ ds vs us,Mn K H vs ds->Vals vs us-> ∃ as,ReadsAllW R cl h us ds as
 | [],_,_,x,r=>by
  cases x
  cases r
  exact⟨_,yh⟩
 | d::ds,_,_,x,r=>by
  cases x with
  | cons h1 h2=>
   cases r with
   | cons r1 r2=>
    obtain⟨as,q1⟩:=Dw.reads C1 KX d _ _ h1 r1
    obtain⟨bs,q2⟩:=Dw.readsAll C1 KX ds _ _ h2 r2
    exact⟨_,zm q1 q2⟩
end
end
mutual
noncomputable def rG:HF->Bool
 | .none=>true
 | .bool _=>true
 | .int _=>true
 | .str _=>true
 | .bytes _=>true
 | .list xs=>Va xs
 | .tuple xs=>Va xs
 | _=>false
noncomputable def Va:List HF->Bool
 | []=>true
 | x::r=>rG x&&Va r
end
theorem jA{f:α->HF}(h: ∀ a,rG (f a)=true): ∀ l:List α,Va (l.map f)=true
 | []=>rfl
 | x::r=>by
  show(rG (f x)&&Va (r.map f))=true
  rw[h x,jA h r]<;>rfl
theorem OJ: ∀(c:Codec) a,rG (c.enc a)=true
 | .unit,_=>rfl
 | .bool,_=>rfl
 | .int _ _,_=>rfl
 | .nat _ _,_=>rfl
 | .u8,_=>rfl
 | .bytes _ _,_=>rfl
 | .text _ _ _ _,_=>rfl
 | .list _ _ c,a=>jA (fun x=>OJ c x) a
 | .pair c d,a=>by
  show(rG (c.enc a.1)&&(rG (d.enc a.2)&&true))=true
  rw[OJ c a.1,OJ d a.2]<;>rfl
 | .triple c d e,a=>by
  show(rG (c.enc a.1)&&(rG (d.enc a.2.1)&&(rG (e.enc a.2.2)&&true)))=true
  rw[OJ c a.1,OJ d a.2.1,OJ e a.2.2]<;>rfl
 | .option c,none=>rfl
 | .option c,some x=>OJ c x
theorem aJ: ∀ cs a,Va (PJ cs a)=true
 | [],_=>rfl
 | c::cs,a=>by
  show(rG (c.enc a.1)&&Va (PJ cs a.2))=true
  rw[OJ c a.1,aJ cs a.2]<;>rfl
theorem RC: ∀{xs:List HF} {d:HF},d∈xs->d.weight<=W8 xs
 | [],d,h=>absurd h<|by simp
 | x::r,d,h=>by
  show d.weight<=x.weight+1+W8 r
  rcases Cd.mp h with e | m
  ·rw[e]
   omega
  ·have z:=RC m
   omega
noncomputable def toV:AN->V
 | .none=> .non
 | .bool b=> .bl b
 | .int i _=> .int i
 | .str x _=> .str x
 | .bytes b _=> .byt b
 | .ref a=> .ref a
 | _=> .non
noncomputable def rN(A:List AK):AN->Prop
 | .none=>True
 | .bool _=>True
 | .int _ _=>True
 | .str _ _=>True
 | .bytes _ _=>True
 | .ref a=>a∈A
 | _=>False
theorem rN.mono(h: ∀ a∈A,a∈B): ∀{u:AN},rN A u->rN B u:=fun{u} x=>by
 cases u with
 | ref a=>exact h a x
 | none=>trivial
 | bool b=>trivial
 | int i t=>trivial
 | str s t=>trivial
 | bytes b t=>trivial
 | _=>exact DK x
theorem uP(x:rN A u):RelV (toV u) u:=by
 cases u with
 | ref a=>rfl
 | none=>rfl
 | bool b=>rfl
 | int i t=>exact⟨t,rfl⟩
 | str s t=>exact⟨t,rfl⟩
 | bytes b t=>exact⟨t,rfl⟩
 | _=>exact DK x
theorem Kz: ∀{vs:List AN},(∀ u∈vs,rN A u)->Vals (vs.map toV) vs
 | [],_=> .nil
 | u::r,h=> .cons (uP<|h u<|D0 ..)<|Kz fun x hx=>h x<|C0 _ hx
noncomputable def Mz(h:Ay)(A:List AK)(a:AK):Prop:= ∃ vs:List AN,vs.length<=sizeLine/\(∀ u∈vs,rN A u)/\
 (h.get? a=some {cls:= .type "list",data:= .seq vs.toArray}\/h.get? a=some {cls:= .type "tuple",data:= .seq vs.toArray})
def Mz.mono(k: ∀ a∈A,a∈B)(x:Mz h A a):Mz h B a:=by
 obtain⟨vs,h1,h2,h3⟩:=x
 exact⟨vs,h1,fun u hu=>(h2 u hu).mono k,h3⟩
theorem Jr: ∀{vs:List AN} {ds:List HF},J_ P h vs ds->vs.length=ds.length
 | _,_,.nil=>rfl
 | _,_,.cons _ b=>by
  show _+1=_+1
  rw[Jr b]
theorem aU(x:Well P h v (.list ds)): ∃ a vs,v= .ref a/\h.get? a=some {cls:= .type "list",data:= .seq vs.toArray}/\J_ P h vs ds:=by
 cases x with
 | list ho hall=>exact⟨_,_,rfl,ho,hall⟩
theorem XT(x:Well P h v (.tuple ds)): ∃ a vs,v= .ref a/\h.get? a=some {cls:= .type "tuple",data:= .seq vs.toArray}/\J_ P h vs ds:=by
 cases x with
 | tuple ho hall=>exact⟨_,_,rfl,ho,hall⟩
theorem ay(x:J_ P h us (d::ds)): ∃ v vs,us=v::vs/\Well P h v d/\J_ P h vs ds:=by
 cases x with
 | cons a b=>exact⟨_,_,rfl,a,b⟩
def mG(h:n<=1048576):n<=sizeLine:=CC h (by decide)
section
variable{P:CP}{h:Ay}
mutual
theorem vO: ∀ d v,Well P h v d->rG d=true->d.weight<=1048576-> ∃ A,rN A v/\ ∀ a∈A,Mz h A a
 | .none,_,x,_,_=>by
  cases x
  exact⟨[],trivial,fun a m=>absurd m<|by simp⟩
 | .bool b,_,x,_,_=>by
  cases x
  exact⟨[],trivial,fun a m=>absurd m<|by simp⟩
 | .int i,_,x,_,_=>by
  cases x
  exact⟨[],trivial,fun a m=>absurd m<|by simp⟩
 | .str s,_,x,_,_=>by
  cases x
  exact⟨[],trivial,fun a m=>absurd m<|by simp⟩
 | .bytes b,_,x,_,_=>by
  cases x
  exact⟨[],trivial,fun a m=>absurd m<|by simp⟩
 | .list ds,_,x,p,z=>by
  obtain⟨a,vs,rfl,ho,hall⟩:=aU x
  have z2:W8 ds<=1048576:=z
  obtain⟨A,h1,h2⟩:=RW ds _ hall p fun d hd=>CC (RC hd) z2
  have k: ∀ b∈A,b∈a::A:=fun b hb=>C0 _ hb
  refine⟨a::A,D0 ..,fun b hb=>?_⟩
  rcases Cd.mp hb with e | m
  ·rw[e]
   exact⟨vs,mG<|by rw[Jr hall];exact CC (mP ds) z2,fun u hu=>(h1 u hu).mono k,.inl ho⟩
  ·exact(h2 b m).mono k
 | .tuple ds,_,x,p,z=>by
  obtain⟨a,vs,rfl,ho,hall⟩:=XT x
  have z2:W8 ds<=1048576:=z
  obtain⟨A,h1,h2⟩:=RW ds _ hall p fun d hd=>CC (RC hd) z2
  have k: ∀ b∈A,b∈a::A:=fun b hb=>C0 _ hb
  refine⟨a::A,D0 ..,fun b hb=>?_⟩
  rcases Cd.mp hb with e | m
  ·rw[e]
   exact⟨vs,mG<|by rw[Jr hall];exact CC (mP ds) z2,fun u hu=>(h1 u hu).mono k,.inr ho⟩
  ·exact(h2 b m).mono k
 | .float _,_,_,p,_=>G3<|show false=true from p
 | .dict _,_,_,p,_=>G3<|show false=true from p
 | .bytearray _,_,_,p,_=>G3<|show false=true from p
 | .set _,_,_,p,_=>G3<|show false=true from p
 | .frozenset _,_,_,p,_=>G3<|show false=true from p
 | .obj _ _,_,_,p,_=>G3<|show false=true from p
theorem RW: ∀ ds vs,J_ P h vs ds->Va ds=true->(∀ d∈ds,d.weight<=1048576)-> ∃ A,(∀ u∈vs,rN A u)/\ ∀ a∈A,Mz h A a
 | [],_,x,_,_=>by
  cases x
  exact⟨[],fun u m=>absurd m<|by simp,fun a m=>absurd m<|by simp⟩
 | d::ds,_,x,p,z=>by
  obtain⟨v,vs,rfl,x1,x2⟩:=ay x
  have q:rG d=true/\Va ds=true:=PF.mp p
  obtain⟨A,a1,a2⟩:=vO d v x1 q.1<|z d<|D0 ..
  obtain⟨B,b1,b2⟩:=RW ds vs x2 q.2 fun e he=>z e<|C0 _ he
  have kA: ∀ b∈A,b∈A++B:=fun b hb=>L7.mpr<|.inl hb
  have kB: ∀ b∈B,b∈A++B:=fun b hb=>L7.mpr<|.inr hb
  refine⟨A++B,fun u hu=>?_,fun b hb=>?_⟩
  ·rcases Cd.mp hu with e | m
   ·rw[e]
    exact a1.mono kA
   ·exact(b1 u m).mono kB
  ·rcases L7.mp hb with m | m
   ·exact(a2 b m).mono kA
   ·exact(b2 b m).mono kB
end
end
noncomputable def yN(o:Obj):Option HO:=match o.data with
 | .seq vs _=>if(o.cls==OY "list")=true then some (.frz o<|.lst<|vs.toList.map toV)else some (.frz o<|.tup<|vs.toList.map toV)
 | _=>none
noncomputable def L6(K:AS)(h:Ay)(A:List AK):Hp:=fun b=>if b∈A then(if(K.lookup b).isNone=true then(h.get? b).bind yN else none)else none
noncomputable def jE(H:Hp):Prop:= ∀ b,H b=none\/ ∃ o u,H b=some (.frz o u)
def jX(vs:List AN):yN {cls:= .type "list",data:= .seq vs.toArray}=some (.frz {cls:= .type "list",data:= .seq vs.toArray}<|.lst<|vs.map toV):=by
 show(if(OY "list"==OY "list")=true then some (HO.frz {cls:= .type "list",data:= .seq vs.toArray}<|.lst<|vs.toArray.toList.map toV)else some (HO.frz {cls:= .type "list",data:= .seq vs.toArray}<|.tup<|vs.toArray.toList.map toV))=_
 rw[AI<|beq_self_eq_true _]
def g5(vs:List AN):yN {cls:= .type "tuple",data:= .seq vs.toArray}=some (.frz {cls:= .type "tuple",data:= .seq vs.toArray}<|.tup<|vs.map toV):=by
 show(if(OY "tuple"==OY "list")=true then some (HO.frz {cls:= .type "tuple",data:= .seq vs.toArray}<|.lst<|vs.toArray.toList.map toV)else some (HO.frz {cls:= .type "tuple",data:= .seq vs.toArray}<|.tup<|vs.toArray.toList.map toV))=_
 rw[AG<|by decide]
section
variable{P:BH}{w:Ap}{K:AS}{h:Ay}{A:List AK}
def XA(hb:b∈A)(hk:K.lookup b=none)(e:h.get? b=some o):L6 K h A b=yN o:=by
 unfold L6
 rw[AI hb,hk,AI<|show(none:Option Obj).isNone=true from rfl,e]<;>rfl
def zC(q:L6 K h A b=some u):b∈A/\K.lookup b=none:=by
 unfold L6 at q
 by_cases hb:b∈A
 ·rw[AI hb]at q
  cases hk:K.lookup b with
  | none=>exact⟨hb,rfl⟩
  | some o=>
   rw[hk,AG<|by simp]at q
   cases q
 ·rw[AG hb]at q
  cases q
def XJ(ar: ∀ a∈A,Mz h A a)(q:L6 K h A b=some u):K.lookup b=none/\ ∃ vs:List AN,vs.length<=sizeLine/\(∀ u∈vs,rN A u)/\
  ((h.get? b=some {cls:= .type "list",data:= .seq vs.toArray}/\u= .frz {cls:= .type "list",data:= .seq vs.toArray} (.lst<|vs.map toV))\/
   (h.get? b=some {cls:= .type "tuple",data:= .seq vs.toArray}/\u= .frz {cls:= .type "tuple",data:= .seq vs.toArray} (.tup<|vs.map toV))):=by
 obtain⟨hb,hk⟩:=zC q
 obtain⟨vs,h1,h2,h3⟩:=ar b hb
 refine⟨hk,vs,h1,h2,?_⟩
 rcases h3 with e | e
 ·rw[XA hb hk e,jX]at q
  exact .inl ⟨e,(C_ q).symm⟩
 ·rw[XA hb hk e,g5]at q
  exact .inr ⟨e,(C_ q).symm⟩
theorem tj(ar: ∀ a∈A,Mz h A a):jE (L6 K h A):=fun b=>by
 cases q:L6 K h A b with
 | none=>exact .inl rfl
 | some u=>
  obtain⟨_,vs,_,_,⟨_,e⟩ |⟨_,e⟩⟩:=XJ ar q
  ·exact .inr ⟨_,_,by rw[e]⟩
  ·exact .inr ⟨_,_,by rw[e]⟩
def y8(ar: ∀ a∈A,Mz h A a):NH P w (L6 K h A) h:=fun b u q=>by
 obtain⟨_,vs,h1,h2,⟨e,rfl⟩ |⟨e,rfl⟩⟩:=XJ ar q
 ·exact⟨e,by rw[A8];exact h1,vs,_,Kz h2,e⟩
 ·exact⟨e,by rw[A8];exact h1,vs,Kz h2,_,e,rfl,_,rfl⟩
def WZ{vs us:List AN}(e:(some {cls:=c,data:= .seq vs.toArray}:Option Obj)=some {cls:=c',data:= .seq us.toArray}):c=c'/\vs=us:=by
 have e1:=C_ e
 have e3:=BO Obj.data e1
 injection e3 with e4
 refine⟨BO Obj.cls e1,?_⟩
 simpa using(BO pP e4)
theorem AFy(KX:K.In h)(ar: ∀ a∈A,Mz h A a){vs:List AN}(ha:a∈A)(e:h.get? a=some {cls:= .type "list",data:= .seq vs.toArray}):(∀ u∈vs,rN A u)/\BF K (L6 K h A) a (vs.map toV):=by
 obtain⟨us,h1,h2,h3⟩:=ar a ha
 have hu:us=vs:=by
  rcases h3 with q | q
  ·rw[e]at q
   exact(WZ q).2.symm
  ·rw[e]at q
   exact absurd (mR (WZ q).1)<|by decide
 subst hu
 refine⟨h2,?_⟩
 cases hk:K.lookup a with
 | none=>exact .inl<|.inr ⟨_,by rw[XA ha hk e,jX]⟩
 | some o=>
  have e2:=KX a o hk
  rw[e]at e2
  obtain rfl:=C_ e2
  exact .inr ⟨_,us.toArray,_,hk,rfl,rfl,rfl,by rw[Cp];exact h1,by simpa using Kz h2⟩
theorem AFY(KX:K.In h)(ar: ∀ a∈A,Mz h A a){vs:List AN}(ha:a∈A)(e:h.get? a=some {cls:= .type "tuple",data:= .seq vs.toArray}):(∀ u∈vs,rN A u)/\Dh K (L6 K h A) a (vs.map toV):=by
 obtain⟨us,h1,h2,h3⟩:=ar a ha
 have hu:us=vs:=by
  rcases h3 with q | q
  ·rw[e]at q
   exact absurd (mR (WZ q).1)<|by decide
  ·rw[e]at q
   exact(WZ q).2.symm
 subst hu
 refine⟨h2,?_⟩
 cases hk:K.lookup a with
 | none=>exact .inl<|.inr ⟨_,by rw[XA ha hk e,g5]⟩
 | some o=>
  have e2:=KX a o hk
  rw[e]at e2
  obtain rfl:=C_ e2
  exact .inr ⟨_,us.toArray,_,hk,rfl,rfl,by rw[Cp];exact h1,by simpa using Kz h2⟩
mutual
theorem ACo(KX:K.In h)(ar: ∀ a∈A,Mz h A a): ∀ d v,Well Pm h v d->rG d=true->rN A v->Dw K (L6 K h A) (toV v) d
 | .none,_,x,_,_=>by
  cases x
  exact .non
 | .bool b,_,x,_,_=>by
  cases x
  exact .bl b
 | .int i,_,x,_,_=>by
  cases x
  exact .int i
 | .str s,_,x,_,_=>by
  cases x
  exact .str s
 | .bytes b,_,x,_,_=>by
  cases x
  have z:=Dw.byt (K:=K) (H:=L6 K h A) b.toArray
  exact z
 | .list ds,_,x,p,hu=>by
  obtain⟨a,vs,rfl,ho,hall⟩:=aU x
  obtain⟨h2,hs⟩:=AFy KX ar hu ho
  exact .lst hs<|cH KX ar ds _ hall p h2
 | .tuple ds,_,x,p,hu=>by
  obtain⟨a,vs,rfl,ho,hall⟩:=XT x
  obtain⟨h2,hs⟩:=AFY KX ar hu ho
  exact .tup hs<|cH KX ar ds _ hall p h2
 | .float _,_,_,p,_=>G3<|show false=true from p
 | .dict _,_,_,p,_=>G3<|show false=true from p
 | .bytearray _,_,_,p,_=>G3<|show false=true from p
 | .set _,_,_,p,_=>G3<|show false=true from p
 | .frozenset _,_,_,p,_=>G3<|show false=true from p
 | .obj _ _,_,_,p,_=>G3<|show false=true from p
theorem cH(KX:K.In h)(ar: ∀ a∈A,Mz h A a): ∀ ds vs,J_ Pm h vs ds->Va ds=true->(∀ u∈vs,rN A u)->Mn K (L6 K h A) (vs.map toV) ds
 | [],_,x,_,_=>by
  cases x
  exact .nil
 | d::ds,_,x,p,hu=>by
  obtain⟨v,vs,rfl,x1,x2⟩:=ay x
  have q:rG d=true/\Va ds=true:=PF.mp p
  exact .cons (ACo KX ar d v x1 q.1<|hu _<|D0 ..)<|cH KX ar ds vs x2 q.2 fun u m=>hu u<|C0 _ m
end
end
theorem sI{K:AS}{cl:Str->Option AK}{d0:HF}
  (KX:K.In s₁.heap) (hns:s₁.heap.Ns GW mg) (hb:s₁.heap.Ns dR mb) (hbb: ∀ x:Str,x≠"__name__"->mb x=Ih x) (hlim:s₁.heap.NoLimit) (hg:s₁.gens= #[])
  (hwl:J_ w.params s₁.heap vals ds) (hpl:Va ds=true) (hwt: ∀ d∈ds,d.weight<=1048576) (hr:EE k Oo)
  (F: ∀ base:Ay,K.In base->base.Ns GW mg->ES P w K mg base CX k fa fd ps sp) (hbind: ∀(s:Az) (us:List AN),us.length=ps.length->R8 s fd ⟨us,[]⟩ (ps.zip us)) (hlen:ds.length=ps.length)
  (hsp: ∀(H:Hp) (xs:List V),jE H->Mn K H xs ds->sp xs H (fun v H'=>Dw K H' v d0) fun _ _ _=>False)
  (hCX: ∀ H e s',CX [] H s₁ (fun _ _ _=>False) e s'->False):
  GB (Ai P w) Oo (.call (.ref fa) ⟨vals,[]⟩) (fun r s'=> ∃ u as,r= .ok (.ret u)/\ReadsW R cl s'.heap u d0 as/\OldK s₁.heap s'.heap/\s'.os=s₁.os/\KA s'.gens) s₁:=by
 obtain⟨A,ho,ar⟩:=RW ds vals hwl hpl hwt
 have hO:jE (L6 K s₁.heap A):=tj ar
 have C1:NH P w (L6 K s₁.heap A) s₁.heap:=y8 ar
 have hS:=cH KX ar ds vals hwl hpl ho
 have hK: ∀ b u,L6 K s₁.heap A b=some u->K.lookup b=none:=fun b u q=>(XJ ar q).1
 have noA: ∀{b:AK} {o:Obj} {es:Array Ib} {ep:Nat},s₁.heap.get? b=some o->o.data= .dict es ep->L6 K s₁.heap A b=none:=fun{b o es ep} e d=>by
  cases q:L6 K s₁.heap A b with
  | none=>rfl
  | some u=>
   obtain⟨_,vs,_,_,⟨e2,_⟩ |⟨e2,_⟩⟩:=XJ ar q
   ·rw[e2]at e
    cases e
    have d':=d
    cases d'
   ·rw[e2]at e
    cases e
    have d':=d
    cases d'
 generalize L6 K s₁.heap A=H at hO C1 hS hK noA
 have base_of: ∀{b:AK} {o:Obj},s₁.heap.get? b=some o->H b=none->(cY s₁.heap H).get? b=some o:=fun e n=>wQ e n
 have nsK: ∀{b:AK} {m:Str->Option AN},s₁.heap.Ns b m->(cY s₁.heap H).Ns b m:=fun{b m} ⟨o,es,ep,e,d,r⟩=>⟨o,es,ep,base_of e<|noA e d,d,r⟩
 have nK: ∀ b o,K.lookup b=some o->H b=none:=fun b o e=>by
  cases q:H b with
  | none=>rfl
  | some u=>
   rw[hK b u q]at e
   cases e
 have hKb:K.In (cY s₁.heap H):=fun b o e=>base_of (KX b o e)<|nK b o e
 have hM:Mod K mg (cY s₁.heap H):=⟨hKb,nsK hns,⟨mb,nsK hb,hbb⟩,let⟨mc,h1,h2⟩:=hlim;⟨mc,nsK h1,h2⟩⟩
 have e0:lL P w K mg (cY s₁.heap H) Oo [] s₁ H:=⟨rfl,hM,fun b o e=>xo e,WX<|tJ _ _,trivial,fun b hb=>absurd (show b∈([]:List AK)from hb)<|by simp,C1,.of_eq hg⟩
 have hl:vals.length=ps.length:=by rw[Jr hwl];exact hlen
 refine MG ((F _ hKb<|nsK hns).run Oo [] s₁ H ⟨vals,[]⟩ vals (vals.map toV) _ _ hr e0 (hbind s₁ vals hl) (Kz ho)<|hsp H _ hO hS) fun r s' x=>?_
 cases r with
 | error e=>exact(hCX H e s' x).elim
 | ok fl=>
  cases fl with
  | next=>exact DK x
  | brk=>exact DK x
  | cont=>exact DK x
  | ret u=>
   obtain⟨v,H',os,bare,un,hok',r',q⟩:=x
   have kept: ∀ b o,s₁.heap.get? b=some o->s'.heap.get? b=some o:=fun b o e=>by
    cases q2:H b with
    | none=>exact un.keep b o e q2 (by intro z;exact absurd (show b∈([]:List AK)from z)<|by simp)<|by simp
    | some u2=>
     rcases hO b with z |⟨ob,u3,z⟩
     ·rw[q2]at z
      cases z
     ·obtain⟨e1,_⟩:=C1 b _ z
      obtain⟨e2,_⟩:=hok' b _<|un.T8 b ob _ z
      rw[e]at e1
      cases e1
      exact e2
   have KX':K.In s'.heap:=fun b o e=>kept b o<|KX b o e
   obtain⟨as,hrd⟩:=Dw.reads hok' KX' d0 v u q r'
   exact⟨u,as,rfl,hrd,OldK.of_keep kept,os,bare⟩
def Yt(h:WData.layableAll ds=true): ∀ d∈ds,d.weight<=1048576:=fun d hd=>
 (PySem.W.layableW_iff.mp<|F7.mp h d hd).2.2
theorem X2: ∀ cs a,(PJ cs a).length=cs.length
 | [],_=>rfl
 | c::cs,a=>by
  show(PJ cs a.2).length+1=cs.length+1
  rw[X2 cs a.2]
def sE{K:CP->AS}{CX:Ap->xl}{sp:Ap->Sp}
  (hwell:r.wellSaid=true) (hdf:d.params.defaults= []) (hlen:r.args.length=ps.length) (hr:EE k Oo)
  (hY: ∀ w h,YP w h->(K w.params).In h)
  (F: ∀ w (mg:Str->Option AN) (fa:AK) (h:Ay),YP w h->(K w.params).In h->h.Ns GW mg->mg d.name=some (.ref fa)->
   ∃ fd:Ff,(∀(s:Az) (us:List AN),us.length=ps.length->R8 s fd ⟨us,[]⟩ (ps.zip us))/\
    ∀ base:Ay,(K w.params).In base->base.Ns GW mg->ES r.prog w (K w.params) mg base (CX w) k fa fd ps (sp w))
  (hsp: ∀(w:Ap) (H:Hp) (xs:List V) (a:mO r.args),jE H->qU r.args a=true->TR r.args r.asked a=true->Mn (K w.params) H xs (PJ r.args a)->
   sp w xs H (fun v H'=>Dw (K w.params) H' v<|r.ret.enc<|TR r.args r.f a) fun _ _ _=>False)
  (hCX: ∀(w:Ap) (H:Hp) (s:Az) (e:AN) (s':Az),CX w [] H s (fun _ _ _=>False) e s'->False):
  pC q loose XP YP r d [] (fun f vs=>qL f vs):=by
 intro w Pw s₁ mg mb G Y fa o pm cd doc dV kV ho hd hcd hD hmg hg args vals as AB6 hlay hrd hwl hlo
 obtain⟨a,e1,e2⟩:=PySem.W.os_pre_some AB6
 obtain⟨e3,hwi⟩:=Codec.encAll_of_decAll r.args args a e1
 subst e3
 have KX:=hY w _ Y
 obtain⟨fd,hb,hF⟩:=F w mg fa _ Y KX G.T.g hmg
 refine PySem.W.enter_call<|MG (sI (R:= []) (cl:=classAt Pw.heap) (d0:=r.ret.enc<|TR r.args r.f a) KX G.T.g G.T.b G.T.builtins G.T.nolimit hg hwl (aJ _ _) (Yt hlay) hr hF hb (by rw[X2];exact hlen)
  (fun H xs hO hS=>hsp w H xs a hO hwi e2 hS) fun H e s'=>hCX w H s₁ e s') fun r' s' hq=>?_
 obtain⟨u,as',rfl,h1,h2,h3,h4⟩:=hq
 exact⟨.inl ⟨u,_,as',rfl,fun _=>rfl,h1,(OpenSpec.post_iff hwell hwi _ _).mpr rfl,fun z=>G3<|z⟩,h2,h3,h4⟩
def lQ{K:CP->AS}{sp:AS->Sp}
  (hwell:r.wellSaid=true) (hdf:d.params.defaults= []) (hlen:r.args.length=ps.length) (hr:EE k Oo)
  (hY: ∀ w h,YP w h->(K w.params).In h)
  (F: ∀ w (mg:Str->Option AN) (fa:AK) (h:Ay),YP w h->(K w.params).In h->h.Ns GW mg->mg d.name=some (.ref fa)->
   ∃ fd:Ff,(∀(s:Az) (us:List AN),us.length=ps.length->R8 s fd ⟨us,[]⟩ (ps.zip us))/\
    ∀ base:Ay,(K w.params).In base->base.Ns GW mg->ES r.prog w (K w.params) mg base CX k fa fd ps (sp<|K w.params))
  (hsp: ∀(K:AS) (H:Hp) (xs:List V) (a:mO r.args),jE H->qU r.args a=true->TR r.args r.asked a=true->Mn K H xs (PJ r.args a)->
   sp K xs H (fun v H'=>Dw K H' v<|r.ret.enc<|TR r.args r.f a) fun _ _ _=>False)
  (hCX: ∀(H:Hp) (s:Az) (e:AN) (s':Az),CX [] H s (fun _ _ _=>False) e s'->False):
  pC q loose XP YP r d [] (fun f vs=>qL f vs):=
 sE hwell hdf hlen hr hY F (fun w H xs a h1 h2 h3 h4=>hsp (K w.params) H xs a h1 h2 h3 h4) fun _ H s e s'=>hCX H s e s'
end L2
end
end
section
namespace GF
open PySem PySem.Spec PyProof.Rows L2
section
open Dv (Rw rws r0 tL Nt Kf JG IM Lj je Md fD)
open PySem.W (findIn isFn keepIn codeIn nsIn typeIn)
noncomputable def _root_.Dv.Rw.fd(r:Dv.Rw):Ff:=KG r.x r.q (HN r.st) (EO r.st) (BZ r.st) .none .none .none r.m none (.ref<|r.a-1) .none
noncomputable def AA:B4:=⟨fun n=>(rws.getD n r0).a,fun n=>(rws.getD n r0).fd,fun n=>([31,228,256,425,711,1310,1331,1385,1406]:List Nat).getD n 0,fun n=>([147,148,366,671,680,824,1084,1094,1249,1528]:List Nat).getD n 0⟩
noncomputable def mts:List (Nat×Str×Nat):=(31,"__init__",28):: [Dv.g6,Dv.TJ,Dv.SJ,Dv.YG,Dv.Xj,Dv.N4,Dv.Rt,Dv.Ko].flatMap fun k=>k.ms.mapIdx fun i _=>(k.b+9+7*k.ms.length,Dv.stN<|inClass (top k.j) i,k.b+13+7*i)
noncomputable def gls:List (Str×AN):=Dv.gl0.map fun x=>(x.1,x.2.2)
noncomputable def cL:List Nat:= [228,256,425,711,1310,1331,1385,1406]
theorem wt: ∀(l:List Obj) (n a:Nat),(Dv.num n l).lookup (n+a)=l[a]?
 | [],_,_=>rfl
 | x::l,n,0=>by rw[Dv.num,Hb,fA,dD];rfl
 | x::l,n,a+1=>by rw[Dv.num,Hb,Il.mpr<|by lia,show n+(a+1)=n+1+a by lia];exact wt l _ a
def AAp(P:CP)(a:Nat):(Dv.KK P).lookup a=(Dv.tree 12<|Dv.hK P).get a:=by
 rw[Dv.TM 12 _ _<|by rw[Dv.jm];decide]
 have:=wt (Dv.hK P) 0 a
 rwa[L0]at this
noncomputable def cdO(o:Option Obj)(q:Str):Bool:=match o with
 | some ⟨_,_,.fields vs,_⟩=>(match vs.toList with | _:: .str n _::_=>n==q | _=>false)
 | _=>false
section
variable(P:CP)
def kc1:rws.map (fun r=>(Dv.tree 12<|Dv.hK P).get r.a)=rws.map (fun r=>some ⟨.type "function",none,.func r.fd,#[]⟩):=by kernel_rfl
def kc2:rws.all (fun r=>cdO ((Dv.tree 12<|Dv.hK P).get<|r.a-1) r.q)=true:=by kernel_rfl
def kc3:mts.all (fun x=>C6 (Dv.KK P) (.ref x.1) x.2.1==some (some<|.ref x.2.2)&&WC (Dv.KK P) (.ref x.2.2))=true:=by kernel_rfl
def kc4:gls.all (fun x=>nsIn (Dv.KK P) GW x.1==some (some x.2))=true:=by kernel_rfl
def kc7:((rws.filter fun r=>r.q==r.x).map fun r=>(r.x,CL r.a)).isSublist gls=true:=by kernel_rfl
def kc6{r:Rw}(h:r∈rws)(e:r.q=r.x):(r.x,CL r.a)∈gls:=(List.isSublist_iff_sublist.mp kc7).subset (Fd.mpr ⟨r,V4.mpr ⟨h,FR.mpr e⟩,rfl⟩)
def kc5:cL.all (fun C=>Sj (Dv.KK P) C Oz&&(Vr (Dv.KK P) C&&(cy (Dv.KK P) C&&(C6 (Dv.KK P) (.ref C) "__setattr__"==some (some<|.builtin "object.__setattr__")&&(XI (Dv.KK P) C&&FT (Dv.KK P) (.ref C))))))=true:=by kernel_rfl
end
noncomputable def isR:AN->Nat->Bool
 | .ref b,a=>b==a
 | _,_=>false
def ACm: ∀{v:AN} {a:Nat},isR v a=true->v= .ref a:=fun{v a} h=>by cases v<;>first | exact BO CL (FL h) | exact absurd h D2
def AA0{n:Nat}{r:Rw}(h:rws[n]?=some r)(P:CP):Fun (Dv.KK P) r.x r.q r.st r.a r.fd:=by
 have h1:=BO (fun l=>l[n]?)<|kc1 P
 simp only[CY,h,TX]at h1
 have h1:=(AAp P _).trans<|C_ h1
 have h2:=F7.mp (kc2 P) r<|PZ h
 rw[<-AAp]at h2
 exact ACt h1 h2<|by unfold FT;dsimp only;rw[h1]
def ADw{n:Nat}{x:Nat×Str×Nat}(h:mts[n]?=some x)(P:CP)(k:FT (Dv.KK P) (.ref x.2.2)=true):Meth (Dv.KK P) x.1 x.2.1 x.2.2:=by
 have h2:=Cu<|F7.mp (kc3 P) x<|PZ h
 exact⟨FR.mp h2.1,h2.2,k⟩
noncomputable def isI:AN->Int->Bool
 | .int j _,i=>j==i
 | _,_=>false
section
variable{P:CP}{h:Ay}{mg:Str->Option AN}(X:(Dv.KK P).In h)(G:h.Ns GW mg)
include X G
def gR{x:Str}{a:Nat}(e:gls.any (fun g=>g.1==x&&isR g.2 a)=true:=by kernel_rfl):mg x=some (.ref a):=by
 obtain⟨g,hg,q⟩:=Wi.mp e
 have z:=fG X G<|FR.mp<|F7.mp (kc4 P) g hg
 rwa[FL (Cu q).1,ACm (Cu q).2]at z
theorem gI{x:Str}{i:Int}(e:gls.any (fun g=>g.1==x&&isI g.2 i)=true:=by kernel_rfl): ∃ t,mg x=some (.int i t):=by
 obtain⟨⟨y,v⟩,hg,q⟩:=Wi.mp e
 have z:=fG X G<|FR.mp<|F7.mp (kc4 P) _ hg
 rw[FL (Cu q).1]at z
 cases v with
 | int j t=>exact⟨t,by rw[z,FL (Cu q).2]⟩
 | _=>exact absurd (Cu q).2 D2
end
def nG{C:Nat}(P:CP)(m:C∈cL):af (Dv.KK P) C/\XI (Dv.KK P) C=true/\FT (Dv.KK P) (.ref C)=true:=by
 have h:=Cu<|F7.mp (kc5 P) C m
 have h2:=Cu h.2
 have h3:=Cu h2.2
 have h4:=Cu h3.2
 have h5:=Cu h4.2
 exact⟨⟨h.1,h2.1,h3.1,FR.mp h4.1⟩,h5.1,h5.2⟩
noncomputable abbrev BA(x q:Str)(st:Bi)(ps:List Str)(us:List AN):Prop:= ∀ kV doc pm an cdv ct,eJ (KG x q (HN st) (EO st) (BZ st) .none kV doc pm an cdv ct) ⟨us,[]⟩=CA (ps.zip us)
section
variable{K:AS}{x q:Str}{st:Bi}{f:AK}{fd:Ff}{ps:List Str}(F:Fun K x q st f fd)
include F
def AFT(l:ps.length=1)(e: ∀ u0,BA x q st ps [u0]):Binds K fd ps []:=F.binds fun kV doc pm an cdv ct us hl=>by rw[l]at hl;exact match us,hl with | [u0],_=>e u0 kV doc pm an cdv ct
def AFg(l:ps.length=2)(e: ∀ u0 u1,BA x q st ps [u0,u1]):Binds K fd ps []:=F.binds fun kV doc pm an cdv ct us hl=>by rw[l]at hl;exact match us,hl with | [u0,u1],_=>e u0 u1 kV doc pm an cdv ct
def AFW(l:ps.length=3)(e: ∀ u0 u1 u2,BA x q st ps [u0,u1,u2]):Binds K fd ps []:=F.binds fun kV doc pm an cdv ct us hl=>by rw[l]at hl;exact match us,hl with | [u0,u1,u2],_=>e u0 u1 u2 kV doc pm an cdv ct
def AGK(l:ps.length=4)(e: ∀ u0 u1 u2 u3,BA x q st ps [u0,u1,u2,u3]):Binds K fd ps []:=F.binds fun kV doc pm an cdv ct us hl=>by rw[l]at hl;exact match us,hl with | [u0,u1,u2,u3],_=>e u0 u1 u2 u3 kV doc pm an cdv ct
def AF3(l:ps.length=5)(e: ∀ u0 u1 u2 u3 u4,BA x q st ps [u0,u1,u2,u3,u4]):Binds K fd ps []:=F.binds fun kV doc pm an cdv ct us hl=>by rw[l]at hl;exact match us,hl with | [u0,u1,u2,u3,u4],_=>e u0 u1 u2 u3 u4 kV doc pm an cdv ct
def AGG(l:ps.length=6)(e: ∀ u0 u1 u2 u3 u4 u5,BA x q st ps [u0,u1,u2,u3,u4,u5]):Binds K fd ps []:=F.binds fun kV doc pm an cdv ct us hl=>by rw[l]at hl;exact match us,hl with | [u0,u1,u2,u3,u4,u5],_=>e u0 u1 u2 u3 u4 u5 kV doc pm an cdv ct
end
def uV(h:Rf n rws.length=true):rws[n]?=some (rws.getD n r0):=by
 have h:=pq h
 rw[Cc,CS h];rfl
section
variable{P:CP}{n C:Nat}{x q:Str}{st:Bi}{ps:List Str}
def tI(e:(Rf n rws.length&&(((rws.getD n r0).x==x)&&((rws.getD n r0).q==q)))=true:=by kernel_rfl)(s:(rws.getD n r0).st=st:=by kernel_rfl)(b:Fun (Dv.KK P) x q st (AA.ad n) (AA.fd n)->Binds (Dv.KK P) (AA.fd n) ps []:=by intro F;first | exact AFT F rfl fun _ _ _ _ _ _ _=>by kernel_rfl | exact AFg F rfl fun _ _ _ _ _ _ _ _=>by kernel_rfl | exact AFW F rfl fun _ _ _ _ _ _ _ _ _=>by kernel_rfl | exact AGK F rfl fun _ _ _ _ _ _ _ _ _ _=>by kernel_rfl | exact AF3 F rfl fun _ _ _ _ _ _ _ _ _ _ _=>by kernel_rfl | exact AGG F rfl fun _ _ _ _ _ _ _ _ _ _ _ _=>by kernel_rfl):Fun (Dv.KK P) x q st (AA.ad n) (AA.fd n)/\Binds (Dv.KK P) (AA.fd n) ps []:=by
 obtain⟨e1,e2⟩:=Cu e
 have z:=AA0 (uV e1) P
 rw[s,FL (Cu e2).1,FL (Cu e2).2]at z
 exact⟨z,b z⟩
def tD{h:Ay}{mg:Str->Option AN}(X:(Dv.KK P).In h)(G:h.Ns GW mg)(e:(Rf n rws.length&&(((rws.getD n r0).x==x)&&((rws.getD n r0).q==x)))=true:=by kernel_rfl)(i:Fun (Dv.KK P) x x st (AA.ad n) (AA.fd n)/\Binds (Dv.KK P) (AA.fd n) ps []:=by exact tI):Df (Dv.KK P) mg x st ps (AA.ad n) (AA.fd n):=by
 obtain⟨e1,e2⟩:=Cu e
 have hx:=FL (Cu e2).1
 have q:=FR.mp<|F7.mp (kc4 P) _<|kc6 (PZ<|uV e1)<|(FL (Cu e2).2).trans hx.symm
 dsimp only at q
 rw[hx]at q
 exact⟨i.1,i.2,fG X G q⟩
def mz{a:Nat}(kp:FT (Dv.KK P) (.ref a)=true)(eg:mts.any (fun g=>g.1==C&&(g.2.1==x&&g.2.2==a))=true):Meth (Dv.KK P) C x a:=by
 obtain⟨⟨c',x',a'⟩,hg,q'⟩:=Wi.mp eg
 obtain⟨q1,q'⟩:=Cu q'
 obtain⟨q2,q3⟩:=Cu q'
 cases FL q1
 have h2:=FL q2
 have h3:=FL q3
 dsimp only at h2 h3
 subst h3
 obtain⟨k,hk⟩:=List.getElem?_of_mem hg
 have z:=ADw hk P kp
 dsimp only at z
 rwa[h2]at z
def tM(i:Fun (Dv.KK P) x q st (AA.ad n) (AA.fd n)/\Binds (Dv.KK P) (AA.fd n) ps []:=by exact tI)(eg:mts.any (fun g=>g.1==C&&(g.2.1==x&&g.2.2==AA.ad n))=true:=by kernel_rfl)(c:C∈cL:=by decide+kernel):Dm (Dv.KK P) C x q st ps (AA.ad n) (AA.fd n):=⟨i.1,i.2,mz i.1.kp eg,(nG P c).1⟩
def tKl(e:Rf n rws.length=true:=by kernel_rfl)(eg:mts.any (fun g=>g.1==C&&(g.2.1==("__init__":Str)&&g.2.2==AA.ad n))=true:=by kernel_rfl)(c:C∈cL:=by decide+kernel):Mk (Dv.KK P) C (AA.ad n):=
 have z:=mz (AA0 (uV e) P).kp eg
 ⟨(nG P c).2.1,z.at_,z.fn,(nG P c).2.2⟩
end
section
variable{P:CP}{h:Ay}{mg:Str->Option AN}(X:(Dv.KK P).In h)(G:h.Ns GW mg)
include X G
def txC:TxC (Dv.KK P) mg AA:=by
 constructor<;>first | exact tKl | exact(show(_:Bool)=true by kernel_rfl) | exact gR X G | exact(nG P<|by decide+kernel).1 | exact⟨by kernel_rfl,by kernel_rfl,by kernel_rfl,by kernel_rfl,by kernel_rfl,gR X G,(tI (n:=0) (x:=(rws.getD 0 r0).x) (q:=(rws.getD 0 r0).q) (st:=(rws.getD 0 r0).st)).2⟩
def txK:TxK (Dv.KK P) mg AA:=by
 constructor<;>first | exact gI X G | exact gR X G | exact PySem.W.mg_none_of X G (by kernel_rfl) | exact fun H=> .inr ⟨Dv.oT [.int 16384 395,.int 0 396],#[.int 16384 395,.int 0 396],0,by kernel_rfl,rfl,rfl,by decide,.cons ⟨_,rfl⟩<|.cons ⟨_,rfl⟩ .nil⟩ | exact fun H=> .inr ⟨Dv.oT [.int 0 398,.int 16384 399],#[.int 0 398,.int 16384 399],0,by kernel_rfl,rfl,rfl,by decide,.cons ⟨_,rfl⟩<|.cons ⟨_,rfl⟩ .nil⟩
def txt:Txt (Dv.KK P) mg AA:=by constructor<;>first | exact txC X G | exact txK X G | exact tI | exact tM | exact tD X G
end
noncomputable def tV:AN->V
 | .ref a=> .ref a
 | .int i _=> .int i
 | _=> .non
noncomputable def tOk:AN->Bool
 | .ref _=>true
 | .int _ _=>true
 | _=>false
theorem ACb{v:AN}(h:tOk v=true):RelV (tV v) v:=by
 cases v with
 | ref a=>rfl
 | int i t=>exact⟨t,rfl⟩
 | _=>cases h
noncomputable def tO(l:List (Int×Nat×AN))(n:Nat):Obj:=Dv.oD (Dv.tL l) n
noncomputable def tK(l:List (Int×Nat×AN)):List (Key×V):=l.map fun x=>(.inl x.1,tV x.2.2)
def AD8{P:BH}{w:Ap}{K:AS}{a:Nat}{l:List (Int×Nat×AN)}{n:Nat}(hk:K.lookup a=some (tO l n))(hs:(a==Gy)=false)(ok:(l.all fun x=>tOk x.2.2&&(Vw x.1==x.1))=true)(nd:(l.map (·.1)).Nodup):KD P w K a (tK l):=by
 refine⟨hs,l.map fun x=>((.inl x.1:Key),x.2.2),?_,fun h X=>⟨_,_,_,X _ _ hk,⟨rfl,rfl,rfl⟩,rfl,?_,?_,?_⟩⟩
 ·have: ∀ l:List (Int×Nat×AN),(l.all fun x=>tOk x.2.2&&(Vw x.1==x.1))=true->KV (tK l) (l.map fun x=>((.inl x.1:Key),x.2.2)):=by
   intro l
   induction l with
   | nil=>intro _;exact .nil
   | cons x l ih=>
    intro h
    rw[List.all_cons]at h
    exact .cons ⟨rfl,ACb (Cu (Cu h).1).1⟩<|ih (Cu h).2
  exact this l ok
 ·intro e he
  rw[List.mem_toArray]at he
  obtain⟨x,hx,rfl⟩:=Fd.mp he
  have:=F7.mp ok x hx
  exact⟨.inl x.1,dD _,(FR.mp (Cu this).2).symm⟩
 ·have: ∀ l:List (Int×Nat×AN),Pairs (DW P w) (tL l) (l.map fun x=>((.inl x.1:Key),x.2.2)):=by
   intro l
   induction l with
   | nil=>exact .nil
   | cons x l ih=>exact .cons (dD _) rfl ih
  rw[List.toList_toArray]
  exact this l
 ·rw[Oy]
  have e:(l.map<|(fun(kv:Key×AN)=>kv.1)∘fun x=>((.inl x.1:Key),x.2.2))=(l.map (·.1)).map IP:=by rw[Oy];rfl
  rw[e]
  exact nA.mpr<|nd.imp fun h e=>h<|dA e
def tabs(Pr:BH)(w:Ap):K1 Pr w (Dv.KK w.params) AA:=by
 have k {a n:Nat} {l:List (Int×Nat×AN)} {t:List (Key×V)} (e:tK l=t) (hk:(Dv.KK w.params).lookup a=some (tO l n)) (hs:(a==Gy)=false) (ok:(l.all fun x=>tOk x.2.2&&(Vw x.1==x.1))=true) (nd:(l.map (·.1)).Nodup):KD Pr w (Dv.KK w.params) a t:=e▸AD8 hk hs ok nd
 constructor
 ·exact k (l:=Nt) (n:=10) (by kernel_rfl) (by kernel_rfl) (by decide) (by decide+kernel)<|by decide+kernel
 ·exact k (l:=Kf) (n:=18) (by kernel_rfl) (by kernel_rfl) (by decide) (by decide+kernel)<|by decide+kernel
 ·exact k (l:=JG) (n:=6) (by kernel_rfl) (by kernel_rfl) (by decide) (by decide+kernel)<|by decide+kernel
 ·exact k (l:=IM) (n:=16) (by kernel_rfl) (by kernel_rfl) (by decide) (by decide+kernel)<|by decide+kernel
 ·exact k (l:=Lj) (n:=51) (by kernel_rfl) (by kernel_rfl) (by decide) (by decide+kernel)<|by decide+kernel
 ·exact k (l:=je) (n:=6) (by kernel_rfl) (by kernel_rfl) (by decide) (by decide+kernel)<|by decide+kernel
 ·exact k (l:=Md) (n:=42) (by kernel_rfl) (by kernel_rfl) (by decide) (by decide+kernel)<|by decide+kernel
 ·exact k (l:=fD) (n:=11) (by kernel_rfl) (by kernel_rfl) (by decide) (by decide+kernel)<|by decide+kernel
end
end GF
end
open PySem PySem.W PyProof.Rows
set_option maxRecDepth 100000 in
set_option maxHeartbeats 0 in
theorem PySem.Challenge.cw_gridfit_s01_answers_holds : PySem.Challenge.rw_gridfit_s01_answers.Holds := by
 refine holds_os (q:=Dv.qS) (loose:=Dv.fR) (Xt:=Dv.XtS) (XP:=XL Dv.qS []) (Yf:=fun s=>s.heap) (Ya:=fun w=>Dv.H1 w.params) (YP:=fun w h=>(Dv.KK w.params).In h) (N:=30000) Dv.hlN (fun w s e=>by rw[show s.heap=_ from e];exact Dv.AGI _) (fun w h h' X k=>X.keeps k) (fun s e=>xl_of s (PF.mp e).1) XL.keeps (by rfl) (by rfl) (by rfl) (fun s e=>recFacts_of (PF.mp e).2) os_shapes GF.AEr Dv.d1 ⟨rfl,rfl,rfl,rfl,rfl,GF.d2⟩ ?hw ?hc
 case hw=>exact⟨[.list []],by decide+kernel,by decide+kernel⟩
 refine L2.lQ (r:=XE) (K:=Dv.KK) (k:=13) (CX:=L2.cV) (ps:= ["calls"]) (sp:=GF.vV) GF.AEr rfl rfl ⟨rfl,by decide,by decide⟩ (fun w h Y=>Y) ?F ?S fun _ _ _ _ z=>z
 case F=>
  intro w mg fa h Y KX G hmg
  have T:=GF.txt KX G
  have e:CL fa=CL _:=C_<|hmg.symm.trans T.answers.g
  injection e with e
  subst e
  exact⟨_,fun s us hu=>match us,hu with | [_],_=> .of_eq rfl,fun base _ _=>GF.j8<|GF.tabs _ w⟩
 case S=>
  intro K H xs a hO hwi hask hx
  cases hx with
  | cons h1 h2=>
   cases h2
   cases h1 with
   | lst hs ha=>
    have e:=L2.nQ a.1 _ ha
    subst e
    exact⟨_,a.1,rfl,hs,hask,fun H' p hp=> .lst (L2.BF.of hp)<|L2.pA _⟩
