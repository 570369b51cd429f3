import PyProof.Rows.All
import Wide.All
import OpenK.AllK
import Wide.FinOn
import PyProof.EqAt
import PyProof.EqKinds
import PyProof.TupleCall
import Open.SpecLaws
import KE.OsHead
import KE.OsGo
import KE.BitLaws
import Open.Pieces
import Open.Tops
import PyProof.StationsW
import OpenK.KMake
import PyProof.ExcBaseAll.Exception
import PyProof.InstStoreFacts
import PyProof.ExcArgsOwn
import PyProof.ExcAttrAll.Exception
import HtMachine
import OpenK.KMore
import PyWrhint
import KE.SpHead
import KE.OsShapes
import PySem.Challenge.RW_gridfit_s01_answers
set_option Elab.async false
set_option linter.all false
set_option maxRecDepth 100000
set_option maxHeartbeats 0
set_option genSizeOf false
open Int renaming ofNat->AD,fdiv->BN,ofNat_lt->BQ,ofNat_le->Bf,fdiv_eq_ediv_of_nonneg->GD,natCast_nonneg->FP,toNat->HX,toNat_of_nonneg->Lu,eq_ofNat_of_zero_le->OY,le_of_lt->Wz,natAbs_mul->Wu,tdiv_eq_ediv_of_nonneg->V6,natAbs_mul_self->bY,pow_pos->bP,emod_nonneg->bV,not_lt->fO,mul_assoc->lW,pow_succ->rK,natAbs_neg->lY
open PySem renaming Addr->AK,Value->AN,World->Ao,wpAny->Aw,model->Ai,starEach->Au,Heap->Az,Shared->Ay,Program->BH,wpAny_bind->BP,Stmt->Bi,Params->CT,backTo->Cn,wpAny_pure->Cp,OsState->C_,Around->Dh,cellsFrom->D1,wpAny_mono->Et,mainGlobals->FQ,Scope->Fd,FuncData->FU,NameKind->FX,mem_of_lookup->FY,sysModules->G5,compareOp->HC,compEnvC->HE,swapsWith->Fp,binaryOp->GW,codeAny->GN,holding->HY,treeTable->HK,bootBuiltins->IV,behindInMarks->IX,backToKw->Ii,keywordEach->IW,DictEntry->Iq,wpAny_loadPart_at->Ih,standAt->Jv,getMethod->KG,attributeBase->KQ,wpAny_Call_Name_kw->Jk,bindL->Jl,bindC->Jh,pushCells->KJ,atKey->J6,wpAny_truthy_bool->LX,wpAny_passesOwn->MQ,callWith->MU,cLine->L6,codeAny_mono->La,sliceBounds->Lc,Paired->Ot,tupleKind->PB,GenState->O7,wpAny_execs_nil->Oo,assignEach->OW,nsFind->Oc,wpAny_call->Of,notedBy->PJ,valueAt->Ox,excClassObj->PY,callerA->Oh,assign->Sn,wpAny_standAt->R0,getAttr->TX,BindsTo->SK,getItem->TU,call_meets->S5,wpAny_field->RP,hashInt->Vt,wpAny_holding->V9,letOwnedTupleGo->Vz,foldedSetIterable->W5,typeLookup->V1,seqIndex?->WX,subscripted->WS,Keyword->WD,pushCells_keeps->Wt,noteFrame->V7,wpAny_typeLookup_exc->WV,importedModules->eE,Within->fW,builtinsNs->dR,storeName->fq,wpAny_Name->fD,wpAny_execs_cons->du,setItem->b9,inplaceOp->bO,sizeLine_eq->dC,setAttr->fP,bindArgs->eB,seqIndex_of->dJ,seqIndex_neg->dA,operate->bb,compPost->fM,call_meetsIn->e_,wpAny_setField->bU,codeAny_call_builtin->eA,wpAny_loadName_local->qH,wpAny_loadName_cell->nA,wpAny_isTrue_Compare1->mx,wpAny_Expr_any->qY,wpAny_assign_Name->oW,wpAny_pyNext_range_end->qx,wpAny_pyIter_rangeiter->mV,wpAny_pyIter_range->o6,intBits_le_64->mB,wpAny_nsSet1->qD,wpAny_lookBehind->o5,pastItsLine_dict->pR,plainObj_wpAny_Assign_Attribute->nR,recursionLimit->rA,slot_list_getitem->pj,call_list_seq->me,newFunctionEnv->qb,wpAny_newObj_type->qX,tupleKind_room_in1->lz,meets_dict_get->nY,wpAny_Call_method->nV,wpAny_pyIter_enum->pB,wpAny_isSubtype_exc->nj,typeLookup_type->my,builtinLookup_eq_fast->mI,call->qu
open PySem.W renaming Frag->AS,findIn->C9,SharedT->EE,keepIn->FW,WData->Gz,emptyDict->Ia,instObj->J4,fnOf->KA,topFrame->Jo,WellAll->KO,callWith_K->MB,boot_heap->MO,handedIn->O2,byRow2->Ol,topRun->O1,plainGet->RQ,lookIn->WM,hasDictIn->XB,isFn->V5,makesIn->Vv,methodCall_KW->XF,codeIn->WI,restOf->XC,plainGet_of->fK,plainOver->fL,takerIn->cU,typeIn->cG,mg_of->dX,hideAll->qh,hideAll_get->lg,of_hideAll->n8,hideAll_none->oQ,InitBack->rJ,looks_findIn->rE,bind_fn->qa,callWith_K0->pO,cellsFrom_some->qU,length_le_weightAllW->lV,WalkOS->pQ
open List renaming length_map->A8,range->BO,forall_mem_cons->Bv,length_range->CO,getElem?_map->CZ,getElem?_eq_getElem->CQ,mem_cons->Ce,getD_eq_getElem?_getD->Cc,size_toArray->Co,mem_cons_of_mem->Cz,getElem?_set_ne->DK,length_set->DL,mem_cons_self->Dx,getElem?_eq_none->EA,replicate->Ek,length_reverse->Ei,mem_map->Fv,all_eq_true->GB,length_cons->G4,length_drop->G3,getElem?_range->Gq,length_append->E5,map_append->E6,drop_drop->FD,drop_zero->FH,getElem?_set_self->F3,map_cons->GY,length_take->HN,range_succ->Ha,getElem?_eq_some_iff->Ie,lookup->IZ,length_replicate->IY,not_mem_nil->Ir,Nodup->Ij,mem_append_right->Jx,lookup_cons->J1,find?_cons->Jm,mem_append->Ly,mem_range->PV,append_nil->OX,nodup_cons->PF,mem_of_getElem?->PZ,ext_getElem?->Oa,map_map->Om,map_congr_left->PM,filterMap_cons->TF,getElem?_cons_succ->RV,mem_or_eq_of_mem_set->Sv,drop_eq_nil_of_le->Sb,find?->SH,length->WL,getElem?_append_right->WN,getElem?_append_left->Vn,length_nil->Wo,any_eq_true->Wh,foldl_cons->Ww,getElem_mem->WZ,eraseIdx_eq_take_drop_succ->Vu,mem_of_find?_eq_some->Vr,drop_eq_getElem_cons->Vx,foldl_append->WH,getElem?_drop->V3,eq_of_mem_replicate->W7,mem_filter->cR,mem_filterMap->d_,any_eq_false->b_,of_mem_zip->b5,getElem?_replicate->dw,any_cons->eZ,mem_singleton->bp,drop_length->dW,find?_eq_none->c7,mem_append_left->mH,rec->pG,eraseIdxIfInBounds_toArray->lu,forIn_nil->mJ,range'->ng,map_take->mn,map_drop->n9,dropLast_concat->l_,take_succ->pM,getElem?_reverse->mF,set_set->nS,pairwise_map->qQ,reverse_cons->qj,getElem_range->lX,find?_some->qO,getD_cons_zero->nt,getD_cons_succ->pY,getElem?_take->mC,mem_reverse->mY,set->pI,append_assoc->qy
open Nat renaming le_refl->BS,mod_eq_of_lt->Bu,zero_le->B6,le_trans->CC,lt_of_lt_of_le->DO,ne_of_lt->DN,lt_or_ge->Dg,le_of_not_lt->Ec,lt_of_le_of_lt->Ez,mod_lt->E9,mod_eq_sub_mod->FK,lt_irrefl->Fo,le_of_lt->HS,lt_trans->HV,not_lt_zero->HW,le_of_succ_le->MA,mul_le_mul->Lq,lt_succ_self->PD,zero_add->O6,succ_pos->Oj,add_mod_right->O8,sub_self->TL,ne_of_gt->WG,le_of_eq->W4,le_succ->Vo,lt_succ_of_lt->V0,min_eq_left->Wm,beq->bt,mul_le_mul_right->bh,lt_of_not_le->ee,mod_add_mod->cq,pow_succ->qg,one_mul->ql,le_antisymm->qA,lt_of_succ_lt_succ->oh,add_zero->o9
open Wrhint renaming step->Bh,isBad->Cy,Face->D2,zoneOf->GX,rising->Ft,shapeStart->J0,good->O3,fontStart->PH,sizedOf->OV,ended->PR,no->Wa,Sized->eR,getOf->fN,zeros->cu,begun->nG,sizeStart->oZ,start->p6
open PySem.Heap renaming lt_size->Bz,get?_push_of_some->CP,size_push->HD,get?_push_size->IF,SameBut->SD,get?_update_self->Wq,get?_update_other->XH,get?_update_ne->oj
open Int.ofNat renaming inj->B7
open Pure renaming pure->CB
open PySem.Value renaming ref->CY,type->Oy,none->Rt,builtin->S3,isInt->qF,isStrOf->mO,int->qE,str->nX
open Option.some renaming inj->C5
open Or renaming inr->DC,inl->Fb
open False renaming elim->DM
open PySem.Builtin renaming bitAnd->De,bitOr->R4,bitXor->rB
open Bool renaming false_ne_true->D0,eq_false_iff->Er,noConfusion->Gu,not_eq_true'->LV,and_eq_true->PQ,and_eq_true_iff->O4,eq_iff_iff->Wb,false_eq_true->Wx,or_true->eJ,or_eq_true->qJ
open PyWrhint renaming shape->EN,answers->Si,calls->fm,whole->og,answers_asked->qW
open Ne renaming symm->Ea
open PyProof.Rows renaming envOfC->GQ,AllBare->Jr,Call_->Rc,callWith_type1->TB,boot_range->cD,Subscript_->eh,Constant_none->lh,iadd_int->nZ,isub_int->mP,callWith_builtin1->nr,subscriptTail->nO,subscriptTail_builtinR->rG
open Except renaming ok->G1
open WrhintNeutral renaming pointsOf->Gp,text->HZ,callOf->Im,n_->J9,step->ME,asked1->fc,told->f7,whole32->fb,pointsOk->dS
open Sum renaming inl->II,inr->L8
open PySem.F renaming plainAttrs_list->FG,slot_dict_get->Se,slot_list_append->TN,type_list_append->SQ,excBase_Exception->WR,slot_list_pop->Ws,type_list_pop->Wi,entry_dict_get->dj,args_dict_get_2->ff,store_Exception->cO,plainAttrs_dict->pU,type_dict_get->nM,slot_list_extend->qR,type_list_extend->mD
open True renaming intro->IU
open PySem.PassesOwn renaming never->Ig
open LawfulBEq renaming eq_of_beq->J_
open PyFlat renaming calls->Jf,call->MW,rows->R7,told->WQ,played->WY,row->dy
open PySem.Str renaming ofString->Lv,empty->Od
open PySem.Builtin.Range renaming rangeSize->Ov,small->c9,rangeFitsLong->oJ
open PySem.W.Codec renaming encAll->PK,app->Sl,denoteAll->oq,withinAll->qr
open PySem.Obj renaming mapSeq->RK,mapFields->WK,isFreed_of_fields->mU
open PySem.NameKind renaming free->Rm,cell->pN
open Option renaming map_some->Rk,isSome_iff_exists->dH,rec->pf,getD_none->pC,isSome_some->nU,none->mX
open PySem.Code renaming body->R9,isFrame->dY,frames->mh,quiet_builtin->mZ
open Array renaming mk->TV,getElem?_eq_some_iff->Vs,length_toList->oO,toList->oo,mem_toList_iff->mK,getElem?_toList->qk
open PySem.Challenge renaming rw_gridfit_s01_answers->Wf,pw_gridfit_s01_answers->eI,nm_gridfit_s01_answers->eP,fa_gridfit_s01_answers->yT,fr_gridfit_s01_answers->AAG
open PySem.Calls renaming callWith_builtin->XE,spliced_nil->cQ,spliced_cons->fC,evalArgs_plain->dD,Name_function_global->pz
open ForInStep renaming yield->WJ
open And renaming intro->Vw
open Eq renaming trans->WE
open PySem.W.WData renaming weightAll->V8,int->p_
open Sum.inl renaming inj->fy
open PySem.Paired renaming length->dt,snoc->lU
open PySem.Around renaming under->eK
open PySem.Builtin.List renaming listTooLong->fz
open PySem.Flow renaming next->bT
open PySem.CmpOp renaming In->pT,NotIn->m_
open PySem.Walks renaming range->ph
open PySem.IsRange renaming new->qP
open PySem.Within renaming cons->qz
open PySem.Heap.Ns1 renaming of_empty->p7
open PySem.PyData renaming keyHash->rF
open PySem.EntryCells renaming newEntry->ny
open Nat.le renaming dest->mM
open PySem.Value.type renaming inj->rH
open PySem.SeqAt.EqAt renaming int_str->zk,str_int->AAD
open PySem.EqNone renaming eq_none_none->yz,eq_none_bool->yJ,eq_none_int->zZ,eq_none_str->zf,eq_bool_none->AAK,eq_int_none->AAA,eq_str_none->y_,ne_none_none->yw,ne_none_bool->xw,ne_none_int->x6,ne_none_str->yk,ne_bool_none->zU,ne_int_none->y4,ne_str_none->yg
open PySem.EqMixed renaming eq_bool_str->ye,eq_int_str->zS,eq_str_bool->zI,eq_str_int->xl,ne_bool_str->yU,ne_int_str->yq,ne_str_bool->zC,ne_str_int->yD
open PySem.DictEntry renaming refKey->yj
open PySem.W.Looks renaming here->yP
open PySem.Heap.IsSliceOf renaming new->zW
open PySem.IsL renaming update->zO
open PySem.Heap.DictOf renaming new->z6
open PySem.W.Fast renaming tw10110043849684766642->yp,tw14364793385576792824->zV,te10110043849684766642->zN,te14364793385576792824->yH
open PySem.Builtin.ObjectAttr renaming storeInDict->AAU,newKeyGuard->yR
open List.Nodup renaming mem_erase_iff->zg
open List.Pairwise renaming imp_of_mem->yd,filter->zL
open Classical renaming byContradiction->yW
open PySem.W.ReadsAllW renaming nil->AAI,cons->zm
noncomputable def AG:=@if_neg
noncomputable def AI:=@if_pos
noncomputable def An:=@of_decide_eq_true
noncomputable def Av:=@decide_eq_true
noncomputable def BL:=@congrArg
noncomputable def D5:=@decide_eq_false
noncomputable def D6:=@if_true
noncomputable def Ey:=@of_decide_eq_false
noncomputable def Fn:=@beq_iff_eq
noncomputable def FJ:=@if_false
noncomputable def Jt:=@beq_eq_false_iff_ne
noncomputable def MK:=@decide_eq_true_eq
noncomputable def Li:=@congrFun
noncomputable def MI:=@propext
noncomputable def W8:=@decide_eq_true_iff
noncomputable def Wv:=@decide_eq_false_iff_not
noncomputable def cH:=@beq_self_eq_true'
noncomputable def pE:=@not_true_eq_false
noncomputable def qt:=@not_false_eq_true
noncomputable def oU:=@decide_eq_decide
section
namespace GF
section
open PySem PySem.W PyProof.Rows
noncomputable abbrev pw:BH:=eI
def l1:sreFenced pw.main=true:=by decide+kernel
def l2:((moduleNames pw.main.body).isEmpty||lookedIntoSs (moduleNames pw.main.body) pw.main.body)=true:=by decide+kernel
def l3:namesResolve pw=true:=by decide+kernel
def l4:pw.boundNames.all (fun n=>!worldNames.contains n)=true:=by decide+kernel
def l5:noRoadLSs {strict:=!(eE pw.main.body).all cThrough.contains,foot:=none,bare:=(["vars","dir","locals"]:List Str).filter<|readsOut pw pw.main.body} pw.main.body=true:=by decide+kernel
def l6:(namesMeet pw pw.main.body fun _ n=>attrL n)=true:=by decide+kernel
def l7:pw.boundNames.contains eP=true:=by decide+kernel
def l8:(!startupNames.contains eP)=true:=by decide+kernel
def l9:specDef pw eP 1=true:=by decide+kernel
def l10:yT.all Codec.fits=true:=by decide+kernel
def l11:AAG.ok=true:=by decide+kernel
def d2:Wf.prog.tablesWhole=true:=by decide+kernel
def Zm{a b:Bool}(h:a=true)(h':b=true):(a&&b)=true:=by rw[h,h'];rfl
def AEt:Wf.wellSaid=true:=
 Zm (Zm (Zm (Zm (Zm (Zm (Zm (Zm (Zm (Zm l1 l2) l3) l4) l5) l6) l7) l8) l9) l10) l11
end
end GF
end
section
namespace L2
open PySem PySem.Spec PyProof.Rows
noncomputable abbrev Key:=Sum Int Str
noncomputable def aD:Key->AN->Bool
 | .inl k,v=>qF k v
 | .inr x,v=>mO x v
noncomputable def AGG(w:Ao):Key->Int
 | .inl k=>Vt k
 | .inr x=>hashStr w x
theorem Dr: ∀{k:Key} {v:AN},aD k v=true->(∃ i t,k=II i/\v=qE i t)\/(∃ x t,k=L8 x/\v=nX x t)
 | .inl i,v,h=>by
  obtain⟨t,e⟩:=Value.isInt_shape (k:=i) (v:=v) h
  exact .inl ⟨i,t,rfl,e⟩
 | .inr x,v,h=>by
  obtain⟨t,e⟩:=Value.isStrOf_shape (x:=x) (v:=v) h
  exact .inr ⟨x,t,rfl,e⟩
def r8(i:Int)(t:Tok):aD (.inl i) (.int i t)=true:=by simp[aD,qF]
def sG(x:Str)(t:Tok):aD (.inr x) (.str x t)=true:=by simp[aD,mO]
def ACz(a b:Int):decide ((II a:Key)=II b)=(a==b):=by
 by_cases e:a=b
 ·subst e;simp
 ·have h: ¬(II a:Key)=II b:=fun q=>e (fy q)
  rw[D5 h]
  exact(Jt.mpr e).symm
def ABM(a b:Str):decide ((L8 a:Key)=L8 b)=decide (a=b):=by
 by_cases e:a=b
 ·subst e;simp
 ·have h: ¬(L8 a:Key)=L8 b:=fun q=>e (Sum.inr.inj q)
  rw[D5 h,D5 e]
def ACO(a:Int)(b:Str):decide ((II a:Key)=L8 b)=false:=D5 (fun q=>nomatch q)
def ACb(a:Str)(b:Int):decide ((L8 a:Key)=II b)=false:=D5 (fun q=>nomatch q)
noncomputable def DW(prog:BH)(w:Ao):PySem.KeyKind prog w Key where
 is:=aD
 hash:=AGG w
 inj:=fun v a b ha hb=>by
  rcases Dr ha with⟨i,t,rfl,rfl⟩ |⟨x,t,rfl,rfl⟩
  ·rcases Dr hb with⟨j,u,rfl,e⟩ |⟨y,u,rfl,e⟩
   ·injection e with e1 _;rw[e1]
   ·exact nomatch e
  ·rcases Dr hb with⟨j,u,rfl,e⟩ |⟨y,u,rfl,e⟩
   ·exact nomatch e
   ·injection e with e1 _;rw[e1]
 byValue:=fun k v h=>by
  rcases Dr h with⟨i,t,rfl,rfl⟩ |⟨x,t,rfl,rfl⟩<;>rfl
 pyHash:=fun hv h=>by
  rcases Dr hv with⟨i,t,rfl,rfl⟩ |⟨x,t,rfl,rfl⟩
  ·exact wpAny_pyHash_int h
  ·exact wpAny_pyHash_str h
 eqBool:=fun hu hv h=>by
  rcases Dr hu with⟨i,t,rfl,rfl⟩ |⟨x,t,rfl,rfl⟩
  ·rcases Dr hv with⟨j,u,rfl,rfl⟩ |⟨y,u,rfl,rfl⟩
   ·rw[ACz]at h;exact wpAny_eqBool_int h
   ·rw[ACO]at h;exact zk i t y u _ _ _ _ h
  ·rcases Dr hv with⟨j,u,rfl,rfl⟩ |⟨y,u,rfl,rfl⟩
   ·rw[ACb]at h;exact AAD x t j u _ _ _ _ h
   ·rw[ABM]at h;exact wpAny_eqBool_str h
 «strs»:=fun k x t v h=>by
  rcases Dr h with⟨i,u,rfl,e⟩ |⟨y,u,rfl,e⟩
  ·exact nomatch e
  ·injection e with e1 _
   subst e1
   cases v<;>rfl
def i7(prog:BH)(w:Ao)(i:Int)(t:Tok):(DW prog w).is (.inl i) (.int i t)=true:=r8 i t
def iA(prog:BH)(w:Ao)(x:Str)(t:Tok):(DW prog w).is (.inr x) (.str x t)=true:=sG x t
end L2
namespace L2
open PySem PySem.Spec PyProof.Rows
inductive V where
 | non | bl (b:Bool) | int (i:Int) | str (x:Str) | byt (b:Array UInt8) | flt (b:UInt64) | ref (a:AK) | ty (n:String)
 deriving DecidableEq
noncomputable def RelV:V->AN->Prop
 | .non,u=>u=Rt
 | .bl b,u=>u=Value.bool b
 | .int i,u=> ∃ t,u=qE i t
 | .str x,u=> ∃ t,u=nX x t
 | .byt b,u=> ∃ t,u=Value.bytes b t
 | .flt b,u=> ∃ t,u=Value.float b t
 | .ref a,u=>u=CY a
 | .ty n,u=>u=Oy n
noncomputable abbrev Vals:List V->List AN->Prop:=Ot RelV
def Vals.length(r:Vals xs us):xs.length=us.length:=dt r
theorem Vals.get{xs:List V}{us:List AN}{i:Nat}{x:V}(h:Vals xs us)(e:xs[i]?=some x): ∃ u,us[i]?=some u/\RelV x u:=by
 induction h generalizing i with
 | nil=>cases e
 | cons r t ih=>
  cases i with
  | zero=>cases e;exact⟨_,rfl,r⟩
  | succ i=>exact ih e
theorem Vals.set(r:RelV x u){xs:List V}{us:List AN}(i:Nat)(h:Vals xs us):Vals (xs.set i x) (us.set i u):=by
 induction h generalizing i with
 | nil=>exact .nil
 | cons q t ih=>
  cases i with
  | zero=>exact .cons r t
  | succ i=>exact .cons q<|ih i
theorem Vals.append{xs ys:List V}{us ws:List AN}(h:Vals xs us)(s:Vals ys ws):Vals (xs++ys) (us++ws):=by
 induction h with
 | nil=>exact s
 | cons r t ih=>exact .cons r ih
theorem Vals.take{xs:List V}{us:List AN}(n:Nat)(h:Vals xs us):Vals (xs.take n) (us.take n):=by
 induction h generalizing n with
 | nil=>cases n<;>exact .nil
 | cons r t ih=>
  cases n with
  | zero=>exact .nil
  | succ n=>exact .cons r<|ih n
theorem Vals.drop{xs:List V}{us:List AN}(n:Nat)(h:Vals xs us):Vals (xs.drop n) (us.drop n):=by
 induction h generalizing n with
 | nil=>cases n<;>exact .nil
 | cons r t ih=>
  cases n with
  | zero=>exact .cons r t
  | succ n=>exact ih n
noncomputable def Pk:Option V->Option AN->Prop
 | some v,some u=>RelV v u
 | none,none=>True
 | _,_=>False
noncomputable def KV:List (κ×V)->List (κ×AN)->Prop:=Ot fun p q=>p.1=q.1/\RelV p.2 q.2
noncomputable def kV:Key->V
 | .inl i=> .int i
 | .inr x=> .str x
inductive HO where
 | lst (xs:List V)
 | tup (xs:List V)
 | dK (BU:List (Key×V)) | dT (BU:List (List Key×V))
 | set (S:Int->Bool) (n:Nat)
 | ins (C dx:AK) (fs:List (Str×V))
 | own (x:AK)
 | xd (fs:List (Str×V))
 | met (f x:AK)
 | rng (lo hi:Int)
 | frz (o:Obj) (u:HO)
 | tbl (ps:Array AN)
 | ext (φ:Az->Prop)
noncomputable abbrev Hp:=AK->Option HO
noncomputable def upd(H:Hp)(a:AK)(o:HO):Hp:=fun b=>if b=a then some o else H b
def AJ:upd H a o a=some o:=by unfold upd;rw[AI rfl]
def AQ(h:b≠a):upd H a o b=H b:=by unfold upd;rw[AG h]
def Bl:upd (upd H a o) a u=upd H a u:=by
 funext b;unfold upd;split<;>rfl
def aT{H:Hp}(h:H a=some o)(h':H b=some u)(d:o≠u):a≠b:=by
 intro e;subst e;rw[h]at h';exact d<|C5 h'
def Ac{H:Hp}(h:H a=some o)(h':H b=none):a≠b:=by
 intro e;subst e;rw[h]at h';cases h'
section
variable(P:BH)(w:Ao)
noncomputable def EK(H:Hp)(h:Az)(a:AK):HO->Prop
 | .lst xs=>xs.length<=sizeLine/\ ∃ its n,Vals xs its/\h.get? a=some {cls:= .type "list",data:= .seq its.toArray n}
 | .tup xs=>xs.length<=sizeLine/\ ∃ its,Vals xs its/\IsTup h a its.toArray
 | .dK BU=>BU.length<=sizeLine/\(a==G5)=false/\ ∃ vs,KV BU vs/\h.DictOf (DW P w) a vs
 | .dT BU=>BU.length<=sizeLine/\(a==G5)=false/\ ∃ xs:List (List Key×AK×AN),
   Ot (fun p q=>p.1=q.1/\H q.2.1=some (.tup<|p.1.map kV)/\RelV p.2 q.2.2) BU xs/\
   ∃ o es ep,h.get? a=some o/\o.ExactDict/\o.data= .dict es ep/\es.toList=xs.map (entryOfKey<|PB<|DW P w)/\(xs.map (·.1)).Nodup
 | .set S n=>h.SetOf (intKind P w) a S n
 | .ins C dx fs=>H dx=some (.own a)/\fs.length<=1000/\dx≠a/\h.get? a=some (J4 C dx)/\
   ∃ mA,h.Ns1 dx mA/\(∀ f,Pk (fs.lookup f)<|mA f)/\fW mA (fs.map (·.1))
 | .own _=> ∃ o,h.get? a=some o
 | .xd fs=> ∃ mA,h.Ns1 a mA/\ ∀ f,Pk (fs.lookup f)<|mA f
 | .rng lo hi=> ∃ t u v,h.get? a=some {cls:= .type "range",data:= .fields #[.int lo t,.int hi u,.int 1 v]}
 | .frz o u=>h.get? a=some o/\EK H h a u
 | .tbl ps=>h.get? a=some {cls:= .none,data:= .fields ps}
 | .met f x=>h.get? a=some (PySem.W.methodObj (.ref f)<|.ref x)
 | .ext φ=>φ h/\(∃ o,h.get? a=some o)/\ ∀ h1 h2,φ h1->(∀ o,h1.get? a=some o->h2.get? a=some o)->φ h2
noncomputable def NG(H:Hp)(h:Az):Prop:= ∀ a o,H a=some o->EK P w H h a o
end
section
variable{P:BH}{w:Ao}{H H':Hp}{h h':Az}{a:AK}{o:HO}
theorem EK.lt(x:EK P w H h a o):a<h.objs.size:=by
 cases o with
 | lst xs=>obtain⟨_,_,_,_,e⟩:=x;exact Bz e
 | tup xs=>obtain⟨_,_,_,p⟩:=x;exact p.lt
 | dK BU=>obtain⟨_,_,_,_,o,_,_,e,_⟩:=x;exact Bz e
 | dT BU=>obtain⟨_,_,_,_,o,_,_,e,_⟩:=x;exact Bz e
 | set S n=>obtain⟨o,_,_,_,e,_⟩:=x;exact Bz e
 | ins C dx fs=>obtain⟨_,_,_,e,_⟩:=x;exact Bz e
 | own y=>obtain⟨_,e⟩:=x;exact Bz e
 | xd fs=>obtain⟨_,⟨_,_,_,e,_⟩,_⟩:=x;exact Bz e
 | rng lo hi=>obtain⟨_,_,_,e⟩:=x;exact Bz e
 | frz ob u=>obtain⟨e,_⟩:=x;exact Bz e
 | tbl ps=>exact Bz<|x
 | met f y=>exact Bz<|x
 | ext φ=>obtain⟨_,⟨_,e⟩,_⟩:=x;exact Bz e
theorem Paired.AEg{l₁:List α}{l₂:List β}(h:Ot F l₁ l₂)(f: ∀ a b,F a b->G a b):Ot G l₁ l₂:=by
 induction h with
 | nil=>exact .nil
 | cons r t ih=>exact .cons (f _ _ r) ih
theorem EK.Pl(x:EK P w H h a o)(k: ∀ b u,(b=a\/H b=some (.own a))->h.get? b=some u->h'.get? b=some u)
  (ho: ∀ b,H b=some (.own a)->H' b=some (.own a)) (ht: ∀ b xs,H b=some (.tup xs)->H' b=some (.tup xs)):EK P w H' h' a o:=by
 induction o with
 | lst xs=>obtain⟨z,its,n,r,e⟩:=x;exact⟨z,its,n,r,k _ _ (.inl rfl) e⟩
 | tup xs=>obtain⟨z,its,r,ob,e,c⟩:=x;exact⟨z,its,r,ob,k _ _ (.inl rfl) e,c⟩
 | dK BU=>obtain⟨z,y,vs,r,ob,es,ep,e,c⟩:=x;exact⟨z,y,vs,r,ob,es,ep,k _ _ (.inl rfl) e,c⟩
 | dT BU=>
  obtain⟨z,y,xs,r,ob,es,ep,e,c⟩:=x
  exact⟨z,y,xs,Paired.AEg r fun p q z=>⟨z.1,ht _ _ z.2.1,z.2.2⟩,ob,es,ep,k _ _ (.inl rfl) e,c⟩
 | set S n=>obtain⟨ob,es,ep,t,e,c⟩:=x;exact⟨ob,es,ep,t,k _ _ (.inl rfl) e,c⟩
 | ins C dx fs=>
  obtain⟨d,z,ne,e,mA,⟨od,es,ep,e2,c⟩,r⟩:=x
  exact⟨ho _ d,z,ne,k _ _ (.inl rfl) e,mA,⟨od,es,ep,k _ _ (.inr d) e2,c⟩,r⟩
 | own y=>obtain⟨ob,e⟩:=x;exact⟨ob,k _ _ (.inl rfl) e⟩
 | xd fs=>obtain⟨mA,⟨od,es,ep,e,c⟩,r⟩:=x;exact⟨mA,⟨od,es,ep,k _ _ (.inl rfl) e,c⟩,r⟩
 | rng lo hi=>obtain⟨t,u,v,e⟩:=x;exact⟨t,u,v,k _ _ (.inl rfl) e⟩
 | frz ob u ih=>obtain⟨e,q⟩:=x;exact⟨k _ _ (.inl rfl) e,ih q⟩
 | tbl ps=>
  have e:=x
  exact k a _ (.inl rfl) e
 | met f y=>
  have e:=x
  exact k a _ (.inl rfl) e
 | ext φ=>obtain⟨p,⟨o,e⟩,st⟩:=x;exact⟨st _ _ p fun o q=>k _ _ (.inl rfl) q,⟨o,k _ _ (.inl rfl) e⟩,st⟩
def NG.lt(x:NG P w H h)(e:H a=some o):a<h.objs.size:=(x a o e).lt
theorem NG.fresh(x:NG P w H h)(e:h.objs.size<=a):H a=none:=by
 cases q:H a with
 | none=>rfl
 | some u=>exact absurd (DO (x.lt q) e)<|Fo _
def NG.kept(x:NG P w H h)(k: ∀ b u,h.get? b=some u->h'.get? b=some u):NG P w H h':=fun a o e=>
 (x a o e).Pl (fun b u _ q=>k b u q) (fun _ q=>q) fun _ _ q=>q
def NG.laid(x:NG P w H h)(k: ∀ b u,h.get? b=some u->h'.get? b=some u)(hp:h.objs.size<=a)(new:EK P w (upd H a o) h' a o):NG P w (upd H a o) h':=fun b u e=>by
 have hn:=x.fresh hp
 by_cases hb:b=a
 ·subst hb;rw[AJ]at e;cases e;exact new
 ·rw[AQ hb]at e
  exact(x b u e).Pl (fun c v _ q=>k c v q) (fun c q=>by rw[AQ<|Ac q hn];exact q) fun c xs q=>by rw[AQ<|Ac q hn];exact q
end
noncomputable def Rd(H:Hp)(a:AK)(u:HO):Prop:=H a=some u\/ ∃ o,H a=some (.frz o u)
def Rd.ok(r:Rd H a u)(x:NG P w H h):EK P w H h a u:=by
 rcases r with r |⟨o,r⟩
 ·exact x a u r
 ·obtain⟨_,q⟩:=x a _ r
  exact q
noncomputable def Mut:Option HO->Prop
 | some (.lst _)=>True
 | some (.dK _)=>True
 | some (.dT _)=>True
 | some (.set _ _)=>True
 | some (.ins _ _ _)=>True
 | some (.ext _)=>True
 | _=>False
section
variable{P:BH}{w:Ao}{H:Hp}{h h':Az}{x e:AK}{o':HO}
def NG.write(ok:NG P w H h)(mu:Mut (H x))(he:e=x\/H e=some (.own x))(k: ∀ b u,b≠e->h.get? b=some u->h'.get? b=some u)(heo: ∃ u,h'.get? e=some u)
  (new:EK P w (upd H x o') h' x o'):NG P w (upd H x o') h':=fun b u q=>by
 have nown: ∀ c y,H c=some (.own y)->c≠x:=fun c y r z=>by subst z;rw[r]at mu;exact mu
 have ntup: ∀ c xs,H c=some (.tup xs)->c≠x:=fun c xs r z=>by subst z;rw[r]at mu;exact mu
 by_cases hb:b=x
 ·subst hb;rw[AJ]at q;cases q;exact new
 ·rw[AQ hb]at q
  by_cases hbe:b=e
  ·have q':H b=some (.own x):=by
    rcases he with z | z
    ·exact absurd (hbe.trans z) hb
    ·rw[hbe];exact z
   rw[q]at q';cases q'
   obtain⟨v,hv⟩:=heo
   exact⟨v,by rw[hbe];exact hv⟩
  ·refine(ok b u q).Pl (fun c v hc r=>k c v ?_ r) (fun c r=>by rw[AQ<|nown c b r];exact r) fun c xs r=>by rw[AQ<|ntup c xs r];exact r
   rcases hc with rfl | hc
   ·exact hbe
   ·rintro rfl
    rcases he with z | z
    ·exact nown c b hc z
    ·rw[hc]at z;cases z;exact hb rfl
end
structure Un(fs ex:List AK)(H H':Hp)(h h':Az):Prop where
 keep: ∀ b o,h.get? b=some o->H b=none->b∉fs->b∉ex->h'.get? b=some o
 slot: ∀ b o,h.get? b=some o->H b=none->b∈fs->b∉ex-> ∃ sl,h'.get? b=some {o with slots:=sl}
 free: ∀ b o,h.get? b=some o->H b=none->b∉ex->H' b=none
 there: ∀ b o,h.get? b=some o->b∉ex-> ∃ o',h'.get? b=some o'
 VP: ∀ b xs,H b=some (.tup xs)->H' b=some (.tup xs)
 Tf: ∀ b o u,H b=some (.frz o u)->H' b=some (.frz o u)
 VH: ∀ b ps,H b=some (.tbl ps)-> ∃ more,H' b=some (.tbl (ps++more))
section
variable{fs fs' ex ex':List AK}{H H1 H2:Hp}{h h1 h2 h':Az}{a x e:AK}{o:HO}
def Un.any(u:Un fs ex H H1 h h1)(q:h.get? b=some ob)(n:H b=none)(hx:b∉ex): ∃ sl,h1.get? b=some {ob with slots:=sl}:=by
 by_cases hb:b∈fs
 ·exact u.slot b ob q n hb hx
 ·exact⟨ob.slots,u.keep b ob q n hb hx⟩
theorem Un.kept(k: ∀ b u,h.get? b=some u->h'.get? b=some u):Un fs ex H H h h':=
 ⟨fun b ob q _ _ _=>k b ob q,fun b ob q _ _ _=>⟨ob.slots,k b ob q⟩,fun _ _ _ n _=>n,fun b ob q _=>⟨ob,k b ob q⟩,fun _ _ q=>q,fun _ _ _ q=>q,fun _ ps q=>⟨#[],by rw[q];simp⟩⟩
theorem Un.refl:Un fs ex H H h h:=Un.kept fun _ _ q=>q
theorem Un.laid(k: ∀ b u,h.get? b=some u->h'.get? b=some u)(hp:h.objs.size<=a)(hn:H a=none):Un fs ex H (upd H a o) h h' where
 keep:=fun b u q _ _ _=>k b u q
 slot:=fun b u q _ _ _=>⟨u.slots,k b u q⟩
 free:=fun b u q n _=>by rw[AQ<|DN<|DO (Bz q) hp];exact n
 there:=fun b u q _=>⟨u,k b u q⟩
 VP:=fun b xs q=>by rw[AQ<|Ac q hn];exact q
 Tf:=fun b u xs q=>by rw[AQ<|Ac q hn];exact q
 VH:=fun b ps q=>⟨#[],by rw[AQ<|Ac q hn,q];simp⟩
def Un.write(mu:Mut (H x))(he:e=x\/H e=some (.own x))(k: ∀ b u,b≠e->h.get? b=some u->h'.get? b=some u)(heo: ∃ u,h'.get? e=some u):Un fs ex H (upd H x o) h h':=by
 have hx: ∀ b,H b=none->b≠x:=fun b n z=>by subst z;rw[n]at mu;exact mu
 have hb: ∀ b,H b=none->b≠e:=fun b n z=>by
  subst z
  rcases he with r | r
  ·exact hx b n r
  ·rw[n]at r;cases r
 have hm: ∀ b u,H b=some u-> ¬ Mut (some u)->b≠x:=fun b u q nm z=>by subst z;rw[q]at mu;exact nm mu
 refine⟨fun b u q n _ _=>k b u (hb b n) q,fun b u q n _ _=>⟨u.slots,k b u (hb b n) q⟩,fun b u q n _=>by rw[AQ<|hx b n];exact n,fun b u q _=>?_,
  fun b xs q=>by rw[AQ<|hm b _ q fun z=>z];exact q,fun b u xs q=>by rw[AQ<|hm b _ q fun z=>z];exact q,fun b ps q=>⟨#[],by rw[AQ<|hm b _ q fun z=>z,q];simp⟩⟩
 by_cases hbe:b=e
 ·subst hbe;exact heo
 ·exact⟨u,k b u hbe q⟩
end
noncomputable def trk(h:Az)(H:Hp):List AK:=(BO h.objs.size).filter fun a=>(H a).isSome
noncomputable def bS(h:Az)(H:Hp):Az:=qh h (trk h H)
def sJ(h:Az)(H:Hp):(bS h H).objs.size=h.objs.size:=PySem.W.hideAll_size _ _
def uS(e:h.get? b=some o)(n:H b=none):(bS h H).get? b=some o:=
 lg _ e fun hm=>by
  have q:=(cR.mp hm).2
  rw[n]at q;simp at q
theorem zE(e:(bS h H).get? b=some o):h.get? b=some o/\H b=none:=by
 have e':=n8 (trk h H) e
 refine⟨e',?_⟩
 cases q:H b with
 | none=>rfl
 | some x=>
  have hm:b∈trk h H:=cR.mpr ⟨PV.mpr<|Bz e',by simp[q]⟩
  have z:(bS h H).get? b=none:=oQ (trk h H) hm
  rw[z]at e;cases e
end L2
namespace L2
open PySem PySem.Spec PyProof.Rows
structure Mod(K:AS)(mg:Str->Option AN)(base:Az):Prop where
 xg:K.In base
 glob:base.Ns FQ mg
 blt: ∃ mb,base.Ns dR mb/\ ∀ x:Str,x≠"__name__"->mb x=IV x
 nolimit:base.NoLimit
structure Cx where
 prog:BH
 w:Ao
 K:AS
 mg:Str->Option AN
 base:Az
 A:Dh
 N:List Str
 P8:Ay
 H_0:Hp
 env:Env
 outer:List Env
 stack:List Env
 ex:List AK
 fn:Str->Bool
 calm:Bool
 pn:List (AK×Obj)
 xe:AN->Ay->Prop
noncomputable def CL(l:List Env):List AK:=l.filterMap (·.frame)
noncomputable abbrev Cx.fs(X:Cx):List AK:=CL X.outer
noncomputable def vX(sc:Fd)(x:Str):Prop:=sc.names.lookup x=some .local\/sc.names.lookup x=some .cell\/sc.names.lookup x=some .free
noncomputable def Loc(sc:Fd)(x:Str):Prop:=sc.names.lookup x=some .local\/sc.names.lookup x=some .cell
noncomputable def Look(env:Env)(h:Az)(m:Str->Option AN)(x:Str)(u:AN):Prop:=
 (env.kindOf x=some .local/\m x=some u)\/((env.kindOf x=some .cell\/env.kindOf x=some .free)/\ ∃ c,env.cells.lookup x=some c/\h.IsCell c (some u))
structure Cx.Ok(X:Cx):Prop where
 mod:Mod X.K X.mg X.base
 kind:X.env.scope.kind= .function
 glob:X.env.globals=FQ
 blt:X.env.builtins=dR
 above:X.P8.heap.objs.size<=X.env.locals
 inj: ∀ x y c,X.env.cells.lookup x=some c->X.env.cells.lookup y=some c->x=y
 has: ∀ x,(X.env.kindOf x=some .cell\/X.env.kindOf x=some .free)-> ∃ c,X.env.cells.lookup x=some c
 cab: ∀ x c,X.fn x=true->X.env.cells.lookup x=some c->X.P8.heap.objs.size<=c
 hd:X.calm=true->X.A.handled=none
 frames:X.A.frames=some X.stack
 C1:X.stack=X.outer\/(X.stack=X.env::X.outer/\X.env.frame=some X.env.locals)
 exf: ∀ b∈X.ex,b≠X.env.locals/\ ∀ x c,X.env.cells.lookup x=some c->c≠b
 bs: ∀ b o,X.base.get? b=some o->X.P8.heap.get? b=some o/\X.H_0 b=none
 t8:X.base.objs.size<=X.P8.heap.objs.size
 kf: ∀ b o,X.base.get? b=some o->b∉X.ex
 ja: ∀ b∈X.ex,b∉X.fs
 funs:X.P8.heap.FunFrames X.base X.outer
 zJ: ∀ b∈X.fs,X.H_0 b=none
 nd:X.N.Nodup
structure Inv(X:Cx)(pins:List (AK×Obj))(σ:List (Option V))(H:Hp)(s:Ay):Prop where
 ok:X.Ok
 os:s.os=X.P8.os
 bare:Jr s.gens
 base:Un X.fs X.ex X.H_0 H X.P8.heap s.heap
 loc: ∃ m,s.heap.Ns X.env.locals m/\ ∀(i:Nat) x v,X.N[i]?=some x->σ[i]?=some (some v)->vX X.env.scope x-> ∃ u,RelV v u/\Look X.env s.heap m x u
 cell: ∀ x c,X.env.cells.lookup x=some c-> ∃ v,s.heap.IsCell c v
 free:H X.env.locals=none
 Jq: ∀ x c,X.env.cells.lookup x=some c->H c=none
 pin: ∀ p∈X.pn++pins,s.heap.get? p.1=some p.2/\H p.1=none/\p.1≠X.env.locals/\p.1∉X.fs/\ ∀ v,p.2.data≠ .cell v
 C0:NG X.prog X.w H s.heap
 len:σ.length=X.N.length
section
variable{X:Cx}{pins:List (AK×Obj)}{σ:List (Option V)}{H H':Hp}{s:Ay}{h':Az}
def Cx.Ok.AFh(ok:X.Ok)(e:X.base.get? b=some o):b∉X.fs:=fun hb=>by
 have:=(ok.funs.mem hb).1
 rw[e]at this;cases this
def Inv.bs(I:Inv X pins σ H s): ∀ b o,X.base.get? b=some o->s.heap.get? b=some o/\H b=none:=fun b o e=>
 ⟨I.base.keep b o (I.ok.bs b o e).1 (I.ok.bs b o e).2 (I.ok.AFh e)<|I.ok.kf b o e,I.base.free b o (I.ok.bs b o e).1 (I.ok.bs b o e).2<|I.ok.kf b o e⟩
def Inv.bk(I:Inv X pins σ H s): ∀ b o,X.base.get? b=some o->s.heap.get? b=some o:=fun b o e=>(I.bs b o e).1
def Inv.mod(I:Inv X pins σ H s):Mod X.K X.mg X.base:=I.ok.mod
def Inv.QQ(I:Inv X pins σ H s):X.K.In s.heap:=I.ok.mod.xg.keeps I.bk
def Inv.fr(I:Inv X pins σ H s): ∃ m,Fr X.base X.env.locals s.heap m:=
 let⟨m,hn,_⟩:=I.loc
 ⟨m,hn,I.bk,CC I.ok.t8 I.ok.above⟩
def Inv.lt(I:Inv X pins σ H s):X.env.locals<s.heap.objs.size:=let⟨_,hn,_⟩:=I.loc;hn.lt
def Inv.sz(I:Inv X pins σ H s):X.P8.heap.objs.size<=s.heap.objs.size:=CC I.ok.above (HS I.lt)
def Inv.AFT(I:Inv X pins σ H s){a:AK}(h:s.heap.objs.size<=a):a∉X.fs:=fun hb=>by
 obtain⟨_,o,ho,_⟩:=I.ok.funs.mem hb
 exact absurd (DO (Bz ho)<|CC I.sz h)<|Fo _
def Inv.cne(I:Inv X pins σ H s): ∀ x c,X.env.cells.lookup x=some c->c≠X.env.locals:=fun x c e z=>by
 obtain⟨v,o,ho,hd⟩:=I.cell x c e
 obtain⟨m,⟨o',es,ep,ho',hd',_⟩,_⟩:=I.loc
 rw[z,ho']at ho;cases ho;rw[hd']at hd;cases hd
def Inv.funs(I:Inv X pins σ H s):s.heap.FunFrames X.base X.outer:=by
 have all: ∀(l:List Env),(∀ b∈CL l,b∈X.fs)->X.P8.heap.FunFrames X.base l->s.heap.FunFrames X.base l:=by
  intro l
  induction l with
  | nil=>intro _ _;trivial
  | cons env r ih=>
   rintro hs ⟨hk,⟨L,o,hf,hn,ho,hd⟩,hr⟩
   have hL:=hs L<|by unfold CL;rw[TF,hf];exact Dx
   obtain⟨sl,e⟩:=I.base.slot L o ho (I.ok.zJ L hL) hL fun z=>I.ok.ja L z hL
   exact⟨hk,⟨L,_,hf,hn,e,hd⟩,ih (fun b hb=>hs b<|by unfold CL;rw[TF,hf];exact Cz _ hb) hr⟩
 exact all X.outer (fun _ hb=>hb) I.ok.funs
def Inv.stack(I:Inv X pins σ H s):s.heap.FunFrames X.base X.stack:=by
 rcases I.ok.C1 with e |⟨e,hf⟩
 ·rw[e];exact I.funs
 ·rw[e]
  obtain⟨m,hn,_⟩:=I.loc
  refine .cons (by rw[I.ok.kind];decide) hf hn ?_ I.funs
  exact Heap.get?_none_of_le<|CC I.ok.t8 I.ok.above
def Inv.kN(I:Inv X pins σ H s): ∀ b∈CL X.stack,b∈X.env.locals::X.fs:=fun b hb=>by
 rcases I.ok.C1 with e |⟨e,hf⟩
 ·rw[e]at hb;exact Cz _ hb
 ·rw[e]at hb
  unfold CL at hb
  rw[TF,hf]at hb
  exact hb
def Inv.We(I:Inv X pins σ H s): ∀ b∈CL X.stack,H b=none:=fun b hb=>by
 rcases Ce.mp (I.kN b hb)with e | hb
 ·rw[e];exact I.free
 ·obtain⟨_,o,ho,_⟩:=I.ok.funs.mem hb
  exact I.base.free b o ho (I.ok.zJ b hb) fun z=>I.ok.ja b z hb
def Inv.step{g':Array O7}{ch:List AK}(I:Inv X pins σ H s)
  (hch: ∀ b∈ch,(b∈X.ex\/X.P8.heap.objs.size<=b)/\b≠X.env.locals/\(∀ x c,X.env.cells.lookup x=some c->c≠b)/\ ∀ p∈X.pn++pins,p.1≠b)
  (keep: ∀ b o,b≠X.env.locals->b∉X.fs->b∉ch->s.heap.get? b=some o->H b=none->h'.get? b=some o)
  (slot: ∀ b o,b≠X.env.locals->b∈X.fs->b∉ch->s.heap.get? b=some o->H b=none-> ∃ sl,h'.get? b=some {o with slots:=sl}) (free: ∀ b o,b∉ch->s.heap.get? b=some o->H b=none->H' b=none)
  (there: ∀ b o,b∉ch->s.heap.get? b=some o-> ∃ o',h'.get? b=some o')
  (VP: ∀ b xs,H b=some (.tup xs)->H' b=some (.tup xs)) (Tf: ∀ b o u,H b=some (.frz o u)->H' b=some (.frz o u)) (VH: ∀ b ps,H b=some (.tbl ps)-> ∃ more,H' b=some (.tbl<|ps++more))
  (ns: ∀ m,s.heap.Ns X.env.locals m->h'.Ns X.env.locals m) (C0:NG X.prog X.w H' h') (hg:Jr g'):
  Inv X pins σ H' {s with heap:=h',gens:=g',drawn:=d',toks:=t'}:=by
 have neL: ∀ b o,X.P8.heap.get? b=some o->b≠X.env.locals:=fun b o e=>DN<|DO (Bz e) I.ok.above
 have neC: ∀ b o,X.P8.heap.get? b=some o->b∉X.ex->b∉ch:=fun b o e hx hb=>by
  rcases(hch b hb).1 with z | z
  ·exact hx z
  ·exact absurd (DO (Bz e) z)<|Fo _
 have cellK: ∀ x c,X.env.cells.lookup x=some c-> ∀ v,s.heap.IsCell c v->h'.IsCell c v:=fun x c e v ⟨o,ho,hd⟩=>by
  have nch:c∉ch:=fun z=>(hch c z).2.2.1 x c e rfl
  by_cases hc:c∈X.fs
  ·obtain⟨sl,q⟩:=slot c o (I.cne x c e) hc nch ho (I.Jq x c e)
   exact⟨_,q,hd⟩
  ·exact⟨o,keep c o (I.cne x c e) hc nch ho<|I.Jq x c e,hd⟩
 refine⟨I.ok,I.os,hg,⟨fun b o e n hb hx=>(keep b o (neL b o e) hb (neC b o e hx) (I.base.keep b o e n hb hx)<|I.base.free b o e n hx),fun b o e n hb hx=>?_,fun b o e n hx=>?_,fun b o e hx=>?_,fun b xs e=>VP b xs<|I.base.VP b xs e,fun b o xs e=>Tf b o xs<|I.base.Tf b o xs e,fun b ps e=>?_⟩,?_,fun x c e=>?_,?_,fun x c e=>?_,fun p hp=>?_,C0,I.len⟩
 ·obtain⟨sl,e1⟩:=I.base.slot b o e n hb hx
  obtain⟨sl',e2⟩:=slot b _ (neL b o e) hb (neC b o e hx) e1<|I.base.free b o e n hx
  exact⟨sl',e2⟩
 ·obtain⟨o',e1⟩:=I.base.there b o e hx
  exact free b o' (neC b o e hx) e1<|I.base.free b o e n hx
 ·obtain⟨o',e1⟩:=I.base.there b o e hx
  exact there b o' (neC b o e hx) e1
 ·obtain⟨m1,e1⟩:=I.base.VH b ps e
  obtain⟨m2,e2⟩:=VH b _ e1
  exact⟨m1++m2,by rw[e2,Array.append_assoc]⟩
 ·obtain⟨m,hn,hl⟩:=I.loc
  refine⟨m,ns m hn,fun i x v e1 e2 e3=>?_⟩
  obtain⟨u,r,l⟩:=hl i x v e1 e2 e3
  refine⟨u,r,?_⟩
  rcases l with l |⟨k,c,e,z⟩
  ·exact .inl l
  ·exact .inr ⟨k,c,e,cellK x c e _ z⟩
 ·obtain⟨v,z⟩:=I.cell x c e
  exact⟨v,cellK x c e v z⟩
 ·obtain⟨m,⟨o,_,_,ho,_⟩,_⟩:=I.loc
  exact free _ o (fun z=>(hch _ z).2.1 rfl) ho I.free
 ·obtain⟨v,o,ho,hd⟩:=I.cell x c e
  exact free c o (fun z=>(hch c z).2.2.1 x c e rfl) ho<|I.Jq x c e
 ·obtain⟨e,n,ne,nf,d⟩:=I.pin p hp
  have nch:p.1∉ch:=fun z=>(hch p.1 z).2.2.2 p hp rfl
  exact⟨keep p.1 p.2 ne nf nch e n,free p.1 p.2 nch e n,ne,nf,d⟩
def Inv.un{t':Nat}(I:Inv X pins σ H s)(u:Un X.fs [] H H' s.heap h')(C0:NG X.prog X.w H' h'):Inv X pins σ H' {s with heap:=h',toks:=t'}:=by
 obtain⟨m,⟨o,es,ep,ho,r⟩,_⟩:=id I.loc
 obtain⟨sl,hL⟩:=u.any ho I.free<|by simp
 exact I.step (g':=s.gens) (d':=s.drawn) (ch:= []) (fun _ z=>nomatch z) (fun b o _ hb _ e n=>u.keep b o e n hb<|by simp) (fun b o _ hb _ e n=>u.slot b o e n hb<|by simp) (fun b o _ e n=>u.free b o e n<|by simp) (fun b o _ e=>u.there b o e<|by simp) u.VP u.Tf u.VH (fun m' hm=>by
  obtain⟨o',es',ep',ho',r'⟩:=hm
  rw[ho]at ho';cases ho'
  exact⟨_,es',ep',hL,r'⟩) C0 I.bare
def Inv.call{g':Array O7}(I:Inv X pins σ H s)(u:Un (CL X.stack) ch H H' s.heap h')(C0:NG X.prog X.w H' h')(hg:Jr g')
  (hch: ∀ b∈ch,(b∈X.ex\/X.P8.heap.objs.size<=b)/\b≠X.env.locals/\(∀ x c,X.env.cells.lookup x=some c->c≠b)/\ ∀ p∈X.pn++pins,p.1≠b):
  Inv X pins σ H' {s with heap:=h',gens:=g',drawn:=d',toks:=t'}:=by
 obtain⟨m,⟨o,es,ep,ho,r⟩,_⟩:=id I.loc
 obtain⟨sl,hL⟩:=u.any ho I.free fun z=>(hch _ z).2.1 rfl
 exact I.step hch (fun b o hL hb hc e n=>u.keep b o e n (fun z=>(Ce.mp<|I.kN b z).elim hL hb) hc) (fun b o _ _ hc e n=>u.any e n hc) (fun b o hc e n=>u.free b o e n hc) (fun b o hc e=>u.there b o e hc) u.VP u.Tf u.VH (fun m' hm=>by
  obtain⟨o',es',ep',ho',r'⟩:=hm
  rw[ho]at ho';cases ho'
  exact⟨_,es',ep',hL,r'⟩) C0 hg
def Inv.turned{t':Nat}(I:Inv X pins σ H s)(k: ∀ b o,b≠it->s.heap.get? b=some o->h'.get? b=some o)(hn:H it=none)(hL:it≠X.env.locals)
  (h1:it∈X.ex\/X.P8.heap.objs.size<=it) (h2: ∀ x c,X.env.cells.lookup x=some c->c≠it) (h3: ∀ p∈X.pn++pins,p.1≠it):Inv X pins σ H {s with heap:=h',toks:=t'}:=by
 have nit: ∀ b u,H b=some u->b≠it:=fun b u e z=>by rw[z,hn]at e;cases e
 refine I.step (g':=s.gens) (d':=s.drawn) (ch:= [it]) (fun b hb=>?_) (fun b o _ _ hc e _=>k b o (fun z=>hc<|by simp[z]) e) (fun b o _ _ hc e _=>⟨o.slots,k b o (fun z=>hc<|by simp[z]) e⟩) (fun _ _ _ _ n=>n)
  (fun b o hc e=>⟨o,k b o (fun z=>hc<|by simp[z]) e⟩) (fun _ _ e=>e) (fun _ _ _ e=>e) (fun b ps e=>⟨#[],by rw[e];simp⟩) (fun m hm=>?_) (fun b u e=>?_) I.bare
 ·have e:b=it:=by simpa using hb
  subst e
  exact⟨h1,hL,h2,h3⟩
 ·obtain⟨o,es,ep,ho,r⟩:=hm
  exact⟨o,es,ep,k _ o (Ea hL) ho,r⟩
 ·refine(I.C0 b u e).Pl (fun c v hc q=>k c v ?_ q) (fun _ q=>q) fun _ _ q=>q
  rcases hc with z | z
  ·rw[z];exact nit b u e
  ·exact nit c _ z
def Inv.tok(I:Inv X pins σ H s)(t:Nat):Inv X pins σ H {s with toks:=t}:=I.un Un.refl I.C0
def Inv.kept{t':Nat}(I:Inv X pins σ H s)(k: ∀ b u,s.heap.get? b=some u->h'.get? b=some u):Inv X pins σ H {s with heap:=h',toks:=t'}:=I.un (Un.kept k) (I.C0.kept k)
def Inv.laid{a:AK}(I:Inv X pins σ H s)(k: ∀ b u,s.heap.get? b=some u->h'.get? b=some u)(hp:s.heap.objs.size<=a)(new:EK X.prog X.w (upd H a o) h' a o):
  Inv X pins σ (upd H a o) {s with heap:=h',toks:=t'}:=I.un (Un.laid k hp<|I.C0.fresh hp)<|I.C0.laid k hp new
def Inv.write{x e:AK}(I:Inv X pins σ H s)(mu:Mut (H x))(he:e=x\/H e=some (.own x))(k: ∀ b u,b≠e->s.heap.get? b=some u->h'.get? b=some u)(heo: ∃ u,h'.get? e=some u)
  (new:EK X.prog X.w (upd H x o) h' x o):Inv X pins σ (upd H x o) {s with heap:=h',toks:=t'}:=I.un (Un.write mu he k heo)<|I.C0.write mu he k heo new
def Inv.weak{σ':List (Option V)}(I:Inv X pins σ H s)(hl:σ'.length=σ.length)(w: ∀(i:Nat) v,σ'[i]?=some (some v)->σ[i]?=some (some v)):Inv X pins σ' H s:=
 ⟨I.ok,I.os,I.bare,I.base,let⟨m,hn,hl'⟩:=I.loc;⟨m,hn,fun i x v e1 e2 e3=>hl' i x v e1 (w i v e2) e3⟩,I.cell,I.free,I.Jq,I.pin,I.C0,hl.trans I.len⟩
def Inv.nJ{pins':List (AK×Obj)}(I:Inv X pins σ H s)(h: ∀ p∈pins',s.heap.get? p.1=some p.2/\H p.1=none/\p.1≠X.env.locals/\p.1∉X.fs/\ ∀ v,p.2.data≠ .cell v):Inv X pins' σ H s:=
 ⟨I.ok,I.os,I.bare,I.base,I.loc,I.cell,I.free,I.Jq,fun p hp=>(Ly.mp hp).elim (fun z=>I.pin p<|mH _ z)<|h p,I.C0,I.len⟩
def Y5{N:List Str}(hN:N.Nodup){i j:Nat}(a:N[i]?=some x)(b:N[j]?=some x):i=j:=by
 obtain⟨h1,e1⟩:=Ie.mp a
 obtain⟨h2,e2⟩:=Ie.mp b
 exact(List.getElem_inj hN).mp<|e1.trans e2.symm
def aM{M:Model}(I:Inv X pins σ H s)(hN:X.N.Nodup)(hi:X.N[i]?=some x)(hx:Loc X.env.scope x)(r:RelV v u)
  (h: ∀ s',Inv X pins (σ.set i<|some v) H s'->(∃ a,SD a s.heap s'.heap/\(a=X.env.locals\/X.env.cells.lookup x=some a))->Q () s') (hf:X.fn x=true\/X.env.scope.names.lookup x=some .local:=by first | exact .inl rfl | exact .inr rfl | assumption):Aw M A (fq X.env x u) Q E s:=by
 obtain⟨m,hn,hl⟩:=id I.loc
 have hcls:(X.env.scope.kind== .class||(X.env.scope.kind== .module&&X.env.locals !=X.env.globals))=false:=by rw[I.ok.kind];rfl
 have hiσ:i<σ.length:=by rw[I.len];exact(Ie.mp hi).1
 have cne:=I.cne
 have tracked: ∀{a:AK} {h':Az},(∃ o,s.heap.get? a=some o/\H a=none)->SD a s.heap h'->NG X.prog X.w H h':=fun{a h'} ha hs b ob e=>by
  obtain⟨_,_,hfree⟩:=ha
  refine(I.C0 b ob e).Pl (fun c w' hc q=>(hs.2 c ?_).trans q) (fun _ q=>q) fun _ _ q=>q
  rintro rfl
  rcases hc with rfl | hc
  ·rw[hfree]at e;cases e
  ·rw[hfree]at hc;cases hc
 rcases hx with hk | hk
 ·refine wpAny_storeName_local hk hn (fun h' hn' hs=>?_) hcls
  obtain⟨oL,_,_,hoL,_⟩:=id hn
  refine h _ ⟨I.ok,I.os,I.bare,⟨fun b o e n hb hx=>((hs.2 b<|DN<|DO (Bz e) I.ok.above).trans<|I.base.keep b o e n hb hx),fun b o e n hb hx=>?_,I.base.free,fun b o e hx=>?_,I.base.VP,I.base.Tf,I.base.VH⟩,⟨_,hn',fun j y v' e1 e2 e3=>?_⟩,fun y c e=>?_,I.free,I.Jq,fun p hp=>?_,tracked ⟨oL,hoL,I.free⟩ hs,by simpa using I.len⟩ ⟨_,hs,.inl rfl⟩
  ·obtain⟨sl,e1⟩:=I.base.slot b o e n hb hx
   exact⟨sl,(hs.2 b<|DN<|DO (Bz e) I.ok.above).trans e1⟩
  ·obtain⟨o',e1⟩:=I.base.there b o e hx
   exact⟨o',(hs.2 b<|DN<|DO (Bz e) I.ok.above).trans e1⟩
  ·by_cases hj:j=i
   ·subst hj
    rw[hi]at e1;cases e1
    rw[F3 hiσ]at e2
    cases e2
    exact⟨u,r,.inl ⟨hk,by simp⟩⟩
   ·rw[DK<|Ea hj]at e2
    obtain⟨u',r',q⟩:=hl j y v' e1 e2 e3
    refine⟨u',r',?_⟩
    rcases q with⟨k,e⟩ |⟨k,c,e,z⟩
    ·refine .inl ⟨k,?_⟩
     have:y≠x:=fun e=>hj<|Y5 hN e1<|e▸hi
     simp[this,e]
    ·exact .inr ⟨k,c,e,z.sameBut hs<|cne y c e⟩
  ·obtain⟨w',z⟩:=I.cell y c e
   exact⟨w',z.sameBut hs<|cne y c e⟩
  ·obtain⟨e,n,ne,nf,d⟩:=I.pin p hp
   exact⟨(hs.2 p.1 ne).trans e,n,ne,nf,d⟩
 ·have hfn:X.fn x=true:=by
   rcases hf with z | z
   ·exact z
   ·rw[z]at hk;cases hk
  obtain⟨c,hc⟩:=I.ok.has x<|.inl hk
  obtain⟨w',z⟩:=I.cell x c hc
  refine wpAny_storeName_cell I.ok.kind hk hc z fun h' hc' hs=>?_
  obtain⟨oc,hoc,hocd⟩:=id z
  refine h {s with heap:=h'} ⟨I.ok,I.os,I.bare,⟨fun b o e n hb hx=>((hs.2 b<|DN<|DO (Bz e)<|I.ok.cab x c hfn hc).trans<|I.base.keep b o e n hb hx),fun b o e n hb hx=>?_,I.base.free,fun b o e hx=>?_,I.base.VP,I.base.Tf,I.base.VH⟩,⟨m,hn.sameBut hs<|Ea<|cne x c hc,fun j y v' e1 e2 e3=>?_⟩,fun y c' e=>?_,I.free,I.Jq,fun p hp=>?_,tracked ⟨oc,hoc,I.Jq x c hc⟩ hs,by simpa using I.len⟩ ⟨c,hs,.inr hc⟩
  ·obtain⟨sl,e1⟩:=I.base.slot b o e n hb hx
   exact⟨sl,(hs.2 b<|DN<|DO (Bz e)<|I.ok.cab x c hfn hc).trans e1⟩
  ·obtain⟨o',e1⟩:=I.base.there b o e hx
   exact⟨o',(hs.2 b<|DN<|DO (Bz e)<|I.ok.cab x c hfn hc).trans e1⟩
  ·by_cases hj:j=i
   ·subst hj
    rw[hi]at e1;cases e1
    rw[F3 hiσ]at e2
    cases e2
    exact⟨u,r,.inr ⟨.inl hk,c,hc,hc'⟩⟩
   ·rw[DK<|Ea hj]at e2
    obtain⟨u',r',q⟩:=hl j y v' e1 e2 e3
    refine⟨u',r',?_⟩
    rcases q with q |⟨k,c',e,z'⟩
    ·exact .inl q
    ·refine .inr ⟨k,c',e,z'.sameBut hs ?_⟩
     rintro rfl
     exact hj<|Y5 hN e1<|I.ok.inj _ _ _ e hc▸hi
  ·by_cases hcc:c'=c
   ·subst hcc;exact⟨_,hc'⟩
   ·obtain⟨w2,z2⟩:=I.cell y c' e
    exact⟨w2,z2.sameBut hs hcc⟩
  ·obtain⟨e,n,ne,nf,d⟩:=I.pin p hp
   refine⟨(hs.2 p.1 ?_).trans e,n,ne,nf,d⟩
   intro q
   rw[q,hoc]at e
   exact d w'<|by rw[<-(C5 e)];exact hocd
def RS{M:Model}(I:Inv X pins σ H s)(hN:X.N.Nodup)(hi:X.N[i]?=some x)(hx:Loc X.env.scope x)(r:RelV v u)
  (h: ∀ s',Inv X pins (σ.set i<|some v) H s'->Q () s') (hf:X.fn x=true\/X.env.scope.names.lookup x=some .local:=by first | exact .inl rfl | exact .inr rfl | assumption):Aw M A (fq X.env x u) Q E s:=
 aM I hN hi hx r (fun s' I' _=>h s' I') hf
def Inv.xM{s':Ay}(I:Inv X pins σ H s)(ho:s'.os=s.os)(u:Un (CL X.stack) ch H H' s.heap s'.heap)(C0:NG X.prog X.w H' s'.heap)(hg:Jr s'.gens)
  (hch: ∀ b∈ch,(b∈X.ex\/X.P8.heap.objs.size<=b)/\b≠X.env.locals/\(∀ x c,X.env.cells.lookup x=some c->c≠b)/\ ∀ p∈X.pn++pins,p.1≠b):Inv X pins σ H' s':=by
 obtain⟨h',g',d',t',o'⟩:=s'
 have e:=ho
 subst e
 exact I.call u C0 hg hch
end
noncomputable abbrev XK:=AN->Option AK->Hp->Prop
noncomputable abbrev St:=List (Option V)
noncomputable abbrev VK:=V->Hp->Prop
noncomputable abbrev TE:=St->Hp->VK->Prop
noncomputable abbrev TT:=St->Hp->(Bool->Hp->Prop)->Prop
noncomputable abbrev TA:=St->Hp->(List V->Hp->Prop)->Prop
structure Ends where
 nx:St->Hp->Prop
 rt:VK
 bk:St->Hp->Prop:=fun _ _=>False
 ct:St->Hp->Prop:=fun _ _=>False
noncomputable abbrev TS:=Ends->St->Hp->Prop
noncomputable def EP(X:Cx)(pins:List (AK×Obj))(σ:St)(Q:VK)(u:AN)(s':Ay):Prop:= ∃ v H',Inv X pins σ H' s'/\RelV v u/\Q v H'
noncomputable def TP(X:Cx)(pins:List (AK×Obj))(σ:St)(Q:Bool->Hp->Prop)(b:Bool)(s':Ay):Prop:= ∃ H',Inv X pins σ H' s'/\Q b H'
noncomputable def AP(X:Cx)(pins:List (AK×Obj))(σ:St)(Q:List V->Hp->Prop)(us:List AN)(s':Ay):Prop:= ∃ vs H',Inv X pins σ H' s'/\Vals vs us/\Q vs H'
noncomputable def SP(X:Cx)(pins:List (AK×Obj))(D:Ends)(f:Flow)(s':Ay):Prop:=
 match f with
 | .next=> ∃ σ' H',Inv X pins σ' H' s'/\D.nx σ' H'
 | .brk=> ∃ σ' H',Inv X pins σ' H' s'/\D.bk σ' H'
 | .cont=> ∃ σ' H',Inv X pins σ' H' s'/\D.ct σ' H'
 | .ret u=> ∃ v σ' H',Inv X pins σ' H' s'/\RelV v u/\D.rt v H'
noncomputable def PE(X:Cx)(e:Expr)(t:TE):Prop:=
 ∀(pins:List (AK×Obj)) s (σ:St) H Q,Inv X pins σ H s->t σ H Q->Aw (Ai X.prog X.w) X.A (eval e X.env) (EP X pins σ Q) X.xe s
noncomputable def PT(X:Cx)(e:Expr)(t:TT):Prop:=
 ∀(pins:List (AK×Obj)) s (σ:St) H Q,Inv X pins σ H s->t σ H Q->Aw (Ai X.prog X.w) X.A (isTrue e X.env<|eval e X.env) (TP X pins σ Q) X.xe s
noncomputable def PW(X:Cx)(e:Expr)(t:TT):Prop:=
 ∀(whole:Sem AN) pins s (σ:St) H Q,Inv X pins σ H s->t σ H Q->Aw (Ai X.prog X.w) X.A (isTrue e X.env whole) (TP X pins σ Q) X.xe s
def PW.pt(h:PW X e t):PT X e t:=h _
noncomputable def PA(X:Cx)(es:List Expr)(t:TA):Prop:=
 ∀(pos:Pos) pins s (σ:St) H Q,Inv X pins σ H s->t σ H Q->Aw (Ai X.prog X.w) X.A (spliced<|Cn pos<|Au es X.env) (AP X pins σ Q) X.xe s
noncomputable def PS(X:Cx)(st:Bi)(t:TS):Prop:=
 ∀(pins:List (AK×Obj)) s (σ:St) H D,Inv X pins σ H s->t D σ H->Aw (Ai X.prog X.w) X.A (exec st X.env) (SP X pins D) X.xe s
noncomputable def eC(X:Cx)(st:List Bi)(t:TS):Prop:=
 ∀(pins:List (AK×Obj)) s (σ:St) H D,Inv X pins σ H s->t D σ H->Aw (Ai X.prog X.w) X.A (execs st X.env) (SP X pins D) X.xe s
def QO(h:Aw M A t Q E s)(hQ: ∀ a s,Q a s->Q' a s):Aw M A t Q' E s:=Et h hQ fun _ _ x=>x
def HI(h:Aw M A t (EP X pins σ Q) E s)(k: ∀ v s x H,Inv X pins σ H s->RelV x v->Q x H->Q' v s):Aw M A t Q' E s:=QO h fun v s ⟨x,H,a,b,c⟩=>k v s x H a b c
def j_(h:Aw M A t (AP X pins σ Q) E s)(k: ∀ v s x H,Inv X pins σ H s->Vals x v->Q x H->Q' v s):Aw M A t Q' E s:=QO h fun v s ⟨x,H,a,b,c⟩=>k v s x H a b c
end L2
namespace L2
open PySem PySem.Spec PyProof.Rows
section
variable{X:Cx}
def bin{a b:Expr}(ha:PE X a ta)(hb:PE X b tb){σ:St}{R:V->V->Hp->Prop}(I:Inv X pins σ H s)(h:ta σ H fun x H1=>tb σ H1 fun y H2=>R x y H2)
 {f:AN->AN->Sem α}
  (hf: ∀ v u s2 x y H2,Inv X pins σ H2 s2->RelV x v->RelV y u->R x y H2->Aw (Ai X.prog X.w) X.A (f v u) Q X.xe s2):
  Aw (Ai X.prog X.w) X.A (eval a X.env) (fun v s₁=>Aw (Ai X.prog X.w) X.A (eval b X.env) (fun u s₂=>Aw (Ai X.prog X.w) X.A (f v u) Q X.xe s₂) X.xe s₁) X.xe s:=by
 exact HI (ha pins s σ H _ I h) fun v s1 x H1 I1 r1 q1=>HI (hb pins s1 σ H1 _ I1 q1) fun u s2 y H2 I2 r2 q2=>hf v u s2 x y H2 I2 r1 r2 q2
noncomputable def Je(o:Option (Option V))(k:V->Prop):Prop:=pf (motive:=fun _=>Prop) False (fun o=>pf (motive:=fun _=>Prop) False k o) o
noncomputable def RI(x:V)(k:Int->Prop):Prop:=V.rec (motive:=fun _=>Prop) False (fun _=>False) k (fun _=>False) (fun _=>False) (fun _=>False) (fun _=>False) (fun _=>False) x
noncomputable def t6(x:V)(k:Bool->Prop):Prop:=V.rec (motive:=fun _=>Prop) False k (fun _=>False) (fun _=>False) (fun _=>False) (fun _=>False) (fun _=>False) (fun _=>False) x
noncomputable def QK(x:V)(k:AK->Prop):Prop:=V.rec (motive:=fun _=>Prop) False (fun _=>False) (fun _=>False) (fun _=>False) (fun _=>False) (fun _=>False) k (fun _=>False) x
noncomputable def xb(l:List V)(k:V->Prop):Prop:=pG (motive:=fun _=>Prop) False (fun x r _=>pG (motive:=fun _=>Prop) (k x) (fun _ _ _=>False) r) l
theorem Je.ex: ∀{o:Option (Option V)} {k:V->Prop},Je o k-> ∃ v,o=some (some v)/\k v
 | some (some v),_,h=>⟨v,rfl,h⟩
 | some none,_,h=>h.elim
 | none,_,h=>h.elim
def RI.ex: ∀{x:V} {k:Int->Prop},RI x k-> ∃ i,x= .int i/\k i:=fun{x k} h=>by cases x<;>first | exact⟨_,rfl,h⟩ | exact h.elim
def t6.ex: ∀{x:V} {k:Bool->Prop},t6 x k-> ∃ i,x= .bl i/\k i:=fun{x k} h=>by cases x<;>first | exact⟨_,rfl,h⟩ | exact h.elim
def QK.ex: ∀{x:V} {k:AK->Prop},QK x k-> ∃ i,x= .ref i/\k i:=fun{x k} h=>by cases x<;>first | exact⟨_,rfl,h⟩ | exact h.elim
theorem xb.ex: ∀{l:List V} {k:V->Prop},xb l k-> ∃ x,l= [x]/\k x
 | [x],_,h=>⟨x,rfl,h⟩
 | [],_,h=>h.elim
 | _::_::_,_,h=>h.elim
def Je.of(e:o=some (some v))(h:k v):Je o k:=by subst e;exact h
def RI.of(e:x= .int i)(h:k i):RI x k:=by subst e;exact h
def QK.of(e:x= .ref i)(h:k i):QK x k:=by subst e;exact h
noncomputable def Jd(i:Nat):TE:=fun σ H Q=>Je σ[i]? fun v=>Q v H
noncomputable def tC(v:V):TE:=fun _ H Q=>Q v H
def Qj{pos:Pos}(hN:X.N[i]?=some x)(hv:vX X.env.scope x)(hd:(x==("__debug__":Str))=false:=by decide)(hcd:(x==("__classdict__":Str))=false:=by decide):PE X (.Name x pos) (Jd i):=by
 intro pins s σ H Q I h
 obtain⟨v,e,h⟩:=Je.ex h
 obtain⟨m,hn,hl⟩:=I.loc
 obtain⟨u,r,l⟩:=hl i x v hN e hv
 have fin:EP X pins σ Q u s:=⟨v,H,I,r,h⟩
 rcases l with⟨hk,hm⟩ |⟨hk,c,hc,hcell⟩
 ·exact fD (qH I.ok.kind hk hn hm fin) hd
 ·rcases hk with hk | hk
  ·exact fD (nA I.ok.kind hk hc hcell fin) hd
  ·exact fD (wpAny_loadName_free I.ok.kind hk hc hcell fin hcd) hd
def AE:PE X (.Constant (.int i) j pos) (tC<|.int i):=fun _ _ _ H _ I h=>wpAny_Constant_int ⟨.int i,H,I.tok _,⟨_,rfl⟩,h⟩
def aI:PE X (.Constant (.bool b) j pos) (tC<|.bl b):=fun _ _ _ H _ I h=>Constant_bool ⟨.bl b,H,I,rfl,h⟩
def Y1:PE X (.Constant .none j pos) (tC .non):=fun _ _ _ H _ I h=>lh ⟨.non,H,I,rfl,h⟩
noncomputable def Gl(X:Cx)(x:Str):Prop:=X.env.kindOf x=some .globalImplicit
def Lw{E:AN->Ay->Prop}{σ:St}(I:Inv X pins σ H s)(hg:Gl X x)(hm:X.mg x=some u)(h:Q u s)
  (hd:(x==("__debug__":Str))=false:=by decide):Aw (Ai X.prog X.w) X.A (eval (.Name x pos) X.env) Q E s:=
 pz I.ok.kind hg (Calls.loadGlobal_global (by rw[I.ok.glob];exact I.mod.glob.keeps I.bk) hm h) hd
def Qb{E:AN->Ay->Prop}{σ:St}{pos:Pos}(I:Inv X pins σ H s)(hg:Gl X x)(hm:X.mg x=none)(hv:IV x=some u)(h:Q u s)
  (hn:x≠"__name__":=by decide) (hd:(x==("__debug__":Str))=false:=by decide):Aw (Ai X.prog X.w) X.A (eval (.Name x pos) X.env) Q E s:=by
 obtain⟨mb,h1,h2⟩:=I.mod.blt
 exact pz I.ok.kind hg (Calls.loadGlobal_builtin (by rw[I.ok.glob];exact I.mod.glob.keeps I.bk) hm (by rw[I.ok.blt];exact h1.keeps I.bk) ((h2 x hn).trans hv) h) hd
def DX(hg:Gl X x)(hm:X.mg x=some u)(r:RelV v u)(hd:(x==("__debug__":Str))=false:=by decide):PE X (.Name x pos) (tC v):=
 fun _ _ _ H _ I h=>Lw I hg hm ⟨v,H,I,r,h⟩ hd
variable{a b:Expr}{ta tb:TE}{pos:Pos}
noncomputable def PC(X:Cx)(op:CmpOp)(a b:Expr)(t:TE):Prop:=
 ∀(pins:List (AK×Obj)) s (σ:St) H Q,Inv X pins σ H s->t σ H Q->
  Aw (Ai X.prog X.w) X.A (eval a X.env) (fun v s₁=>Aw (Ai X.prog X.w) X.A (eval b X.env) (fun u s₂=>Aw (Ai X.prog X.w) X.A (HC op v u) (EP X pins σ Q) X.xe s₂) X.xe s₁) X.xe s
def xK(b:Expr)(h:op≠ .In)(h2:op≠ .NotIn):IX op b=false:=by
 have e1:(op==pT)=false:=by cases op<;>first | rfl | exact absurd rfl h
 have e2:(op==m_)=false:=by cases op<;>first | rfl | exact absurd rfl h2
 cases b<;>simp[IX,e1,e2]
noncomputable def AFJ(ta:TE):TE:=fun σ H Q=>ta σ H fun x H1=>Q (.bl<|decide (x= .non)) H1
theorem RelV.xO(r:RelV x v):(v==Rt)=decide (x= .non):=by
 cases x with
 | non=>cases r;rfl
 | bl _=>cases r;rfl
 | int _=>obtain⟨t,rfl⟩:=r;rfl
 | str _=>obtain⟨t,rfl⟩:=r;rfl
 | byt _=>obtain⟨t,rfl⟩:=r;rfl
 | flt _=>obtain⟨t,rfl⟩:=r;rfl
 | ref _=>cases r;rfl
 | ty _=>cases r;rfl
def Ke(ha:PE X a ta):PC X .Is a (.Constant .none j pos') (AFJ ta):=
 fun pins s σ H Q I h=>HI (ha pins s σ H _ I h) fun v s1 x H1 I1 r1 q1=>lh<|is_none_gen ⟨.bl _,H1,I1,by rw[r1.xO];rfl,q1⟩
noncomputable def tB(t:TE):TT:=fun σ H Q=>t σ H fun x H1=>t6 x fun c=>Q c H1
def Kd(h:PC X op a b t)(h1:IX op b=false:=by first | exact xK _ (by decide) (by decide) | rfl):PT X (.Compare a [op] [b] pos) (tB t):=by
 refine fun pins s σ H Q I hw=>mx (QO (h pins s σ H _ I hw) fun v s1 h1=>QO h1 fun u s2 h2=>QO h2 fun c s3 ⟨x,H1,I1,r1,q1⟩=>?_) h1
 obtain⟨d,rfl,q⟩:=t6.ex q1
 cases r1
 exact LX ⟨H1,I1,q⟩
def MV(h:PE X e t)(he: ∀ whole,isTrue e X.env whole=(do let v <-whole;Jv e.pos;HY [v] (truthy v)):=by intro _;rfl):PT X e (tB t):=by
 refine fun pins s σ H Q I hw=>isTrue_plain (HI (h pins s σ H _ I hw) fun v s1 x H1 I1 r1 q1=>?_)<|he _
 obtain⟨d,rfl,q⟩:=t6.ex q1
 cases r1
 exact LX ⟨H1,I1,q⟩
variable{tA tB':TT}{rest:List Expr}
noncomputable def AGD(t u:TT):TT:=fun σ H Q=>t σ H fun c H1=>if c=true then u σ H1 Q else Q false H1
noncomputable def tOr(t u:TT):TT:=fun σ H Q=>t σ H fun c H1=>if c=true then Q true H1 else u σ H1 Q
noncomputable def AF0(t:TT):TT:=fun σ H Q=>t σ H fun c H1=>Q (!c) H1
theorem Oq(ha:PT X a tA):PW X (.BoolOp .And [a] pos) tA:=by
 refine fun wh pins s σ H Q I h=>isTrue_and<|QO (ha pins s σ H Q I h) fun c s1 e=>?_
 cases c with
 | true=>exact isTrue_and_nil e
 | false=>exact e
theorem GZ(ha:PT X a tA):PW X (.BoolOp .Or [a] pos) tA:=by
 refine fun wh pins s σ H Q I h=>isTrue_or<|QO (ha pins s σ H Q I h) fun c s1 e=>?_
 cases c with
 | false=>exact isTrue_or_nil e
 | true=>exact e
theorem UZ(ha:PT X a tA)(hb:PW X (.BoolOp .And (b::rest) pos) tB'):PW X (.BoolOp .And (a::b::rest) pos) (AGD tA tB'):=by
 refine fun wh pins s σ H Q I h=>isTrue_and<|QO (ha pins s σ H _ I h) fun c s1 ⟨H1,I1,q1⟩=>?_
 cases c with
 | true=>exact hb wh pins s1 σ H1 Q I1 q1
 | false=>exact⟨H1,I1,q1⟩
theorem Gg(ha:PT X a tA)(hb:PW X (.BoolOp .Or (b::rest) pos) tB'):PW X (.BoolOp .Or (a::b::rest) pos) (tOr tA tB'):=by
 refine fun wh pins s σ H Q I h=>isTrue_or<|QO (ha pins s σ H _ I h) fun c s1 ⟨H1,I1,q1⟩=>?_
 cases c with
 | true=>exact⟨H1,I1,q1⟩
 | false=>exact hb wh pins s1 σ H1 Q I1 q1
def we(ha:PT X a tA):PT X (.UnaryOp .Not a pos) (AF0 tA):=
 fun pins s σ H Q I h=>isTrue_not<|ha pins s σ H (fun c H1=>Q (!c) H1) I h
noncomputable def AEy(ta tb:TE):TE:=fun σ H Q=>ta σ H fun x H1=>t6 x fun c=>if c=true then tb σ H1 Q else Q (.bl false) H1
noncomputable def AF4(ta tb:TE):TE:=fun σ H Q=>ta σ H fun x H1=>t6 x fun c=>if c=true then Q (.bl true) H1 else tb σ H1 Q
def uY(h:PE X a t):PE X (.BoolOp op [a] pos) t:=fun pins s σ H Q I hw=>BoolOp_one (h pins s σ H Q I hw)
theorem ABG(ha:PE X a ta)(hb:PE X (.BoolOp .And (b::rest) pos) tb):PE X (.BoolOp .And (a::b::rest) pos) (AEy ta tb):=by
 refine fun pins s σ H Q I h=>BoolOp_and<|HI (ha pins s σ H _ I h) fun v s1 x H1 I1 r1 q1=>?_
 obtain⟨c,rfl,q1⟩:=t6.ex q1
 cases r1
 refine LX ?_
 cases c with
 | true=>exact hb pins s1 σ H1 Q I1 q1
 | false=>exact⟨.bl false,H1,I1,rfl,q1⟩
theorem AEx(ha:PE X a ta)(hb:PE X (.BoolOp .Or (b::rest) pos) tb):PE X (.BoolOp .Or (a::b::rest) pos) (AF4 ta tb):=by
 refine fun pins s σ H Q I h=>BoolOp_or<|HI (ha pins s σ H _ I h) fun v s1 x H1 I1 r1 q1=>?_
 obtain⟨c,rfl,q1⟩:=t6.ex q1
 cases r1
 refine LX ?_
 cases c with
 | false=>exact hb pins s1 σ H1 Q I1 q1
 | true=>exact⟨.bl true,H1,I1,rfl,q1⟩
noncomputable def tIf(t:TT)(ta tb:TE):TE:=fun σ H Q=>t σ H fun c H1=>if c=true then ta σ H1 Q else tb σ H1 Q
theorem Bn(hc:PT X c tA)(ha:PE X a ta)(hb:PE X b tb):PE X (.IfExp c a b pos) (tIf tA ta tb):=by
 refine fun pins s σ H Q I h=>wpAny_IfExp<|QO (hc pins s σ H _ I h) fun d s1 ⟨H1,I1,q1⟩=>?_
 cases d with
 | true=>exact ha pins s1 σ H1 Q I1 q1
 | false=>exact hb pins s1 σ H1 Q I1 q1
end
end L2
namespace L2
open PySem PySem.Spec PyProof.Rows
noncomputable def BF(K:AS)(H:Hp)(a:AK)(xs:List V):Prop:=
 Rd H a (.lst xs)\/
  ∃ o its n,K.lookup a=some o/\o.cls= .type "list"/\o.dict=none/\o.data= .seq its n/\its.size<=sizeLine/\Vals xs its.toList
noncomputable def Dd(K:AS)(H:Hp)(a:AK)(xs:List V):Prop:=
 Rd H a (.tup xs)\/
  ∃ o its n,K.lookup a=some o/\o.cls= .type "tuple"/\o.data= .seq its n/\its.size<=sizeLine/\Vals xs its.toList
noncomputable def AFl:AN->Option V
 | .none=>some .non
 | .bool b=>some<|.bl b
 | .int i _=>some<|.int i
 | .str x _=>some<|.str x
 | .bytes b _=>some<|.byt b
 | .float b _=>some<|.flt b
 | .ref a=>some<|.ref a
 | .type n=>some<|.ty n
 | _=>none
theorem RelV.abs(r:RelV x u):AFl u=some x:=by
 cases x with
 | non=>cases r;rfl
 | bl _=>cases r;rfl
 | int _=>obtain⟨t,rfl⟩:=r;rfl
 | str _=>obtain⟨t,rfl⟩:=r;rfl
 | byt _=>obtain⟨t,rfl⟩:=r;rfl
 | flt _=>obtain⟨t,rfl⟩:=r;rfl
 | ref _=>cases r;rfl
 | ty _=>cases r;rfl
def RelV.inj(r:RelV x u)(q:RelV y u):x=y:=C5 (r.abs.symm.trans q.abs)
theorem Vals.inj{xs ys:List V}{us:List AN}(h:Vals xs us)(k:Vals ys us):xs=ys:=by
 induction h generalizing ys with
 | nil=>cases k;rfl
 | cons r t ih=>
  cases k with
  | cons r' t'=>rw[r.inj r',ih t']
section
variable{X:Cx}{pins:List (AK×Obj)}{σ:St}{H:Hp}{s:Ay}{a:AK}{xs ys:List V}
def BF.of{K:AS}(h:H a=some (.lst xs)):BF K H a xs:= .inl (.inl h)
def Dd.of{K:AS}(h:H a=some (.tup xs)):Dd K H a xs:= .inl (.inl h)
def Inv.list(I:Inv X pins σ H s)(h:BF X.K H a xs): ∃ its:List AN,Vals xs its/\PlainL s.heap a its.toArray/\xs.length<=sizeLine:=by
 rcases h with h |⟨o,its,n,hk,hc,hd,hs,hz,r⟩
 ·obtain⟨z,its,n,r,e⟩:=h.ok I.C0
  exact⟨its,r,⟨_,n,e,rfl,rfl,rfl⟩,z⟩
 ·refine⟨its.toList,r,⟨o,n,I.QQ a o hk,hc,hd,by simpa using hs⟩,?_⟩
  have e:=r.length
  simp only[oO]at e
  lia
def Inv.tuple(I:Inv X pins σ H s)(h:Dd X.K H a xs): ∃ its:List AN,Vals xs its/\IsTup s.heap a its.toArray/\xs.length<=sizeLine:=by
 rcases h with h |⟨o,its,n,hk,hc,hs,hz,r⟩
 ·obtain⟨z,its,r,p⟩:=h.ok I.C0
  exact⟨its,r,p,z⟩
 ·refine⟨its.toList,r,⟨o,I.QQ a o hk,hc,n,by simpa using hs⟩,?_⟩
  have e:=r.length
  simp only[oO]at e
  lia
def Inv.jB(I:Inv X pins σ H s)(h:BF X.K H a xs)(h':BF X.K H a ys):xs=ys:=by
 obtain⟨its,r,⟨o,n,e,_,_,d⟩,_⟩:=I.list h
 obtain⟨its',r',⟨o',n',e',_,_,d'⟩,_⟩:=I.list h'
 rw[e]at e';cases e'
 rw[d]at d'
 injection d' with d1 _
 have:its=its':=by simpa using BL oo d1
 subst this
 exact r.inj r'
end
noncomputable abbrev Cx.Xj(X:Cx)(E:AN->Ay->Prop):Cx:={X with xe:=E}
noncomputable abbrev Cx.nox(X:Cx):Cx:=X.Xj fun _ _=>False
def Cx.Ok.Xj{X:Cx}(ok:X.Ok)(E:AN->Ay->Prop):(X.Xj E).Ok:=
 ⟨ok.mod,ok.kind,ok.glob,ok.blt,ok.above,ok.inj,ok.has,ok.cab,ok.hd,ok.frames,ok.C1,ok.exf,ok.bs,ok.t8,ok.kf,ok.ja,ok.funs,ok.zJ,ok.nd⟩
def Cx.Ok.Md{X:Cx}(ok:(X.Xj E).Ok):X.Ok:=
 ⟨ok.mod,ok.kind,ok.glob,ok.blt,ok.above,ok.inj,ok.has,ok.cab,ok.hd,ok.frames,ok.C1,ok.exf,ok.bs,ok.t8,ok.kf,ok.ja,ok.funs,ok.zJ,ok.nd⟩
section
variable{X:Cx}{pins:List (AK×Obj)}{σ:St}{H:Hp}{s:Ay}{E:AN->Ay->Prop}
def Inv.Xj(I:Inv X pins σ H s)(E:AN->Ay->Prop):Inv (X.Xj E) pins σ H s:=⟨I.ok.Xj E,I.os,I.bare,I.base,I.loc,I.cell,I.free,I.Jq,I.pin,I.C0,I.len⟩
def Inv.Md(I:Inv (X.Xj E) pins σ H s):Inv X pins σ H s:=⟨I.ok.Md,I.os,I.bare,I.base,I.loc,I.cell,I.free,I.Jq,I.pin,I.C0,I.len⟩
theorem SP.Md(h:SP (X.Xj E) pins D f s'):SP X pins D f s':=by
 cases f with
 | next=>obtain⟨σ',H',I,q⟩:=h;exact⟨σ',H',I.Md,q⟩
 | brk=>obtain⟨σ',H',I,q⟩:=h;exact⟨σ',H',I.Md,q⟩
 | cont=>obtain⟨σ',H',I,q⟩:=h;exact⟨σ',H',I.Md,q⟩
 | ret u=>obtain⟨v,σ',H',I,r,q⟩:=h;exact⟨v,σ',H',I.Md,r,q⟩
def eC.nox{st:List Bi}(h:eC X.nox st t):eC X st t:=fun pins s σ H D I hw=>
 Et (h pins s σ H D (I.Xj _) hw) (fun _ _ q=>q.Md) fun _ _ z=>DM z
end
section
variable{X:Cx}{st:Bi}{rest:List Bi}{t u:TS}{e:Expr}{te:TE}{pos:Pos}
noncomputable def Zw:TS:=fun D σ H=>D.nx σ H
noncomputable def vm(t u:TS):TS:=fun D σ H=>t {D with nx:=u D} σ H
def AX:eC X [] Zw:=fun _ _ σ H _ I h=>Oo ⟨σ,H,I,h⟩
theorem AB(h1:PS X st t)(h2:eC X rest u):eC X (st::rest) (vm t u):=by
 refine fun pins s σ H D I h=>du<|QO (h1 pins s σ H {D with nx:=u D} I h) fun f s1 q=>?_
 cases f with
 | next=>
  obtain⟨σ',H',I',q⟩:=q
  exact h2 pins s1 σ' H' D I' q
 | ret v=>exact q
 | brk=>exact q
 | cont=>exact q
theorem AF(h1:PS X st t):eC X [st] t:=by
 refine fun pins s σ H D I h=>du<|QO (h1 pins s σ H D I h) fun f s1 q=>?_
 cases f with
 | next=>exact Oo q
 | ret v=>exact q
 | brk=>exact q
 | cont=>exact q
def zR:PS X (.Pass pos) Zw:=fun _ _ σ H _ I h=>wpAny_Pass ⟨σ,H,I,h⟩
def Inv.quiet{pins:List (AK×Obj)}{σ:St}(I:Inv X pins σ H s):interactive X.env=false:=by simp[interactive,I.ok.kind]
noncomputable def AEd(te:TE):TS:=fun D σ H=>te σ H fun _ H1=>D.nx σ H1
def Ad(he:PE X e te)(hs:Fp e none pos.line X.env=CB false:=by rfl):PS X (.Expr e pos) (AEd te):=
 fun pins s σ H D I h=>qY (HI (he pins s σ H _ I h) fun v s1 x H1 I1 r1 q1=>⟨σ,H1,I1,q1⟩) I.quiet hs
noncomputable def dF(te:TE):TS:=fun D σ H=>te σ H D.rt
def AY(he:PE X e te):PS X (.Return (some e) pos) (dF te):=
 fun pins s σ H D I h=>wpAny_Return_some<|HI (he pins s σ H _ I h) fun v s1 x H1 I1 r1 q1=>⟨x,σ,H1,I1,r1,q1⟩
noncomputable def AEp:TS:=fun D _ H=>D.rt .non H
def f6:PS X (.Return none pos) AEp:=fun _ _ σ H _ I h=>wpAny_Return_none ⟨.non,σ,H,I,rfl,h⟩
noncomputable def vS(c:TT)(t u:TS):TS:=fun D σ H=>c σ H fun b H1=>if b=true then t D σ H1 else u D σ H1
theorem Aq(hc:PT X c tc)(ha:eC X a t)(hb:eC X b u):PS X (.If c a b pos) (vS tc t u):=by
 refine fun pins s σ H D I h=>wpAny_If<|QO (hc pins s σ H _ I h) fun d s1 ⟨H1,I1,q1⟩=>?_
 cases d with
 | true=>exact ha pins s1 σ H1 D I1 q1
 | false=>exact hb pins s1 σ H1 D I1 q1
end
noncomputable abbrev TG:=V->St->Hp->(St->Hp->Prop)->Prop
noncomputable abbrev TGs:=List V->St->Hp->(St->Hp->Prop)->Prop
noncomputable def PG(X:Cx)(target:Expr)(t:TG):Prop:=
 ∀(pins:List (AK×Obj)) s (σ:St) H v u Q,Inv X pins σ H s->RelV v u->t v σ H Q->
  Aw (Ai X.prog X.w) X.A (Sn target X.env u) (fun _ s'=> ∃ σ' H',Inv X pins σ' H' s'/\Q σ' H') X.xe s
noncomputable def PGs(X:Cx)(ts:List Expr)(t:TGs):Prop:=
 ∀(pins:List (AK×Obj)) s (σ:St) H vs us Q,Inv X pins σ H s->Vals vs us->t vs σ H Q->
  Aw (Ai X.prog X.w) X.A (assignInOrder ((OW ts X.env).map (·.2)) us) (fun _ s'=> ∃ σ' H',Inv X pins σ' H' s'/\Q σ' H') X.xe s
noncomputable abbrev ADz:=V->V->V->Hp->(Hp->Prop)->Prop
noncomputable def AEK(X:Cx)(t:ADz):Prop:=
 ∀(pins:List (AK×Obj)) s (σ:St) H o i v ov iv u Q,Inv X pins σ H s->RelV o ov->RelV i iv->RelV v u->t o i v H Q->
  Aw (Ai X.prog X.w) X.A (b9 ov iv u) (fun _ s'=> ∃ H',Inv X pins σ H' s'/\Q H') X.xe s
noncomputable abbrev TIp:=V->V->Hp->VK->Prop
noncomputable def PIp(X:Cx)(op:Operator)(t:TIp):Prop:=
 ∀(pins:List (AK×Obj)) s (σ:St) H x y v u Q,Inv X pins σ H s->RelV x v->RelV y u->t x y H Q->
  Aw (Ai X.prog X.w) X.A (bO op v u) (EP X pins σ Q) X.xe s
section
variable{X:Cx}{pos:Pos}
noncomputable def Rb(i:Nat):TG:=fun v σ H Q=>Q (σ.set i<|some v) H
def ya(hN:X.N.Nodup)(hi:X.N[i]?=some x)(hx:Loc X.env.scope x)(hf:X.fn x=true\/X.env.scope.names.lookup x=some .local:=by first | exact .inl rfl | exact .inr rfl | assumption):PG X (.Name x pos) (Rb i):=
 fun pins s σ H v u Q I r h=>oW<|RS I hN hi hx r (fun s' I'=>⟨_,H,I',h⟩) hf
noncomputable def AFV:TGs:=fun vs σ H Q=>vs= []/\Q σ H
noncomputable def ADk(t:TG)(u:TGs):TGs:=fun vs σ H Q=> ∃ v r,vs=v::r/\t v σ H fun σ' H'=>u r σ' H' Q
def Lh:PGs X [] AFV:=by
 intro pins s σ H vs us Q I r h
 obtain⟨e,h⟩:=h
 subst e
 cases r
 exact assignInOrder_nil ⟨σ,H,I,h⟩
theorem Dj(h1:PG X e t)(h2:PGs X es u)
  (hs:(OW (e::es) X.env).map (·.2)=Sn e X.env::(OW es X.env).map (·.2):=by rfl):PGs X (e::es) (ADk t u):=by
 intro pins s σ H vs us Q I r h
 obtain⟨v,vr,e1,h⟩:=h
 subst e1
 cases r with
 | cons r rr=>
  rw[hs]
  refine assignInOrder_cons<|QO (h1 pins s σ H _ _ _ I r h) fun _ s1 ⟨σ1,H1,I1,q1⟩=>?_
  exact h2 pins s1 σ1 H1 _ _ Q I1 rr q1
noncomputable def AE2(K:AS)(n:Nat)(t:TGs):TG:=fun v σ H Q=> ∃ a xs,v= .ref a/\Dd K H a xs/\xs.length=n/\t xs σ H Q
def Qc{k:Nat}(hc:X.calm=true)(h:PGs X es t)
  (hn:(OW es X.env).length=n:=by rfl) (hst:(OW es X.env).findIdx? (·.1)=none:=by rfl):PG X (.Tuple es k pos) (AE2 X.K n t):=by
 intro pins s σ H v u Q I r hw
 obtain⟨a,xs,e1,hq,hl,hw⟩:=hw
 subst e1
 cases r
 obtain⟨its,rv,ht,hz⟩:=I.tuple hq
 refine assign_Tuple_tuple (I.ok.hd hc) ht (by simp[hn,<-hl,rv.length]) hst fun h' hx=>?_
 have I1:Inv X pins σ H {s with heap:=h'}:=I.kept (t':=s.toks) fun b o e=>hx b o (DN<|Bz e) e
 exact h pins _ σ H xs _ Q I1 (by simpa using rv) hw
noncomputable def AFc(to ti:TE)(t:ADz):TG:=fun v σ H Q=>to σ H fun o H1=>ti σ H1 fun i H2=>t o i v H2 fun H3=>Q σ H3
def IC(ho:PE X o to)(hi:PE X i ti)(hs:AEK X t)
  (ha: ∀ v,Sn (.Subscript o i pos) X.env v=(do
   let ov <-HY [v] (eval o X.env)
   let iv <-HY [v,ov] (eval i X.env)
   Jv pos
   HY [v,ov,iv] (b9 ov iv v)
   release [v,ov,iv] []):=by intro _;rfl):PG X (.Subscript o i pos) (AFc to ti t):=by
 intro pins s σ H v u Q I r h
 rw[ha]
 exact BP<|V9<|HI (ho pins s σ H _ I h) fun ov s1 x H1 I1 r1 q1=>BP<|V9<|HI (hi pins s1 σ H1 _ I1 q1) fun iv s2 y H2 I2 r2 q2=>BP<|R0<|BP<|V9<|QO (hs pins s2 σ H2 x y v ov iv u _ I2 r1 r2 r q2) fun _ s3 ⟨H3,I3,q3⟩=>wpAny_release ⟨σ,H3,I3,q3⟩
noncomputable def x8(te:TE)(g:TG):TS:=fun D σ H=>te σ H fun x H1=>g x σ H1 D.nx
def Hy(he:PE X e te)(hg:PG X tg g)(hs:swapsWithSole [tg] e pos.line X.env=CB false:=by rfl)(hw:swappedStores [tg] e X.env=CB none:=by rfl)
  (h1:(OW [tg] X.env).map (·.2)= [Sn tg X.env]:=by rfl):PS X (.Assign [tg] e pos) (x8 te g):=by
 refine fun pins s σ H D I h=>wpAny_Assign_stores (HI (he pins s σ H _ I h) fun v s1 x H1 I1 r1 q1=>?_) hs hw
 rw[h1]
 exact QO (hg pins s1 σ H1 x v _ I1 r1 q1) fun _ s2 q=>q
def jt(hN:X.N.Nodup)(hi:X.N[i]?=some x)(hx:Loc X.env.scope x)(he:PE X e te)(hs:Fp e (some<|.Name x pos') pos.line X.env=CB false:=by rfl)(hf:X.fn x=true\/X.env.scope.names.lookup x=some .local:=by first | exact .inl rfl | exact .inr rfl | assumption):
  PS X (.Assign [.Name x pos'] e pos) (x8 te<|Rb i):=by
 refine fun pins s σ H D I h=>wpAny_Assign_Name (HI (he pins s σ H _ I h) fun v s1 y H1 I1 r1 q1=>?_) hs
 exact RS I1 hN hi hx r1 (fun s2 I2=>⟨_,H1,I2,q1⟩) hf
noncomputable def AEO(i:Nat)(te:TE)(ti:TIp):TS:=fun D σ H=> ∃ x,σ[i]?=some (some x)/\te σ H fun y H1=>ti x y H1 fun z H2=>D.nx (σ.set i<|some z) H2
def AB5(hN:X.N.Nodup)(hi:X.N[i]?=some x)(hx:Loc X.env.scope x)(he:PE X e te)(ho:PIp X op ti)(hf:X.fn x=true\/X.env.scope.names.lookup x=some .local:=by first | exact .inl rfl | exact .inr rfl | assumption):
  PS X (.AugAssign (.Name x pos') op e pos) (AEO i te ti):=by
 rintro pins s σ H D I ⟨v,e1,h⟩
 obtain⟨m,hn,hl⟩:=I.loc
 have vis:vX X.env.scope x:=by rcases hx with k | k;exact .inl k;exact .inr<|.inl k
 obtain⟨u,r,l⟩:=hl i x v hi e1 vis
 refine wpAny_AugAssign_Name ?_
 have go:Aw (Ai X.prog X.w) X.A (eval e X.env) (fun w s₂=>Aw (Ai X.prog X.w) X.A (bO op u w) (fun r s₃=>Aw (Ai X.prog X.w) X.A (fq X.env x r) (fun _=>SP X pins D .next) X.xe s₃) X.xe s₂) X.xe s:=by
  exact HI (he pins s σ H _ I h) fun w s1 y H1 I1 r1 q1=>HI (ho pins s1 σ H1 v y u w _ I1 r r1 q1) fun z s2 zv H2 I2 r2 q2=>RS I2 hN hi hx r2 (fun s3 I3=>⟨_,H2,I3,q2⟩) hf
 rcases l with⟨hk,hm⟩ |⟨hk,c,hc,hcell⟩
 ·exact qH I.ok.kind hk hn hm go
 ·rcases hk with hk | hk
  ·exact nA I.ok.kind hk hc hcell go
  ·rcases hx with k | k
   ·have:X.env.scope.names.lookup x=some .free:=hk
    rw[k]at this;cases this
   ·have:X.env.scope.names.lookup x=some .free:=hk
    rw[k]at this;cases this
noncomputable def ipI(f:Int->Int->Int):TIp:=fun x y H Q=> ∃ i j,x= .int i/\y= .int j/\Q (.int<|f i j) H
def fj:PIp X .Add (ipI fun i j=>i+j):=by
 rintro pins s σ H x y v u Q I r1 r2 ⟨i,j,e1,e2,q⟩
 subst e1;subst e2
 obtain⟨t,rfl⟩:=r1
 obtain⟨t',rfl⟩:=r2
 exact nZ ⟨.int _,H,I.tok _,⟨_,rfl⟩,q⟩
def ACN:PIp X .Sub (ipI fun i j=>i-j):=by
 rintro pins s σ H x y v u Q I r1 r2 ⟨i,j,e1,e2,q⟩
 subst e1;subst e2
 obtain⟨t,rfl⟩:=r1
 obtain⟨t',rfl⟩:=r2
 exact mP ⟨.int _,H,I.tok _,⟨_,rfl⟩,q⟩
end
section
variable{X:Cx}{pos:Pos}
noncomputable def vB(c:TT)(tb:TS):TS:=fun D σ H=> ∃ W:Nat->St->Hp->Prop,(∃ m,W m σ H)/\ ∀ m σ H,W m σ H->
 c σ H fun b H1=>if b=true then ∃ N,(∀ σ' H',N σ' H'-> ∃ m',m'<m/\W m' σ' H')/\tb {D with nx:=N,ct:=N,bk:=D.nx} σ H1 else D.nx σ H1
theorem JO(hp:PassesOwn (Ai X.prog X.w) X.A X.env X.xe)(hc:PT X c tc)(hb:eC X body tb):PS X (.While c body [] pos) (vB tc tb):=by
 rintro pins s σ H D I ⟨W,⟨m0,w0⟩,turn⟩
 refine wpAny_While<|codeAny_whileLoop (fun n s'=> ∃ σ' H',Inv X pins σ' H' s'/\W n σ' H') ?_ m0 ⟨σ,H,I,w0⟩
 rintro n s1 ⟨σ1,H1,I1,w1⟩
 refine MQ hp<|QO (hc pins s1 σ1 H1 _ I1<|turn n σ1 H1 w1) fun b s2 ⟨H2,I2,q2⟩=>?_
 cases b with
 | true=>
  obtain⟨N,hN,q2⟩:=q2
  rw[AI rfl]
  refine MQ hp<|QO (hb pins s2 σ1 H2 _ I2 q2) fun f s3 q3=>?_
  cases f with
  | next=>
   obtain⟨σ3,H3,I3,n3⟩:=q3
   obtain⟨m',hm,w3⟩:=hN σ3 H3 n3
   exact⟨m',hm,σ3,H3,I3,w3⟩
  | cont=>
   obtain⟨σ3,H3,I3,n3⟩:=q3
   obtain⟨m',hm,w3⟩:=hN σ3 H3 n3
   exact⟨m',hm,σ3,H3,I3,w3⟩
  | brk=>exact q3
  | ret v=>exact q3
 | false=>
  rw[AG D0]
  exact Oo ⟨σ1,H2,I2,q2⟩
end
structure It where
 go:Nat->Hp->Prop
 t_:Nat->Hp->V->Hp->Prop
 stop:Nat->Hp->Prop
noncomputable def YO(X:Cx)(pins:List (AK×Obj))(H:Hp)(b:AK):Prop:=
 H b=none/\b≠X.env.locals/\b∉X.fs/\(b∈X.ex\/X.P8.heap.objs.size<=b)/\(∀ x c,X.env.cells.lookup x=some c->c≠b)/\ ∀ p∈X.pn++pins,p.1≠b
def Inv.xA{X:Cx}{σ:St}{b:AK}(I:Inv X pins σ H s)(hb:s.heap.objs.size<=b)(hn:H' b=none):YO X pins H' b:=by
 refine⟨hn,WG<|DO I.lt hb,I.AFT hb,.inr<|CC I.sz hb,fun x c e z=>?_,fun p hp z=>absurd (DO (Bz (I.pin p hp).1)<|by rw[z];exact hb)<|Fo _⟩
 ·obtain⟨v,q⟩:=I.cell x c e
  exact absurd (DO q.lt<|by rw[z];exact hb)<|Fo _
structure Turn(P:BH)(w:Ao)(K:AS)(tg:Expr)(J:It)(fp:List AK)(it:AK)(tn:Nat->Az->Prop):Prop where
 mem:it∈fp
 obj: ∀ i h,tn i h-> ∀ b∈fp,∃ o,h.get? b=some o/\ ∀ v,o.data≠ .cell v
 keep: ∀ i h h',tn i h->(∀ b∈fp,∀ o,h.get? b=some o->h'.get? b=some o)->tn i h'
 item: ∀(X:Cx),X.prog=P->X.w=w->X.K=K->X.calm=true-> ∀ i pins s (σ:St) H E,Inv X pins σ H s->(∀ b∈fp,YO X pins H b)->tn i s.heap->J.go i H->
  Aw (Ai P w) X.A (pyNext (.ref it)) (fun r s1=> ∃ u,r=some u/\
   Aw (Ai P w) X.A (Vz tg (.ref it) u) (fun _ s2=> ∃ x H',Inv X pins σ H' s2/\RelV x u/\J.t_ i H x H'/\tn (i+1) s2.heap/\ ∀ b∈fp,H' b=none) E s1) E s
 done: ∀ X,X.prog=P->X.w=w->X.K=K->X.calm=true-> ∀ i pins s (σ:St) H E,Inv X pins σ H s->(∀ b∈fp,YO X pins H b)->tn i s.heap->J.stop i H->
  Aw (Ai P w) X.A (pyNext (.ref it)) (fun r s1=>r=none/\Inv X pins σ H s1) E s
 self: ∀ A i s Q E,tn i s.heap->Q (.ref it) s->Aw (Ai P w) A (pyIter (.ref it)) Q E s
noncomputable abbrev TI:=St->Hp->(It->Hp->Prop)->Prop
noncomputable def PIE(X:Cx)(pins:List (AK×Obj))(σ:St)(tg:Expr)(R:It->Hp->Prop)(itv:AN)(s2:Ay):Prop:=
 ∃(it:AK) (fp:List AK) (tn:Nat->Az->Prop) (J:It) (H':Hp),itv= .ref it/\Inv X pins σ H' s2/\Turn X.prog X.w X.K tg J fp it tn/\tn 0 s2.heap/\(∀ b∈fp,YO X pins H' b)/\R J H'
noncomputable def PI(X:Cx)(tg iter:Expr)(wi:TI):Prop:=
 ∀(pins:List (AK×Obj)) s (σ:St) H R,Inv X pins σ H s->wi σ H R->
  Aw (Ai X.prog X.w) X.A (eval iter X.env) (fun v s1=>Aw (Ai X.prog X.w) X.A (pyIter v) (PIE X pins σ tg R) X.xe s1) X.xe s
def wt(ho:s.heap.get? it=some o)(hc:o.cls= .type n)(hd:o.data= .fields vs)
  (hn: ["enumerate","zip","dict_itemiterator","dict_reverseitemiterator","odict_iterator","itertools.zip_longest","itertools.pairwise"].contains n=false) (hQ:Q () s):Aw M A (Vz tg (.ref it) u) Q E s:=by
 unfold Vz
 cases tg<;>first
  | exact Cp hQ
  |(cases u<;>first
    | exact Cp hQ
    |(
      refine BP<|wpAny_load ho ?_
      rw[hc,hd]
      show Aw M A (if(["enumerate","zip","dict_itemiterator","dict_reverseitemiterator","odict_iterator","itertools.zip_longest","itertools.pairwise"].contains n&&vs[0]?==some (rawInt _))=true then _ else _) Q E s
      rw[AG<|by intro h;rw[hn,Bool.false_and]at h;cases h]
      exact Cp hQ))
noncomputable def qV(K:AS)(a:AK):It:=
 ⟨fun i H=> ∃ xs x,BF K H a xs/\xs[i]?=some x,fun i H x H'=>H'=H/\ ∀ xs,BF K H a xs->xs[i]?=some x,fun i H=> ∃ xs,BF K H a xs/\xs.length<=i⟩
noncomputable def xc(lo:Int)(n:Nat):It:=⟨fun i _=>i<n,fun i H x H'=>H'=H/\x= .int (lo+i),fun i _=>n<=i⟩
theorem sD{P:BH}{K:AS}(a it:AK):Turn P w K tg (qV K a) [it] it (fun i h=>h.IsListIter it a i) where
 mem:=by simp
 obj:=fun i h st b hb=>by
  have e:b=it:=by simpa using hb
  subst e
  obtain⟨o,e,c,d⟩:=st
  exact⟨o,e,fun v z=>by rw[d]at z;cases z⟩
 keep:=fun i h h' st k=>st.at fun o e=>k it (by simp) o e
 item:=by
  intro X hP hw hK hc i pins s σ H E I hf st hg
  subst hP hw hK
  obtain⟨xs,x,hq,hx⟩:=hg
  obtain⟨its,rv,p,hz⟩:=I.list hq
  obtain⟨u,hu,ru⟩:=rv.get hx
  obtain⟨f0,f1,f2,f3,f4,f5⟩:=hf it<|by simp
  refine wpAny_pyNext_list_item st p.isList (x:=u) (by simpa using hu) fun h' st' sb=>?_
  have I1:Inv X pins σ H {s with heap:=h'}:=I.turned (t':=s.toks) (fun b o hb e=>(sb.2 b hb).trans e) f0 f1 f3 f4 f5
  obtain⟨o,e,c,d⟩:=id st'
  exact⟨u,rfl,wt (s:={s with heap:=h'}) e c d (by decide) ⟨x,H,I1,ru,⟨rfl,fun ys hy=>by rw[I.jB hy hq];exact hx⟩,st',fun b hb=>(hf b hb).1⟩⟩
 done:=by
  intro X hP hw hK hc i pins s σ H E I hf st hg
  subst hP hw hK
  obtain⟨xs,hq,hx⟩:=hg
  obtain⟨its,rv,p,hz⟩:=I.list hq
  obtain⟨f0,f1,f2,f3,f4,f5⟩:=hf it<|by simp
  have hl:=rv.length
  exact wpAny_pyNext_list_end (I.ok.hd hc) st p.isList (by simp;lia) fun h' eb=>⟨rfl,I.turned (t':=s.toks) (fun b o hb e=>eb b o hb e) f0 f1 f3 f4 f5⟩
 self:=fun _ _ _ _ _ st h=>wpAny_pyIter_listiter st h
theorem jh{P:BH}{K:AS}(it:AK)(lo:Int)(n:Nat):Turn P w K tg (xc lo n) [it] it (fun i h=>IsRangeIter h it (lo+(i:Nat)*1) ((n:Int)- (i:Nat)) 1) where
 mem:=by simp
 obj:=fun i h st b hb=>by
  have e:b=it:=by simpa using hb
  subst e
  exact⟨_,st,fun v z=>by
   have z':Data.fields _=Data.cell v:=z
   cases z'⟩
 keep:=fun i h h' st k=>k it (by simp) _ st
 item:=by
  intro X hP hw hK hc i pins s σ H E I hf st hg
  subst hP hw hK
  obtain⟨f0,f1,f2,f3,f4,f5⟩:=hf it<|by simp
  have W:=ph (prog:=X.prog) (w:=X.w) (I.ok.hd hc) it lo 1 n
  refine W.item i s _ _ hg st fun v h' tk hv st' kk=>?_
  obtain⟨t,rfl⟩:=hv
  have I1:Inv X pins σ H {s with heap:=h',toks:=tk}:=I.turned (fun b o hb e=>kk b o (by simpa using hb) e) f0 f1 f3 f4 f5
  refine⟨_,rfl,wt (s:={s with heap:=h',toks:=tk}) (n:="range_iterator") st' rfl rfl (by decide) ⟨.int<|lo+i,H,I1,⟨t,?_⟩,⟨rfl,rfl⟩,st',fun b hb=>(hf b hb).1⟩⟩
  rw[Int.mul_one]
 done:=by
  intro X hP hw hK hc i pins s σ H E I hf st hg
  subst hP hw hK
  obtain⟨f0,f1,f2,f3,f4,f5⟩:=hf it<|by simp
  exact qx (I.ok.hd hc) st (by have:n<=i:=hg;lia) fun h' eb=>⟨rfl,I.turned (t':=s.toks) (fun b o hb e=>eb b o hb e) f0 f1 f3 f4 f5⟩
 self:=fun _ _ _ _ _ st h=>mV st h
end L2
namespace L2
open PySem PySem.Spec PyProof.Rows
section
variable{X:Cx}{tg:Expr}
noncomputable def ADf(K:AS)(tl:TE):TI:=fun σ H R=>tl σ H fun x H1=>QK x fun a=>(∃ xs,BF K H1 a xs)/\R (qV K a) H1
def GO(hl:PE X l tl):PI X tg l (ADf X.K tl):=by
 refine fun pins s σ H R I h=>HI (hl pins s σ H _ I h) fun v s1 x H1 I1 r1 q1=>?_
 obtain⟨a,rfl,⟨xs,hq⟩,q⟩:=QK.ex q1
 cases r1
 obtain⟨its,rv,p,hz⟩:=I1.list hq
 refine wpAny_pyIter_list p.isList<|⟨s1.heap.objs.size,[s1.heap.objs.size],_,_,H1,rfl,I1.kept fun b o e=>CP _ e,sD a _,⟨_,IF _ rfl,rfl,rfl⟩,fun b hb=>?_,q⟩
 have e:b=s1.heap.objs.size:=by simpa using hb
 subst e
 exact I1.xA (BS _)<|I1.C0.fresh<|BS _
def iz{pins:List (AK×Obj)}{σ:St}{lo hi:Int}(I:Inv X pins σ H s)(h1: -(2^62)<=lo)(h2:lo<2^62)(h3: -(2^62)<=hi)(h4:hi<2^62)
  (q:R (xc lo (hi-lo).toNat) H):Aw (Ai X.prog X.w) X.A (pyIter<|.ref s.heap.objs.size) (PIE X pins σ tg R) E {s with heap:=s.heap.push {cls:= .type "range",data:= .fields #[.int lo t,.int hi u,.int 1 v]},toks:=tk}:=by
 refine o6 (qP ..) (small_one h1 h2 h3 h4) ?_
 have I1:Inv X pins σ H {s with heap:=s.heap.push {cls:= .type "range",data:= .fields #[.int lo t,.int hi u,.int 1 v]},toks:=tk}:=I.kept fun b o e=>CP _ e
 refine⟨(s.heap.push {cls:= .type "range",data:= .fields #[.int lo t,.int hi u,.int 1 v]}).objs.size,[(s.heap.push {cls:= .type "range",data:= .fields #[.int lo t,.int hi u,.int 1 v]}).objs.size],_,_,H,rfl,
  I1.kept fun b o e=>CP _ e,jh _ lo (hi-lo).toNat,?_,fun b hb=>?_,q⟩
 ·have e1:lo+((0:Nat):Int)*1=lo:=by simp
  have e2:(((hi-lo).toNat:Nat):Int)- ((0:Nat):Int)=Ov lo hi 1:=by rw[rangeSize_one];split<;>lia
  rw[e1,e2]
  exact IF _ rfl
 ·have e:b=(s.heap.push {cls:= .type "range",data:= .fields #[.int lo t,.int hi u,.int 1 v]}).objs.size:=by simpa using hb
  subst e
  exact I1.xA (BS _)<|I1.C0.fresh<|BS _
noncomputable def ADN(ta:TA):TI:=fun σ H R=>ta σ H fun vs H1=> ∃ j,vs= [.int j]/\ -(2^62)<=j/\j<2^62/\R (xc 0 j.toNat) H1
noncomputable def AEa(ta:TA):TI:=fun σ H R=>ta σ H fun vs H1=> ∃ i j,vs= [.int i,.int j]/\(-(2^62)<=i/\i<2^62/\ -(2^62)<=j/\j<2^62)/\R (xc i (j-i).toNat) H1
theorem UY(hg:Gl X "range")(hm:X.mg "range"=none)(ha:PA X [a] ta)(hs:Au [a] X.env= [(false,eval a X.env)]:=by rfl):PI X tg (.Call (.Name "range" p) [a] [] pos) (ADN ta):=by
 refine fun pins s σ H R I h=>Rc<|Qb I hg hm cD<|TB (j_ (ha pos pins s σ H _ I h) fun us s1 vs H1 I1 r1 q1=>?_) hs rfl
 obtain⟨j,rfl,q1,q2,q⟩:=q1
 cases r1 with
 | cons r rr=>
  cases rr
  obtain⟨t,rfl⟩:=r
  exact call_range_1<|iz I1 (by lia) (by lia) q1 q2<|by simpa using q
theorem Tj{p pos:Pos}(hg:Gl X "range")(hm:X.mg "range"=none)(ha:PA X [a,b] ta)(hs:Au [a,b] X.env= [(false,eval a X.env),(false,eval b X.env)]:=by rfl)(hs2:Au [b] X.env= [(false,eval b X.env)]:=by rfl):
  PI X tg (.Call (.Name "range" p) [a,b] [] pos) (AEa ta):=by
 refine fun pins s σ H R I h=>Rc<|Qb I hg hm cD<|TB (j_ (ha pos pins s σ H _ I h) fun us s1 vs H1 I1 r1 q1=>?_) (by rw[hs,hs2])<|by rw[hs2];rfl
 obtain⟨i,j,rfl,⟨q1,q2,q3,q4⟩,q⟩:=q1
 cases r1 with
 | cons r rr=>
  cases rr with
  | cons r' rr=>
   cases rr
   obtain⟨t,rfl⟩:=r
   obtain⟨t',rfl⟩:=r'
   exact call_range_2<|iz I1 q1 q2 q3 q4 q
noncomputable def AGE(wi:TI)(g:TG)(tb:TS):TS:=fun D σ H=>wi σ H fun J H1=> ∃ W:Nat->Nat->St->Hp->Prop,(∃ m,W 0 m σ H1)/\ ∀ i m σ H,W i m σ H->
 (J.stop i H/\D.nx σ H)\/(J.go i H/\ ∃ N,(∀ σ' H',N σ' H'-> ∃ m',m'<m/\W (i+1) m' σ' H')/\ ∀ x H',J.t_ i H x H'->g x σ H' fun σ2 H2=>tb {D with nx:=N,ct:=N,bk:=D.nx} σ2 H2)
noncomputable def YR(fp:List AK)(h:Az):List (AK×Obj):=fp.filterMap fun b=>(h.get? b).map fun o=>(b,o)
def QT(hb:b∈fp)(e:h.get? b=some o):(b,o)∈YR fp h:=d_.mpr ⟨b,hb,by rw[e];rfl⟩
theorem tY(hp:p∈YR fp h):p.1∈fp/\h.get? p.1=some p.2:=by
 obtain⟨b,hb,e⟩:=d_.mp hp
 cases q:h.get? b with
 | none=>rw[q]at e;cases e
 | some o=>
  rw[q]at e
  have e':=C5 e
  subst e'
  exact⟨hb,q⟩
def Inv.pinned{pins:List (AK×Obj)}{σ:St}(I:Inv X pins σ H s)(hf: ∀ b∈fp,YO X pins H b)(ho: ∀ b∈fp,∃ o,s.heap.get? b=some o/\ ∀ v,o.data≠ .cell v):Inv X (pins++YR fp s.heap) σ H s:=
 I.nJ fun p hp=>(Ly.mp hp).elim (fun z=>I.pin p<|Jx _ z) fun z=>by
  obtain⟨hb,e⟩:=tY z
  obtain⟨f0,f1,f2,_⟩:=hf p.1 hb
  obtain⟨o,e',d⟩:=ho p.1 hb
  rw[e]at e';cases e'
  exact⟨e,f0,f1,f2,d⟩
def Inv.RZ{pins pl:List (AK×Obj)}{σ:St}(I:Inv X (pins++pl) σ H s):Inv X pins σ H s:=I.nJ fun p hp=>I.pin p (Jx _<|mH _ hp)
def EM(hp:PassesOwn (Ai X.prog X.w) X.A X.env X.xe)(hc:X.calm=true)(hi:PI X tg iter wi)(hg:PG X tg g)(hb:eC X body tb)
  (hs: ∀ x,W5 iter X.env x=CB x:=by intro _;rfl):PS X (.For tg iter body [] pos) (AGE wi g tb):=by
 refine fun pins s σ H D I h=>wpAny_For (QO (hi pins s σ H _ I h) fun v s1 h1=>QO h1 fun itv s2 h2=>?_) hs
 obtain⟨it,fp,tn,J,H2,rfl,I2,T,st2,f2,W,⟨m0,w0⟩,turn⟩:=h2
 have stat: ∀{H':Hp},(∀ b∈fp,H' b=none)-> ∀ b∈fp,YO X pins H' b:=fun hn b hb=>⟨hn b hb,(f2 b hb).2⟩
 refine codeAny_forLoop_any (fun n s'=> ∃ i σ' H',Inv X pins σ' H' s'/\tn i s'.heap/\(∀ b∈fp,H' b=none)/\W i n σ' H') ?_ m0 ⟨0,σ,H2,I2,st2,fun b hb=>(f2 b hb).1,w0⟩
 rintro n s3 ⟨i,σ3,H3,I3,st3,fr3,w3⟩
 rcases turn i n σ3 H3 w3 with⟨stop,qn⟩ |⟨go,N,hN,step⟩
 ·refine MQ hp (QO (T.done X rfl rfl rfl hc i pins s3 σ3 H3 X.xe I3 (stat fr3) st3 stop) fun r s4 ⟨hr,I4⟩=>?_)
  subst hr
  exact Oo ⟨σ3,H3,I4,qn⟩
 ·refine MQ hp (QO (T.item X rfl rfl rfl hc i pins s3 σ3 H3 X.xe I3 (stat fr3) st3 go) fun r s4 ⟨u,hr,h4⟩=>?_)
  subst hr
  refine MQ hp<|QO h4 fun _ s5 ⟨x,H5,I5,r5,y5,st5,fr5⟩=>?_
  refine MQ hp<|QO (hg _ s5 σ3 H5 x u _ (I5.pinned (stat fr5)<|T.obj _ _ st5) r5<|step x H5 y5) fun _ s6 ⟨σ6,H6,I6,q6⟩=>MQ hp<|QO (hb _ s6 σ6 H6 _ I6 q6) fun f s7 q7=>?_
  have again: ∀{σ7:St} {H7:Hp},Inv X (pins++YR fp s5.heap) σ7 H7 s7->N σ7 H7-> ∃ m,m<n/\ ∃ i σ' H',Inv X pins σ' H' s7/\tn i s7.heap/\(∀ b∈fp,H' b=none)/\W i m σ' H':=fun{σ7 H7} I7 n7=>by
   obtain⟨m',hm,w7⟩:=hN σ7 H7 n7
   refine⟨m',hm,i+1,σ7,H7,I7.RZ,T.keep _ _ _ st5 fun b hb o e=>(I7.pin (b,o)<|Jx _<|Jx _<|QT hb e).1,fun b hb=>?_,w7⟩
   obtain⟨o,e,d⟩:=T.obj _ _ st5 b hb
   exact(I7.pin (b,o)<|Jx _<|Jx _<|QT hb e).2.1
  cases f with
  | next=>obtain⟨σ7,H7,I7,n7⟩:=q7;exact again I7 n7
  | cont=>obtain⟨σ7,H7,I7,n7⟩:=q7;exact again I7 n7
  | brk=>obtain⟨σ7,H7,I7,q7⟩:=q7;exact⟨σ7,H7,I7.RZ,q7⟩
  | ret v=>obtain⟨x7,σ7,H7,I7,r7,q7⟩:=q7;exact⟨x7,σ7,H7,I7.RZ,r7,q7⟩
end
def Rh{K:AS}{g:TG}{tb:TS}{D:Ends}(Pv:Nat->St->Hp->Prop)(h0:Pv 0 σ H)(hl: ∀ i σ H,i<=xs.length->Pv i σ H->BF K H a xs)
  (hs: ∀ i x σ H,xs[i]?=some x->Pv i σ H->g x σ H fun σ2 H2=>tb {D with nx:=Pv<|i+1,ct:=Pv<|i+1,bk:=D.nx} σ2 H2) (hd: ∀ σ H,Pv xs.length σ H->D.nx σ H):
  ∃ W:Nat->Nat->St->Hp->Prop,(∃ m,W 0 m σ H)/\ ∀ i m σ H,W i m σ H->
   ((qV K a).stop i H/\D.nx σ H)\/((qV K a).go i H/\ ∃ N,(∀ σ' H',N σ' H'-> ∃ m',m'<m/\W (i+1) m' σ' H')/\ ∀ x H',(qV K a).t_ i H x H'->g x σ H' fun σ2 H2=>tb {D with nx:=N,ct:=N,bk:=D.nx} σ2 H2):=by
 refine⟨fun i m σ H=>m=xs.length-i/\i<=xs.length/\Pv i σ H,⟨xs.length,by simp,B6 _,h0⟩,?_⟩
 rintro i m σ H ⟨rfl,hi,p⟩
 have q:=hl i σ H hi p
 by_cases hlt:i<xs.length
 ·refine .inr ⟨⟨xs,xs[i],q,by simp[hlt]⟩,Pv<|i+1,fun σ' H' p'=>⟨xs.length- (i+1),by lia,rfl,hlt,p'⟩,fun x H' y=>?_⟩
  obtain⟨rfl,y⟩:=y
  exact hs i x σ _ (y xs q) p
 ·have e:i=xs.length:=by lia
  subst e
  exact .inl ⟨⟨xs,q,BS _⟩,hd σ H p⟩
def Oz{lo:Int}{g:TG}{tb:TS}{D:Ends}(Pv:Nat->St->Hp->Prop)(h0:Pv 0 σ H)
  (hs: ∀ i σ H,i<n->Pv i σ H->g (.int<|lo+i) σ H fun σ2 H2=>tb {D with nx:=Pv<|i+1,ct:=Pv<|i+1,bk:=D.nx} σ2 H2) (hd: ∀ σ H,Pv n σ H->D.nx σ H):
  ∃ W:Nat->Nat->St->Hp->Prop,(∃ m,W 0 m σ H)/\ ∀ i m σ H,W i m σ H->
   ((xc lo n).stop i H/\D.nx σ H)\/((xc lo n).go i H/\ ∃ N,(∀ σ' H',N σ' H'-> ∃ m',m'<m/\W (i+1) m' σ' H')/\ ∀ x H',(xc lo n).t_ i H x H'->g x σ H' fun σ2 H2=>tb {D with nx:=N,ct:=N,bk:=D.nx} σ2 H2):=by
 refine⟨fun i m σ H=>m=n-i/\i<=n/\Pv i σ H,⟨n,by simp,B6 _,h0⟩,?_⟩
 rintro i m σ H ⟨rfl,hi,p⟩
 by_cases hlt:i<n
 ·refine .inr ⟨hlt,Pv<|i+1,fun σ' H' p'=>⟨n- (i+1),by lia,rfl,hlt,p'⟩,fun x H' y=>?_⟩
  obtain⟨e,y⟩:=y
  subst e y
  exact hs i σ _ hlt p
 ·have e:i=n:=by lia
  subst e
  exact .inl ⟨BS _,hd σ H p⟩
theorem Nm(Pv:St->Hp->Prop)(μ:St->Hp->Nat)(h0:Pv σ H)
  (hs: ∀ σ H,Pv σ H->c σ H fun b H1=>if b=true then tb {D with nx:=fun σ' H'=>Pv σ' H'/\μ σ' H'<μ σ H,ct:=fun σ' H'=>Pv σ' H'/\μ σ' H'<μ σ H,bk:=D.nx} σ H1 else D.nx σ H1)
  (mono: ∀ σ H Q Q',(∀ b H1,Q b H1->Q' b H1)->c σ H Q->c σ H Q'):vB c tb D σ H:=by
 refine⟨fun m σ H=>m=μ σ H/\Pv σ H,⟨_,rfl,h0⟩,?_⟩
 rintro m σ H ⟨rfl,p⟩
 refine mono σ H _ _ (fun b H1 q=>?_)<|hs σ H p
 cases b with
 | true=>exact⟨_,fun σ' H' ⟨p',l⟩=>⟨_,l,rfl,p'⟩,q⟩
 | false=>exact q
end L2
namespace L2
open PySem PySem.Spec PyProof.Rows
noncomputable abbrev R2:=V->V->Hp->VK->Prop
noncomputable def Ul(X:Cx)(f:AN->AN->Sem AN)(r:R2):Prop:=
 ∀(pins:List (AK×Obj)) s (σ:St) H x y v u Q,Inv X pins σ H s->RelV x v->RelV y u->r x y H Q->
  Aw (Ai X.prog X.w) X.A (f v u) (EP X pins σ Q) X.xe s
noncomputable def UnR(X:Cx)(f:AN->Sem AN)(r:V->Hp->VK->Prop):Prop:=
 ∀(pins:List (AK×Obj)) s (σ:St) H x v Q,Inv X pins σ H s->RelV x v->r x H Q->
  Aw (Ai X.prog X.w) X.A (f v) (EP X pins σ Q) X.xe s
noncomputable def Yy(X:Cx)(f:AN)(r:List V->Hp->VK->Prop):Prop:=
 ∀(pins:List (AK×Obj)) s (σ:St) H xs us Q,Inv X pins σ H s->Vals xs us->r xs H Q->
  Aw (Ai X.prog X.w) X.A (call f us) (EP X pins σ Q) X.xe s
noncomputable def g5(r:R2)(ta tb:TE):TE:=fun σ H Q=>ta σ H fun x H1=>tb σ H1 fun y H2=>r x y H2 Q
noncomputable def tUn(r:V->Hp->VK->Prop)(ta:TE):TE:=fun σ H Q=>ta σ H fun x H1=>r x H1 Q
noncomputable def rI(C:Int->Int->Prop)(g:Int->Int->V):R2:=fun x y H Q=>RI x fun i=>RI y fun j=>C i j/\Q (g i j) H
noncomputable def WT(g:Int->Int->V):R2:=fun x y H Q=>RI x fun i=>RI y fun j=>Q (g i j) H
noncomputable def rU(g:Int->V):V->Hp->VK->Prop:=fun x H Q=>RI x fun i=>Q (g i) H
section
variable{X:Cx}{a b c:Expr}{ta tb tc:TE}{pos:Pos}
def ABZ(ha:PE X a ta)(hb:PE X b tb){pins:List (AK×Obj)}{σ:St}{R:V->V->Hp->Prop}(I:Inv X pins σ H s)
  (h:ta σ H fun x H1=>tb σ H1 fun y H2=>R x y H2) {f:AN->AN->Sem AN}
  (hf: ∀ v u s2 x y H2,Inv X pins σ H2 s2->RelV x v->RelV y u->R x y H2->Aw (Ai X.prog X.w) X.A (f v u) Q X.xe s2):
  Aw (Ai X.prog X.w) X.A (eval a X.env) (fun v s₁=>Aw (Ai X.prog X.w) X.A (eval b X.env) (fun u s₂=>Aw (Ai X.prog X.w) X.A (f v u) Q X.xe s₂) X.xe s₁) X.xe s:=by
 exact HI (ha pins s σ H _ I h) fun v s1 x H1 I1 r1 q1=>HI (hb pins s1 σ H1 _ I1 q1) fun u s2 y H2 I2 r2 q2=>hf v u s2 x y H2 I2 r1 r2 q2
def AU(ho:Ul X (GW op) r)(ha:PE X a ta)(hb:PE X b tb):PE X (.BinOp a op b pos) (g5 r ta tb):=
 fun pins s σ H Q I h=>wpAny_BinOp<|ABZ ha hb I h fun v u s2 x y H2 I2 rx ry q=>ho pins s2 σ H2 x y v u Q I2 rx ry q
def LL(ho:UnR X (unaryOp op) r)(ha:PE X a ta):PE X (.UnaryOp op a pos) (tUn r ta):=
 fun pins s σ H Q I h=>UnaryOp_<|HI (ha pins s σ H _ I h) fun v s1 x H1 I1 r1 q1=>ho pins s1 σ H1 x v Q I1 r1 q1
def opI{g:Int->Int->Int}
  (rule: ∀ i j t u s Q E,C i j->Q (.int (g i j) s.toks) {s with toks:=s.toks+1}->Aw (Ai X.prog X.w) X.A (f (.int i t)<|.int j u) Q E s):
  Ul X f (rI C fun i j=> .int<|g i j):=by
 intro pins s σ H x y v u Q I rx ry h
 obtain⟨i,rfl,h'⟩:=RI.ex h
 obtain⟨j,rfl,hc,q⟩:=RI.ex h'
 obtain⟨t,rfl⟩:=rx
 obtain⟨t',rfl⟩:=ry
 exact rule i j t t' s _ _ hc ⟨.int<|g i j,H,I.tok _,⟨_,rfl⟩,q⟩
def uy{g:Int->Int->Int}
  (rule: ∀ i j t u s Q E,Q (.int (g i j) s.toks) {s with toks:=s.toks+1}->Aw (Ai X.prog X.w) X.A (f (.int i t)<|.int j u) Q E s):
  Ul X f (WT fun i j=> .int<|g i j):=by
 intro pins s σ H x y v u Q I rx ry h
 obtain⟨i,rfl,h'⟩:=RI.ex h
 obtain⟨j,rfl,q⟩:=RI.ex h'
 obtain⟨t,rfl⟩:=rx
 obtain⟨t',rfl⟩:=ry
 exact rule i j t t' s _ _ ⟨.int<|g i j,H,I.tok _,⟨_,rfl⟩,q⟩
def yx{g:Int->Int->Bool}
  (rule: ∀ i j t u s Q E,Q (.bool<|g i j) s->Aw (Ai X.prog X.w) X.A (f (.int i t)<|.int j u) Q E s):
  Ul X f (WT fun i j=> .bl<|g i j):=by
 intro pins s σ H x y v u Q I rx ry h
 obtain⟨i,rfl,h'⟩:=RI.ex h
 obtain⟨j,rfl,q⟩:=RI.ex h'
 obtain⟨t,rfl⟩:=rx
 obtain⟨t',rfl⟩:=ry
 exact rule i j t t' s _ _ ⟨.bl<|g i j,H,I,rfl,q⟩
noncomputable def rR(i j:Int):Prop:=(-(2^64)<i/\i<2^64)\/(-(2^64)<j/\j<2^64)
def rR.ok(h:rR i j):IntMulOk i j:=by
 rcases h with⟨h1,h2⟩ |⟨h1,h2⟩
 ·exact .of_left<|mB h1 h2
 ·exact .of_right<|mB h1 h2
def jq(k:Nat):(0:Int)<=2^k:=by
 rw[two_pow_cast]
 exact FP _
def BJ:Ul X (GW .Add) (WT fun i j=> .int<|i+j):=uy fun _ _ _ _ _ _ _ q=>add_int q
def B1:Ul X (GW .Sub) (WT fun i j=> .int<|i-j):=uy fun _ _ _ _ _ _ _ q=>sub_int q
def Bb:Ul X (GW .Mult) (rI rR fun i j=> .int<|i*j):=opI fun _ _ _ _ _ _ _ hc q=>mul_int q hc.ok
def Dz:Ul X (GW .Mod) (rI (fun _ j=>0<j) fun i j=> .int<|i%j):=opI fun i j _ _ _ _ _ hc q=>by
 exact mod_int' (by lia)<|by rw[Int.fmod_eq_emod_of_nonneg i<|by lia];exact q
def ACA:Ul X (GW .RShift) (rI (fun _ j=>0<=j) fun i j=> .int<|i/2^j.toNat):=opI fun i j _ _ _ _ _ hc q=>
 rshift_int hc (by rw[GD i<|jq _];exact q)
def UQ:Ul X (GW .BitAnd) (WT fun i j=> .int<|De i j):=uy fun _ _ _ _ _ _ _ q=>and_int q
def ADO:Ul X (GW .BitOr) (WT fun i j=> .int<|R4 i j):=uy fun _ _ _ _ _ _ _ q=>or_int q
def ACU:Ul X (GW .BitXor) (WT fun i j=> .int<|rB i j):=uy fun _ _ _ _ _ _ _ q=>xor_int q
def unI{g:Int->Int}
  (rule: ∀ i t s Q E,Q (.int (g i) s.toks) {s with toks:=s.toks+1}->Aw (Ai X.prog X.w) X.A (f<|.int i t) Q E s):
  UnR X f (rU fun i=> .int<|g i):=by
 intro pins s σ H x v Q I rx h
 obtain⟨i,rfl,q⟩:=RI.ex h
 obtain⟨t,rfl⟩:=rx
 exact rule i t s _ _ ⟨.int<|g i,H,I.tok _,⟨_,rfl⟩,q⟩
def HA:UnR X (unaryOp .USub) (rU fun i=> .int<|-i):=unI fun _ _ _ _ _ q=>neg_int q
end
noncomputable def ADU:V->V->Bool
 | .non,.non=>true | .non,.int _=>true | .int _,.non=>true | .non,.bl _=>true | .bl _,.non=>true | .non,.str _=>true | .str _,.non=>true
 | .int _,.int _=>true | .bl _,.bl _=>true | .str _,.str _=>true | .byt _,.byt _=>true
 | .int _,.str _=>true | .str _,.int _=>true | .bl _,.str _=>true | .str _,.bl _=>true
 | _,_=>false
noncomputable def rEq:R2:=fun x y H Q=>ADU x y=true/\Q (.bl<|decide (x=y)) H
noncomputable def rNe:R2:=fun x y H Q=>ADU x y=true/\Q (.bl<|!decide (x=y)) H
def ED:decide (V.int i=V.int j)=(i==j):=by
 rw[Wb]
 simp
def um:decide (V.bl i=V.bl j)=(i==j):=by
 rw[Wb]
 simp
def lr:decide (V.str i=V.str j)=(i==j):=by
 rw[Wb]
 simp
def mw:decide (V.byt i=V.byt j)=(i.toList==j.toList):=by
 rw[Wb]
 cases i
 cases j
 simp
section
variable{X:Cx}{a b c:Expr}{ta tb tc:TE}{pos:Pos}
def CN{pins:List (AK×Obj)}{σ:St}(I:Inv X pins σ H s)(q:Q (.bl k) H)(e:k=k'):EP X pins σ Q (.bool k') s:=by
 subst e
 exact⟨.bl k,H,I,rfl,q⟩
theorem BD:Ul X (HC .Eq) rEq:=by
 rintro pins s σ H x y v u Q I rx ry ⟨hs,q⟩
 cases x with
 | non=>
  cases rx
  cases y with
  | non=>cases ry;exact yz<|CN I q<|by simp
  | bl j=>cases ry;exact yJ<|CN I q<|by simp
  | int j=>obtain⟨t',rfl⟩:=ry;exact zZ<|CN I q<|by simp
  | str j=>obtain⟨t',rfl⟩:=ry;exact zf<|CN I q<|by simp
  | _=>exact absurd (hs) D0
 | bl i=>
  cases rx
  cases y with
  | non=>cases ry;exact AAK<|CN I q<|by simp
  | bl j=>cases ry;exact eq_bool<|CN I q um
  | str j=>obtain⟨t',rfl⟩:=ry;exact ye<|CN I q<|by simp
  | _=>exact absurd (hs) D0
 | int i=>
  obtain⟨t,rfl⟩:=rx
  cases y with
  | non=>cases ry;exact AAA<|CN I q<|by simp
  | int j=>obtain⟨t',rfl⟩:=ry;exact eq_int<|CN I q ED
  | str j=>obtain⟨t',rfl⟩:=ry;exact zS<|CN I q<|by simp
  | _=>exact absurd (hs) D0
 | str i=>
  obtain⟨t,rfl⟩:=rx
  cases y with
  | non=>cases ry;exact y_<|CN I q<|by simp
  | bl j=>cases ry;exact zI<|CN I q<|by simp
  | int j=>obtain⟨t',rfl⟩:=ry;exact xl<|CN I q<|by simp
  | str j=>obtain⟨t',rfl⟩:=ry;exact eq_str<|CN I q lr
  | _=>exact absurd (hs) D0
 | byt i=>
  obtain⟨t,rfl⟩:=rx
  cases y with
  | byt j=>obtain⟨t',rfl⟩:=ry;exact PySem.W.eq_bytes<|CN I q mw
  | _=>exact absurd (hs) D0
 | _=>cases y<;>exact absurd (hs) D0
theorem Ep:Ul X (HC .NotEq) rNe:=by
 rintro pins s σ H x y v u Q I rx ry ⟨hs,q⟩
 cases x with
 | non=>
  cases rx
  cases y with
  | non=>cases ry;exact yw<|CN I q<|by simp
  | bl j=>cases ry;exact xw<|CN I q<|by simp
  | int j=>obtain⟨t',rfl⟩:=ry;exact x6<|CN I q<|by simp
  | str j=>obtain⟨t',rfl⟩:=ry;exact yk<|CN I q<|by simp
  | _=>exact absurd (hs) D0
 | bl i=>
  cases rx
  cases y with
  | non=>cases ry;exact zU<|CN I q<|by simp
  | bl j=>cases ry;exact ne_bool<|CN I q<|BL not um
  | str j=>obtain⟨t',rfl⟩:=ry;exact yU<|CN I q<|by simp
  | _=>exact absurd (hs) D0
 | int i=>
  obtain⟨t,rfl⟩:=rx
  cases y with
  | non=>cases ry;exact y4<|CN I q<|by simp
  | int j=>obtain⟨t',rfl⟩:=ry;exact ne_int<|CN I q<|BL not ED
  | str j=>obtain⟨t',rfl⟩:=ry;exact yq<|CN I q<|by simp
  | _=>exact absurd (hs) D0
 | str i=>
  obtain⟨t,rfl⟩:=rx
  cases y with
  | non=>cases ry;exact yg<|CN I q<|by simp
  | bl j=>cases ry;exact zC<|CN I q<|by simp
  | int j=>obtain⟨t',rfl⟩:=ry;exact yD<|CN I q<|by simp
  | str j=>obtain⟨t',rfl⟩:=ry;exact ne_str<|CN I q<|BL not lr
  | _=>exact absurd (hs) D0
 | byt i=>
  obtain⟨t,rfl⟩:=rx
  cases y with
  | byt j=>obtain⟨t',rfl⟩:=ry;exact PySem.W.ne_bytes<|CN I q<|BL not mw
  | _=>exact absurd (hs) D0
 | _=>cases y<;>exact absurd (hs) D0
def Dn:Ul X (HC .Lt) (WT fun i j=> .bl<|decide (i<j)):=yx fun _ _ _ _ _ _ _ q=>lt_int q
def IM:Ul X (HC .LtE) (WT fun i j=> .bl<|decide (i<=j)):=yx fun _ _ _ _ _ _ _ q=>le_int q
def DE:Ul X (HC .Gt) (WT fun i j=> .bl<|decide (j<i)):=yx fun _ _ _ _ _ _ _ q=>gt_int q
def U_:Ul X (HC .GtE) (WT fun i j=> .bl<|decide (j<=i)):=yx fun _ _ _ _ _ _ _ q=>ge_int q
def xP(b:Expr)(h:op≠ .In:=by decide)(h2:op≠ .NotIn:=by decide):IX op b=false:=by
 have e1:(op==pT)=false:=by cases op<;>first | rfl | exact absurd rfl h
 have e2:(op==m_)=false:=by cases op<;>first | rfl | exact absurd rfl h2
 cases b<;>simp[IX,e1,e2]
def zM(ho:Ul X (HC op) r)(ha:PE X a ta)(hb:PE X b tb)(hm:IX op b=false):PE X (.Compare a [op] [b] pos) (g5 r ta tb):=
 fun pins s σ H Q I h=>wpAny_Compare1 (ABZ ha hb I h fun v u s2 x y H2 I2 rx ry q=>ho pins s2 σ H2 x y v u Q I2 rx ry q) hm
noncomputable def XY(t:TE):TT:=fun σ H Q=>t σ H fun x H1=>t6 x fun k=>Q k H1
def zw(ho:Ul X (HC op) r)(ha:PE X a ta)(hb:PE X b tb)(hm:IX op b=false):PT X (.Compare a [op] [b] pos) (XY<|g5 r ta tb):=by
 refine fun pins s σ H Q I h=>mx (HI (ha pins s σ H _ I h) fun v s1 x H1 I1 r1 q1=>HI (hb pins s1 σ H1 _ I1 q1) fun u s2 y H2 I2 r2 q2=>
  HI (ho pins s2 σ H2 x y v u _ I2 r1 r2 q2) fun c s3 z H3 I3 r3 q3=>?_) hm
 obtain⟨k,rfl,q3⟩:=t6.ex q3
 cases r3
 exact LX ⟨H3,I3,q3⟩
noncomputable def cY(r r':R2)(ta tb tc:TE):TE:=fun σ H Q=>ta σ H fun x H1=>tb σ H1 fun y H2=>r x y H2 fun z H3=> ∃ k,z= .bl k/\
 (if k=true then tc σ H3 fun w' H4=>r' y w' H4 Q else Q (.bl false) H3)
theorem LH(ho:Ul X (HC op) r)(ho':Ul X (HC op') r')(ha:PE X a ta)(hb:PE X b tb)(hc:PE X c tc)
  (hm:lastMarks [op,op'] [b,c]=false:=by with_unfolding_all rfl):PT X (.Compare a [op,op'] [b,c] pos) (XY<|cY r r' ta tb tc):=by
 refine fun pins s σ H Q I h=>isTrue_chain (HI (ha pins s σ H _ I h) fun v s1 x H1 I1 r1 q1=>test_link (HI (hb pins s1 σ H1 _ I1 q1) fun u s2 y H2 I2 r2 q2=>
  HI (ho pins s2 σ H2 x y v u _ I2 r1 r2 q2) fun d s3 z H3 I3 r3 q_=>?_)) hm
 obtain⟨k,e,q3⟩:=q_
 subst e
 cases r3
 refine LX ?_
 cases k with
 | false=>
  exact ite_ff ⟨H3,I3,q3⟩
 | true=>
  refine ite_tt<|test_last<|HI (hc pins s3 σ H3 _ I3 q3) fun w' s4 z' H4 I4 r4 q4=>HI (ho' pins s4 σ H4 y z' u w' _ I4 r2 r4 q4) fun d' s5 z2 H5 I5 r5 q5=>?_
  obtain⟨k2,rfl,q5⟩:=t6.ex q5
  cases r5
  exact LX ⟨H5,I5,q5⟩
def XZ:(sizeLine:Nat)<2^63:=by rw[dC];decide
theorem vals1(r:Vals [x] us): ∃ u,us= [u]/\RelV x u:=by
 cases r with
 | cons r1 r2=>cases r2;exact⟨_,rfl,r1⟩
theorem vals2(r:Vals [x,y] us): ∃ u w',us= [u,w']/\RelV x u/\RelV y w':=by
 cases r with
 | cons r1 r2=>
  cases r2 with
  | cons r3 r4=>cases r4;exact⟨_,_,rfl,r1,r3⟩
def Hl:Yy X (.builtin "abs") (fun xs H Q=> ∃ i,xs= [.int i]/\Q (.int<|if i<0 then-i else i) H):=by
 rintro pins s σ H xs us Q I r ⟨i,rfl,q⟩
 obtain⟨u,rfl,t,rfl⟩:=vals1 r
 exact call_abs_int fun u tk=>⟨.int<|if i<0 then-i else i,H,I.tok _,⟨_,rfl⟩,q⟩
def tU(hc:X.calm=true):Yy X (.builtin "max") (fun xs H Q=> ∃ i j,xs= [.int i,.int j]/\Q (.int<|if j>i then j else i) H):=by
 rintro pins s σ H xs us Q I r ⟨i,j,rfl,q⟩
 obtain⟨u,w',rfl,⟨t,rfl⟩,t',rfl⟩:=vals2 r
 refine max_two_ints (I.ok.hd hc) fun h' tk k=>⟨_,H,I.kept k,?_,q⟩
 by_cases hj:j>i
 ·rw[AI hj,AI hj];exact⟨_,rfl⟩
 ·rw[AG hj,AG hj];exact⟨_,rfl⟩
def rP(hc:X.calm=true):Yy X (.builtin "min") (fun xs H Q=> ∃ i j,xs= [.int i,.int j]/\Q (.int<|if j<i then j else i) H):=by
 rintro pins s σ H xs us Q I r ⟨i,j,rfl,q⟩
 obtain⟨u,w',rfl,⟨t,rfl⟩,t',rfl⟩:=vals2 r
 refine min_two_ints (I.ok.hd hc) fun h' tk k=>⟨_,H,I.kept k,?_,q⟩
 by_cases hj:j<i
 ·rw[AI hj,AI hj];exact⟨_,rfl⟩
 ·rw[AG hj,AG hj];exact⟨_,rfl⟩
end
end L2
namespace L2
open PySem PySem.Spec PyProof.Rows
structure lN(h:Az)(x dx C:AK)(mA:Str->Option AN):Prop where
 obj:h.get? x=some (J4 C dx)
 ns:h.Ns1 dx mA
 ne:dx≠x
def rj{h:Az}(n:h.Ns1 dx mA): ∃ od,h.get? dx=some od/\ ∀ name,WM name od=some (mA name):=by
 obtain⟨o,es,ep,ho,hd,hk,_,hm⟩:=n
 refine⟨o,ho,fun name=>?_⟩
 have e:=hm name
 unfold Oc findBy at e
 rw[<-Array.find?_toList]at e
 unfold WM
 rw[hd]
 dsimp only
 split
 ·rename_i y q
  rw[q]at e
  exact BL some e
 ·rename_i q
  rw[q]at e
  have a:es.toList.any (·.refKey)=false:=by
   rw[b_]
   intro y hy
   obtain⟨z,t,hkey⟩:=hk y<|mK.mp hy
   simp[yj,hkey]
  have a': ¬ es.toList.any (·.refKey)=true:=by rw[a];exact D0
  rw[AG a']
  exact BL some e
def lN.look(I:lN h x dx C mA): ∃ od,PySem.W.InstAt h x (J4 C dx) C (some od)/\ ∀ name,WM name od=some (mA name):=
 let⟨od,ho,hl⟩:=rj I.ns
 ⟨od,⟨I.obj,rfl,rfl,ho⟩,hl⟩
section
variable{prog:BH}{w:Ao}{A:Dh}{E:AN->Ay->Prop}{s:Ay}{K:AS}{x dx C f:AK}{mA:Str->Option AN}{name:Str}{v:AN}
def get_map(X:K.In s.heap)(I:lN s.heap x dx C mA)(hg:RQ K C name=true)(hh:XB K C=true)
  (ha:C9 K (.ref C) name=some none) (hv:mA name=some v) (hv':O2 v=true) (h:Q v {s with toks:=s.toks+1}):
  Aw (Ai prog w) A (TX (.ref x) name expr) Q E s:=by
 obtain⟨od,J,hl⟩:=I.look
 exact PySem.W.get_value X J (fK hg).1 (PySem.W.findObj_own hh ha rfl<|by rw[hl,hv]) hv' h
def vn(X:K.In s.heap)(I:lN s.heap x dx C mA)(hg:RQ K C name=true)
  (hf:C9 K (.ref C) name=some (some<|.ref f)) (ht:V5 K (.ref f)=true) (hv:mA name=none) (h:Q (.ref f,[.ref x]) s):
  Aw (Ai prog w) A (KG (.ref x) name pl) Q E s:=by
 obtain⟨od,J,hl⟩:=I.look
 exact PySem.W.method_fn X J (fK hg).1 (fK hg).2 hf (Fn.mp ht) (by show(WM name od).map (·.isSome)=some false;rw[hl,hv];rfl) h
def yK(X:K.In s.heap)(I:lN s.heap x dx C mA)
  (hs:C9 K (.ref C) "__setattr__"=some (some<|.builtin "object.__setattr__")) (hp:fL K C=true) (ht:cU K C name=some none) (hh:XB K C=true)
  (hw:fW mA ns) (hsz:ns.length<=sizeLine)
  (h: ∀ h',lN h' x dx C (fun y=>if y=name then some v else mA y)->SD dx s.heap h'->Q () {s with heap:=h',toks:=s.toks+2}):
  Aw (Ai prog w) A (fP (.ref x) name v) Q E s:=by
 obtain⟨od,J,hl⟩:=I.look
 refine PySem.W.set_plain X J hs<|PySem.W.osa_open X J hp ht fun b=>?_
 obtain⟨cd,hc,hd'⟩:=PySem.W.any_some hh
 refine BP<|Cp<|BP<|BP<|wpAny_loadPart I.obj<|BP<|yP (PySem.W.looks_clsIn X hc) ?_
 rw[hd']
 refine Cp<|BP<|Cp<|BP<|qD I.ns fun h' hn2 hs2=>?_
 obtain⟨oD,esD,epD,hoD,hdD,hcD⟩:=hn2.count<|qz name v hw
 exact BP<|o5 hoD (by rw[hdD];exact pR<|CC hcD<|by rw[G4];lia)<|Cp<|h _ ⟨(hs2.2 _<|Ea I.ne).trans I.obj,hn2,I.ne⟩ hs2
def uK(X:K.In s.heap)(hm:Vv K C=true)
  (hi:C9 K (.ref C) "__init__"=some (some<|.ref f)) (hf:cG K (.ref f)=some (.type "function"))
  (h:GN (Ai prog w) (A.under<|.builtin "type.__call__" ⟨.ref C::vs,kw⟩) (.call (.ref f) ⟨.ref (s.heap.objs.size+1)::vs,kw⟩) (rJ (s.heap.objs.size+1) R)
   {s with heap:=(s.heap.push Ia).push<|J4 C s.heap.objs.size}):
  GN (Ai prog w) A (.call (.ref C) ⟨vs,kw⟩) R s:=by
 obtain⟨hh,g,d,t,os⟩:=s
 exact PySem.W.make_core (PySem.W.makes_of X hm) (rE X hi) (fun self=>qa X self hf) (.inl rfl) h
end
noncomputable def DJ(f:Str)(v:V):List (Str×V)->List (Str×V)
 | []=> [(f,v)]
 |(g,x)::r=>if g=f then(g,v)::r else(g,x)::DJ f v r
theorem Uu(f g:Str)(v:V): ∀ fs:List (Str×V),(DJ f v fs).lookup g=if g=f then some v else fs.lookup g
 | []=>by
  show IZ g [(f,v)]=_
  by_cases h:g=f
  ·have hb:(g==f)=true:=Fn.mpr h
   simp only[IZ,hb,AI h]
  ·have hb:(g==f)=false:=Jt.mpr h
   simp only[IZ,hb,AG h]
 |(k,x)::r=>by
  have ih:=Uu f g v r
  rw[show DJ f v ((k,x)::r)=(if k=f then(k,v)::r else(k,x)::DJ f v r)from rfl]
  by_cases hk:k=f
  ·rw[AI hk]
   by_cases h:g=k
   ·have hb:(g==k)=true:=Fn.mpr h
    simp only[IZ,hb,AI<|h.trans hk]
   ·have hb:(g==k)=false:=Jt.mpr h
    simp only[IZ,hb,AG fun e:g=f=>h<|e.trans hk.symm]
  ·rw[AG hk]
   by_cases h:g=k
   ·have hb:(g==k)=true:=Fn.mpr h
    simp only[IZ,hb,AG fun e:g=f=>hk<|h.symm.trans e]
   ·have hb:(g==k)=false:=Jt.mpr h
    simp only[IZ,hb]
    exact ih
theorem UW(f:Str)(v:V): ∀ fs:List (Str×V),f∈(DJ f v fs).map (·.1)/\ ∀ g,g∈fs.map (·.1)->g∈(DJ f v fs).map (·.1)
 | []=>⟨by simp[DJ],fun g h=>by simp at h⟩
 |(k,x)::r=>by
  obtain⟨i1,i2⟩:=UW f v r
  rw[show DJ f v ((k,x)::r)=(if k=f then(k,v)::r else(k,x)::DJ f v r)from rfl]
  by_cases hk:k=f
  ·rw[AI hk]
   subst hk
   exact⟨by simp,fun g h=>by simpa using h⟩
  ·rw[AG hk]
   refine⟨?_,fun g h=>?_⟩
   ·rw[GY]
    exact Cz _ i1
   ·rw[GY]at h ⊢
    rcases Ce.mp h with e | e
    ·exact Ce.mpr<|.inl e
    ·exact Cz _<|i2 g e
theorem U9(f:Str)(v:V): ∀ fs:List (Str×V),(DJ f v fs).length<=fs.length+1
 | []=>by simp[DJ]
 |(k,x)::r=>by
  have ih:=U9 f v r
  rw[show DJ f v ((k,x)::r)=(if k=f then(k,v)::r else(k,x)::DJ f v r)from rfl]
  by_cases hk:k=f
  ·rw[AI hk,G4,G4];lia
  ·rw[AG hk,G4,G4];lia
theorem Pk.some_of(r:Pk (some v) o): ∃ u,o=some u/\RelV v u:=by
 cases o with
 | none=>exact(r).elim
 | some u=>exact⟨u,rfl,r⟩
theorem Pk.none_of(r:Pk none o):o=none:=by
 cases o with
 | none=>rfl
 | some u=>exact(r).elim
theorem sg(r:RelV v u):O2 u=true:=by
 cases v with
 | non=>cases (r);rfl
 | bl b=>cases (r);rfl
 | int i=>obtain⟨t,e⟩:=(r);cases e;rfl
 | str x=>obtain⟨t,e⟩:=(r);cases e;rfl
 | byt b=>obtain⟨t,e⟩:=(r);cases e;rfl
 | flt b=>obtain⟨t,e⟩:=(r);cases e;rfl
 | ref a=>cases (r);rfl
 | ty n=>cases (r);rfl
section
variable{P:BH}{w:Ao}{H H':Hp}{h h':Az}{a C dx:AK}{fs fs':List (Str×V)}
def fQ(C0:NG P w H h)(e:H a=some (.ins C dx fs)): ∃ mA,lN h a dx C mA/\(∀ f,Pk (fs.lookup f)<|mA f)/\fW mA (fs.map (·.1))/\fs.length<=1000/\H dx=some (.own a):=by
 obtain⟨d,z,ne,ob,mA,n,r,q⟩:=(C0 a _ e)
 exact⟨mA,⟨ob,n,ne⟩,r,q,z,d⟩
end
structure ao(K:AS)(C:AK):Prop where
 pg:RQ K C Od=true
 hd:XB K C=true
 po:fL K C=true
 sa:C9 K (.ref C) "__setattr__"=some (some (.builtin "object.__setattr__"))
def ao.get{K:AS}(c:ao K C)(f:Str):RQ K C f=true:=c.pg
noncomputable def YD(K:AS)(C:AK)(f:Str):Prop:=C9 K (.ref C) f=some none
def YD.AE3{K:AS}(n:YD K C f):cU K C f=some none:=by
 unfold cU
 rw[show C9 K (.ref C) f=some none from n]
 rfl
structure Meth(K:AS)(C:AK)(m:Str)(f:AK):Prop where
 at_:C9 K (.ref C) m=some (some (.ref f))
 fn:V5 K (.ref f)=true
 kp:FW K (.ref f)=true
section
variable{X:Cx}{pins:List (AK×Obj)}{σ:St}{H:Hp}{s:Ay}{a C dx:AK}{fs:List (Str×V)}{f:Str}{v:V}{A:Dh}{E:AN->Ay->Prop}
def X7{b:Bool}(I:Inv X pins σ H s)(e:H a=some (.ins C dx fs))(c:ao X.K C)(n:YD X.K C f)(l:fs.lookup f=some v)
  (h: ∀ u s',Inv X pins σ H s'->RelV v u->Q u s'):Aw (Ai X.prog X.w) A (TX (.ref a) f b) Q E s:=by
 obtain⟨mA,O,r,_,_,_⟩:=fQ I.C0 e
 obtain⟨u,hu,ru⟩:=Pk.some_of<|by rw[<-l];exact r f
 exact get_map I.QQ O (c.get f) c.hd n hu (sg ru)<|h u _ (I.tok _) ru
def RF{m:Str}(I:Inv X pins σ H s)(e:H a=some (.ins C dx fs))(c:ao X.K C)(k:Meth X.K C m g)(l:fs.lookup m=none)
  (h:Q (.ref g,[.ref a]) s):Aw (Ai X.prog X.w) A (KG (.ref a) m pl) Q E s:=by
 obtain⟨mA,O,r,_,_,_⟩:=fQ I.C0 e
 exact vn I.QQ O (c.get m) k.at_ k.fn (Pk.none_of<|by rw[<-l];exact r m) h
def YC{y:V}(I:Inv X pins σ H s)(e:H a=some (.ins C dx fs))(c:ao X.K C)(n:YD X.K C f)(hl:fs.length<1000)(ry:RelV y u)
  (h: ∀ s',Inv X pins σ (upd H a<|.ins C dx<|DJ f y fs) s'->Q () s'):Aw (Ai X.prog X.w) A (fP (.ref a) f u) Q E s:=by
 obtain⟨mA,O,r,wi,_,ho⟩:=fQ I.C0 e
 have hz:(fs.map (·.1)).length<=sizeLine:=by rw[A8,dC];lia
 refine yK I.QQ O c.sa c.po n.AE3 c.hd wi hz fun h' O' sb=>h _ ?_
 have hd: ∃ o,h'.get? dx=some o:=let⟨o,_,_,e',_⟩:=O'.ns;⟨o,e'⟩
 refine I.write (by rw[e];exact IU) (.inr ho) (fun b q hb z=>(sb.2 b hb).trans z) hd<|⟨by rw[AQ O.ne];exact ho,?_,O.ne,O'.obj,_,O'.ns,fun g=>?_,fun g hg=>?_⟩
 ·have:=U9 f y fs;lia
 ·rw[Uu]
  by_cases q:g=f
  ·rw[AI q,AI q];exact ry
  ·rw[AG q,AG q];exact r g
 ·by_cases q:g=f
  ·rw[q];exact(UW f y fs).1
  ·refine(UW f y fs).2 g (wi g fun z=>hg ?_)
   show(if g=f then some u else mA g)=none
   rw[AG q];exact z
def Inv.made(I:Inv X pins σ H s):Inv X pins σ (upd (upd H s.heap.objs.size<|.own<|s.heap.objs.size+1) (s.heap.objs.size+1)<|.ins C s.heap.objs.size [])
  {s with heap:=(s.heap.push Ia).push<|J4 C s.heap.objs.size}:=by
 have e1:(s.heap.push Ia).get? s.heap.objs.size=some Ia:=IF s.heap rfl
 have e2:((s.heap.push Ia).push<|J4 C s.heap.objs.size).get? (s.heap.objs.size+1)=some (J4 C s.heap.objs.size):=by
  have:=IF (s.heap.push Ia) (o:=J4 C s.heap.objs.size) rfl
  rwa[HD]at this
 have e3:(s.heap.push Ia).Ns s.heap.objs.size (fun _=>none):=⟨Ia,#[],_,e1,rfl,(fun e he=>absurd he<|by simp),fun _=>rfl⟩
 have I1:=I.laid (a:=s.heap.objs.size) (o:= .own<|s.heap.objs.size+1) (h':=s.heap.push Ia) (t':=s.toks) (fun b u q=>CP _ q) (BS _) ⟨_,e1⟩
 refine I1.laid (fun b u q=>CP _ q) (W4<|HD _ _) ?_
 have ne:s.heap.objs.size≠s.heap.objs.size+1:=DN<|PD _
 refine⟨by rw[AQ ne,AJ],B6 _,ne,e2,fun _=>none,(p7 e3).at fun o q=>CP _ q,fun _=>IU,fun y hy=>absurd rfl hy⟩
def pA(hb:KQ e f env (eval e env)=eval e env)
  (h:Aw (Ai prog w) A (eval e env) (fun o s₁=>Aw (Ai prog w) A (TX o f true) Q E s₁) E s):Aw (Ai prog w) A (eval (.Attribute e f pos) env) Q E s:=
 Attribute_any_ h (by rw[arm_eval_Attribute,hb])
end
structure FA(K:AS)(C:AK)(f:Str):Prop where
 c:ao K C
 n:YD K C f
inductive ABS(K:AS)(f:Str)(a:AK)(H:Hp)(N:AK->V->Prop):Prop
 | mk {C dx:AK} {fs:List (Str×V)} {v:V}:H a=some (.ins C dx fs)->FA K C f->fs.lookup f=some v->N C v->ABS K f a H N
noncomputable def vt(K:AS)(ta:TE)(f:Str):TE:=fun σ H Q=>ta σ H fun x H1=>QK x fun a=>ABS K f a H1 fun _ v=>Q v H1
inductive AAn(K:AS)(f:Str)(y:V)(a:AK)(H:Hp)(N:Hp->Prop):Prop
 | mk {C dx:AK} {fs:List (Str×V)}:H a=some (.ins C dx fs)->FA K C f->fs.length<1000->N (upd H a (.ins C dx (DJ f y fs)))->AAn K f y a H N
noncomputable def ADl(K:AS)(ta tv:TE)(f:Str):TS:=fun D σ H=>tv σ H fun y H1=>ta σ H1 fun x H2=>QK x fun a=>AAn K f y a H2 fun H3=>D.nx σ H3
noncomputable def ABf(X:Cx)(op:Operator)(rd:V->V->Hp->VK->Prop):Prop:=
 ∀(pins:List (AK×Obj)) s (σ:St) H x y u v Q,Inv X pins σ H s->RelV x u->RelV y v->rd x y H Q->Aw (Ai X.prog X.w) X.A (bO op u v) (EP X pins σ Q) X.xe s
inductive AE0(C a:AK)(f:Str)(z:V)(H:Hp)(N:Hp->Prop):Prop
 | mk {dx:AK} {fs:List (Str×V)}:H a=some (.ins C dx fs)->fs.length<1000->N (upd H a (.ins C dx (DJ f z fs)))->AE0 C a f z H N
noncomputable def xt(K:AS)(ta tv:TE)(rd:V->V->Hp->VK->Prop)(f:Str):TS:=fun D σ H=>ta σ H fun x H1=>QK x fun a=>ABS K f a H1 fun C v=>
 tv σ H1 fun y H2=>rd v y H2 fun z H3=>AE0 C a f z H3 fun H4=>D.nx σ H4
section
variable{X:Cx}{o e value:Expr}{f:Str}{pos pos' tpos:Pos}{ta tv:TE}
def cV(he:PE X e ta)(hb:KQ e f X.env (eval e X.env)=eval e X.env):PE X (.Attribute e f pos) (vt X.K ta f):=by
 refine fun pins s σ H Q I h=>pA hb<|HI (he pins s σ H _ I h) fun u s1 x H1 I1 rx qq=>?_
 obtain⟨a,rfl,@⟨C,dx,fs,v,ea,⟨c,n⟩,l,q⟩⟩:=QK.ex qq
 obtain rfl:u=CY a:=rx
 exact X7 I1 ea c n l fun u' s2 I2 ru=>⟨v,H1,I2,ru,q⟩
def AB_(ha:PE X o ta)(hv:PE X value tv)(hs:Fp value (some<|.Attribute o f pos') pos.line X.env=CB false):PS X (.Assign [.Attribute o f pos'] value pos) (ADl X.K ta tv f):=by
 refine fun pins s σ H D I h=>nR (HI (hv pins s σ H _ I h) fun u s1 y H1 I1 ry q=>HI (ha pins s1 σ H1 _ I1 q) fun ov s2 x H2 I2 rx qq=>?_) hs
 obtain⟨a,rfl,@⟨C,dx,fs,ea,⟨c,n⟩,l,q2⟩⟩:=QK.ex qq
 obtain rfl:ov=CY a:=rx
 exact YC I2 ea c n l ry fun s3 I3=>⟨σ,_,I3,q2⟩
def OU(ha:PE X o ta)(hv:PE X value tv)(hop:ABf X op rd):PS X (.AugAssign (.Attribute o f tpos) op value pos) (xt X.K ta tv rd f):=by
 refine fun pins s σ H D I h=>wpAny_AugAssign_AttributeAny<|HI (ha pins s σ H _ I h) fun ov s1 x H1 I1 rx qq=>?_
 obtain⟨a,rfl,@⟨C,dx,fs,v,ea,⟨c,n⟩,l,q⟩⟩:=QK.ex qq
 obtain rfl:ov=CY a:=rx
 refine X7 I1 ea c n l fun u s2 I2 ru=>HI (hv pins s2 σ H1 _ I2 q) fun w3 s3 y H2 I3 ry q3=>HI (hop pins s3 σ H2 v y u w3 _ I3 ru ry q3) fun w4 s4 z H3 I4 rz q0=>?_
 obtain @⟨dx',fs',ea',l',q4⟩:=q0
 exact YC I4 ea' c n l' rz fun s5 I5=>⟨σ,_,I5,q4⟩
noncomputable def AFI:V->V->Hp->VK->Prop:=fun x y H Q=> ∃ i j,x= .int i/\y= .int j/\Q (.int<|i+j) H
noncomputable def AFD:V->V->Hp->VK->Prop:=fun x y H Q=> ∃ i j,x= .int i/\y= .int j/\Q (.int<|i-j) H
def jb:ABf X .Add AFI:=by
 rintro pins s σ H x y u v Q I rx ry ⟨i,j,rfl,rfl,q⟩
 obtain⟨t,rfl⟩:=(rx)
 obtain⟨t',rfl⟩:=(ry)
 exact nZ ⟨.int<|i+j,H,I.tok _,⟨_,rfl⟩,q⟩
def ACx:ABf X .Sub AFD:=by
 rintro pins s σ H x y u v Q I rx ry ⟨i,j,rfl,rfl,q⟩
 obtain⟨t,rfl⟩:=(rx)
 obtain⟨t',rfl⟩:=(ry)
 exact mP ⟨.int<|i-j,H,I.tok _,⟨_,rfl⟩,q⟩
def AAY{pl:Sem Bool}{σ:St}(he:PE X e te)(I:Inv X pins σ H s)
  (h:te σ H fun x H1=> ∃ a C dx fs g,x= .ref a/\H1 a=some (.ins C dx fs)/\ao X.K C/\Meth X.K C m g/\fs.lookup m=none/\
   ∀ s1,Inv X pins σ H1 s1->Aw (Ai X.prog X.w) X.A (MU pos (.ref g) [.ref a] (Cn pos<|Au args X.env)<|Ii pos<|IW [] X.env) Q X.xe s1)
  (ht:eval (.Call (.Attribute e m apos) args [] pos) X.env=(do
   let ov <-eval e X.env
   Jv apos.atName
   let(f,first) <-HY [ov] (KG ov m pl)
   MU pos f first (Cn pos<|Au args X.env) (Ii pos<|IW [] X.env))):
  Aw (Ai X.prog X.w) X.A (eval (.Call (.Attribute e m apos) args [] pos) X.env) Q X.xe s:=by
 refine XF (HI (he pins s σ H _ I h) fun u s1 x H1 I1 rx q_=>?_) ht
 obtain⟨a,C,dx,fs,g,ex,ea,c,k,l,q⟩:=q_
 subst ex
 obtain rfl:u=CY a:=rx
 exact RF I1 ea c k l<|q s1 I1
end
end L2
namespace L2
open PySem PySem.Spec PyProof.Rows
structure D_(k:Nat)(A:Dh):Prop where
 hd:A.handled=none
 dp:A.depth+3*k+5<rA
 un:A.units+16*k+200<L6
def D_.mono(r:D_ k A)(h:j<=k):D_ j A:=⟨r.hd,by have:=r.dp;lia,by have:=r.un;lia⟩
def D_.deeper(r:D_ (k+1) A)(env:Env):D_ k (A.deeper env):=
 ⟨r.hd,by have:=r.dp;show A.depth+1+3*k+5<_;lia,by have:=r.un;show A.units+3+16*k+200<_;lia⟩
def kS{A:Dh}:(A.under<|.builtin "type.__call__" ⟨.ref C::us,kw⟩).depth=A.depth+1:=by
 first | rfl | simp[eK,Code.weight,Code.isCreation,Code.isGuard,Code.isCaller,mh,dY,guardIds]
def kY{A:Dh}:(A.under<|.builtin "type.__call__" ⟨.ref C::us,kw⟩).units=A.units+1:=by
 first | rfl | simp[eK,Code.cUnits,mh,dY]
def D_.make(r:D_ (k+1) A)(C:AK)(us:List AN)(kw:List (Str×AN)):D_ k (A.under<|.builtin "type.__call__" ⟨.ref C::us,kw⟩):=
 ⟨r.hd,by have:=r.dp;rw[kS];lia,by have:=r.un;rw[kY];lia⟩
def D_.depth(r:D_ k A):A.depth<rA:=by have:=r.dp;lia
def D_.units(r:D_ k A):A.units+64<L6:=by have:=r.un;lia
noncomputable def UC:TA:=fun _ H Q=>Q [] H
noncomputable def KH(ta:TE)(tr:TA):TA:=fun σ H Q=>ta σ H fun x H1=>tr σ H1 fun xs H2=>Q (x::xs) H2
section
variable{X:Cx}{e:Expr}{es:List Expr}{te:TE}{t:TA}{pos:Pos}
def Es:PA X [] UC:=fun _ _ _ _ H Q I h=>cQ ⟨[],H,I,.nil,h⟩
def Cs(ha:PE X e te)(hr:PA X es t)(hs:Au (e::es) X.env=(false,eval e X.env)::Au es X.env:=by rfl):PA X (e::es) (KH te t):=by
 intro pos pins s σ H Q I h
 rw[hs]
 exact fC<|HI (ha pins s σ H _ I h) fun u s1 x H1 I1 r1 q1=>j_ (hr pos pins s1 σ H1 _ I1 q1) fun us s2 xs H2 I2 r2 q2=>⟨x::xs,H2,I2,.cons r1 r2,q2⟩
noncomputable def AFa(t:TA):TE:=fun σ H Q=>t σ H fun xs H1=>xs.length<=sizeLine/\ ∀ p,H1 p=none->Q (.ref p) (upd H1 p<|.tup xs)
noncomputable def AFb(t:TA):TE:=fun σ H Q=>t σ H fun xs H1=>xs.length<=sizeLine/\ ∀ p,H1 p=none->Q (.ref p) (upd H1 p<|.lst xs)
def Iy(h:PA X es t):PE X (.Tuple es x1 pos) (AFa t):=by
 refine fun pins s σ H Q I hq=>wpAny_Tuple_spliced<|j_ (h pos pins s σ H _ I hq) fun us s1 xs H1 I1 r ⟨z,q⟩=>⟨by rw[<-r.length];exact z,?_⟩
 refine⟨.ref s1.heap.objs.size,upd H1 s1.heap.objs.size<|.tup xs,I1.laid (fun b u e=>CP _ e) (BS _) ?_,rfl,q _<|I1.C0.fresh<|BS _⟩
 exact⟨z,us,r,_,IF _ rfl,rfl,_,rfl⟩
def Ba(h:PA X es t):PE X (.List es pos) (AFb t):=by
 refine fun pins s σ H Q I hq=>wpAny_List_spliced<|j_ (h pos pins s σ H _ I hq) fun us s1 xs H1 I1 r ⟨z,q⟩=>⟨by rw[<-r.length];exact z,?_⟩
 refine⟨.ref s1.heap.objs.size,upd H1 s1.heap.objs.size<|.lst xs,I1.laid (fun b u e=>CP _ e) (BS _) ?_,rfl,q _<|I1.C0.fresh<|BS _⟩
 exact⟨z,us,0,r,IF _ rfl⟩
end
noncomputable abbrev Sp:=List V->Hp->VK->XK->Prop
noncomputable abbrev xa:=List Env->Hp->Ay->XK->AN->Ay->Prop
structure km(P:BH)(w:Ao)(K:AS)(mg:Str->Option AN)(base:Az)(A:Dh)(outer:List Env)(s:Ay)(H:Hp):Prop where
 frames:A.frames=some outer
 mod:Mod K mg base
 bs: ∀ b o,base.get? b=some o->s.heap.get? b=some o/\H b=none
 t8:base.objs.size<=s.heap.objs.size
 funs:s.heap.FunFrames base outer
 zJ: ∀ b∈CL outer,H b=none
 C0:NG P w H s.heap
 bare:Jr s.gens
noncomputable def CE(outer:List Env)(P:BH)(w:Ao)(H:Hp)(s:Ay)(Q:VK)(u:AN)(s':Ay):Prop:=
 ∃ v H',s'.os=s.os/\Jr s'.gens/\Un (CL outer) [] H H' s.heap s'.heap/\NG P w H' s'.heap/\RelV v u/\Q v H'
noncomputable def CR(CX:xa)(outer:List Env)(P:BH)(w:Ao)(H:Hp)(s:Ay)(Q:VK)(E:XK)(r:Result)(s':Ay):Prop:=
 match r with
 | .ok (.ret u)=>CE outer P w H s Q u s'
 | .ok _=>False
 | .error e=>CX outer H s E e s'
structure ET(P:BH)(w:Ao)(K:AS)(mg:Str->Option AN)(base:Az)(CX:xa)(k:Nat)(f:AK)(fd:FU)(ps:List Str)(sp:Sp):Prop where
 len: ∀ vs H Q E,sp vs H Q E->vs.length=ps.length
 run: ∀ A outer s H args us vs Q E,D_ k A->km P w K mg base A outer s H->SK s fd args (ps.zip us)->Vals vs us->sp vs H Q E->
  GN (Ai P w) A (.call (.ref f) args) (CR CX outer P w H s Q E) s
def ET.imp{K:AS}(F:ET P w K mg base CX k f fd ps sp)
  (h: ∀ vs H Q E,sp' vs H Q E->sp vs H Q E):ET P w K mg base CX k f fd ps sp':=
 ⟨fun vs H Q E q=>F.len vs H Q E<|h _ _ _ _ q,fun A outer s H args us vs Q E hr he hb hv hs=>F.run A outer s H args us vs Q E hr he hb hv<|h _ _ _ _ hs⟩
def km.make{K:AS}(e:km P w K mg base A outer s H)(C:AK)(us:List AN)(kw:List (Str×AN)):
  km P w K mg base (A.under<|.builtin "type.__call__" ⟨.ref C::us,kw⟩) outer s H:=⟨by first | exact e.frames |(simpa[eK,Code.envs,dY,pushEnvs]using e.frames),e.mod,e.bs,e.t8,e.funs,e.zJ,e.C0,e.bare⟩
section
variable{X:Cx}{pins:List (AK×Obj)}{σ:St}{H:Hp}{s s':Ay}
def Inv.y8(I:Inv X pins σ H s):km X.prog X.w X.K X.mg X.base X.A X.stack s H:=
 ⟨I.ok.frames,I.ok.mod,I.bs,CC I.ok.t8 I.sz,I.stack,I.We,I.C0,I.bare⟩
def Inv.after{Q:VK}(I:Inv X pins σ H s)(h:CE X.stack X.prog X.w H s Q u s'):EP X pins σ Q u s':=by
 obtain⟨v,H',os,bare,un,C0,r,q⟩:=h
 obtain⟨hh,g,d,t,os'⟩:=s'
 obtain rfl:os'=s.os:=os
 exact⟨v,H',I.call un C0 bare fun b z=>absurd z<|by simp,r,q⟩
end
noncomputable def AAy(sp:Sp)(dvs:List V)(E:XK)(t:TA):TE:=fun σ H Q=>t σ H fun vs H1=>sp (vs++dvs) H1 Q E
inductive AA2(C:AK)(m:Str)(a:AK)(H:Hp)(N:Prop):Prop
 | mk {dx:AK} {fs:List (Str×V)}:H a=some (.ins C dx fs)->fs.lookup m=none->N->AA2 C m a H N
noncomputable def oz(C:AK)(m:Str)(sp:Sp)(dvs:List V)(E:XK)(ta:TE)(t:TA):TE:=fun σ H Q=>ta σ H fun x H1=>QK x fun a=>AA2 C m a H1<|
 t σ H1 fun vs H2=>sp (.ref a::(vs++dvs)) H2 Q E
noncomputable def AAj(C:AK)(sp:Sp)(dvs:List V)(E:XK)(t:TA):TE:=fun σ H Q=>t σ H fun vs H1=> ∀ x dx,H1 x=none->H1 dx=none->dx≠x->
 sp (.ref x::(vs++dvs)) (upd (upd H1 dx<|.own x) x<|.ins C dx []) (fun v H2=>v= .non/\Q (.ref x) H2) E
noncomputable def Binds(K:AS)(fd:FU)(ps:List Str)(ds:List AN):Prop:=
 ∀ s us,K.In s.heap->(us++ds).length=ps.length->SK s fd ⟨us,[]⟩ (ps.zip<|us++ds)
def Binds.all{K:AS}(h: ∀ us,us.length=ps.length->eB fd ⟨us,[]⟩=CB (ps.zip us)):Binds K fd ps []:=fun s us _ hl=>by
 rw[OX]at hl ⊢
 exact .of_eq<|h us hl
noncomputable def Passes(CX:xa)(X:Cx)(E:XK):Prop:= ∀(pins:List (AK×Obj)) (σ:St) H s e s',Inv X pins σ H s->CX X.stack H s E e s'->X.xe e s'
section
variable{X:Cx}{CX:xa}{k:Nat}{f C:AK}{fd:FU}{ps:List Str}{sp:Sp}{dvs:List V}{ds:List AN}{E:XK}{x m:Str}{p pos apos:Pos}{e o:Expr}{es:List Expr}{ta:TE}{t:TA}
theorem Yp{pins:List (AK×Obj)}{σ:St}(F:ET X.prog X.w X.K X.mg X.base CX k f fd ps sp)(hr:D_ k X.A)(hb:Binds X.K fd ps ds)(hd:Vals dvs ds)(hx:Passes CX X E)
  (I:Inv X pins σ H s) (r:Vals vs us) (h:sp (vs++dvs) H Q E):Aw (Ai X.prog X.w) X.A (call (.ref f) us) (EP X pins σ Q) X.xe s:=by
 have r2:=r.append hd
 have hl:(us++ds).length=ps.length:=by rw[<-r2.length];exact F.len _ _ _ _ h
 refine Of<|La (F.run X.A X.stack s H ⟨us,[]⟩ (us++ds) (vs++dvs) Q E hr I.y8 (hb s us I.QQ hl) r2 h) fun r s' hq=>?_
 cases r with
 | error e=>exact hx pins σ H s e s' I hq
 | ok fl=>
  cases fl with
  | ret u=>exact I.after hq
  | next=>exact DM hq
  | brk=>exact DM hq
  | cont=>exact DM hq
def xu(F:ET X.prog X.w X.K X.mg X.base CX k f fd ps sp)(hr:D_ k X.A)(hg:Gl X x)(hm:X.mg x=some (.ref f))(hk:FW X.K (.ref f)=true)(hb:Binds X.K fd ps ds)(hd:Vals dvs ds)(hx:Passes CX X E)
  (ha:PA X (e::es) t) (hdb:(x==("__debug__":Str))=false:=by decide) (he:Au (e::es) X.env=(false,eval e X.env)::Au es X.env:=by rfl) (hpl:(Cn pos<|Au es X.env).any (·.1)=false:=by rfl):
  PE X (.Call (.Name x p) (e::es) [] pos) (AAy sp dvs E t):=by
 refine fun pins s σ H Q I h=>Jk<|Lw I hg hm ?_ hdb
 refine MB I.ok.mod.xg hk (j_ (ha pos pins s σ H _ I h) fun us s1 vs H1 I1 r q=>⟨I1.QQ,?_⟩) he hpl
 exact Yp F hr hb hd hx I1 r q
def y6{pl:Sem Bool}(he:PE X o ta)(c:ao X.K C)(hm:Meth X.K C m f)(F:ET X.prog X.w X.K X.mg X.base CX k f fd ps sp)(hr:D_ k X.A)(hb:Binds X.K fd ps ds)(hd:Vals dvs ds)(hx:Passes CX X E)(ha:PA X (e::es) t)
  (hst:Au (e::es) X.env=(false,eval e X.env)::Au es X.env:=by rfl) (hpl:(Cn pos<|Au es X.env).any (·.1)=false:=by rfl)
  (ht:eval (.Call (.Attribute o m apos) (e::es) [] pos) X.env=(do
   let ov <-eval o X.env
   Jv apos.atName
   let(f,first) <-HY [ov] (KG ov m pl)
   MU pos f first (Cn pos<|Au (e::es) X.env) (Ii pos<|IW [] X.env)):=by rfl):
  PE X (.Call (.Attribute o m apos) (e::es) [] pos) (oz C m sp dvs E ta t):=by
 refine fun pins s σ H Q I h=>XF (HI (he pins s σ H _ I h) fun u s1 x H1 I1 rx qq=>?_) ht
 obtain⟨a,rfl,@⟨dx,fs,ea,l,q⟩⟩:=QK.ex qq
 obtain rfl:u=CY a:=rx
 refine RF I1 ea c hm l<|MB I.ok.mod.xg hm.kp (j_ (ha pos pins s1 σ H1 _ I1 q) fun us s2 vs H2 I2 r q2=>⟨I2.QQ,?_⟩) hst hpl
 exact Yp (us:= .ref a::us) (vs:= .ref a::vs) F hr hb hd hx I2 (.cons rfl r) q2
def xF(he:PE X o ta)(c:ao X.K C)(hm:Meth X.K C m f)(F:ET X.prog X.w X.K X.mg X.base CX k f fd ps sp)(hr:D_ k X.A)(hb:Binds X.K fd ps ds)(hd:Vals dvs ds)(hx:Passes CX X E)
  (ht:eval (.Call (.Attribute o m apos) [] [] pos) X.env=(do
   let ov <-eval o X.env
   Jv apos.atName
   let(f,first) <-HY [ov] (KG ov m pl)
   MU pos f first (Cn pos<|Au [] X.env) (Ii pos<|IW [] X.env)):=by rfl):
  PE X (.Call (.Attribute o m apos) [] [] pos) (oz C m sp dvs E ta UC):=by
 refine fun pins s σ H Q I h=>XF (HI (he pins s σ H _ I h) fun u s1 x H1 I1 rx qq=>?_) ht
 obtain⟨a,rfl,@⟨dx,fs,ea,l,q⟩⟩:=QK.ex qq
 obtain rfl:u=CY a:=rx
 refine RF I1 ea c hm l ?_
 exact pO (first:= [.ref a]) I1.QQ hm.kp<|Yp (us:= [.ref a]) (vs:= [.ref a]) F hr hb hd hx I1 (.cons rfl .nil) q
structure Mk(K:AS)(C f:AK):Prop where
 makes:Vv K C=true
 init:C9 K (.ref C) "__init__"=some (some (.ref f))
 fn:V5 K (.ref f)=true
 kp:FW K (.ref C)=true
theorem jK{pins:List (AK×Obj)}{σ:St}(M:Mk X.K C f)(F:ET X.prog X.w X.K X.mg X.base CX k f fd ps sp)(hr:D_ (k+1) X.A)(hb:Binds X.K fd ps ds)(hd:Vals dvs ds)
  (hx:Passes CX X E) (I:Inv X pins σ H s) (r:Vals vs us)
  (h: ∀ x dx,H x=none->H dx=none->dx≠x->sp (.ref x::(vs++dvs)) (upd (upd H dx<|.own x) x<|.ins C dx []) (fun v H2=>v= .non/\Q (.ref x) H2) E):
  Aw (Ai X.prog X.w) X.A (call (.ref C) us) (EP X pins σ Q) X.xe s:=by
 have hq:=h (s.heap.objs.size+1) s.heap.objs.size (I.C0.fresh<|Vo _) (I.C0.fresh<|BS _)<|DN<|PD _
 have I2:=Inv.made (C:=C) I
 have r2:Vals (V.ref (s.heap.objs.size+1)::(vs++dvs)) (CY (s.heap.objs.size+1)::(us++ds)):= .cons rfl<|r.append hd
 have hl:(CY (s.heap.objs.size+1)::us++ds).length=ps.length:=by
  have e:=r2.length
  rw[F.len _ _ _ _ hq]at e
  exact e.symm
 refine Of<|uK I.QQ M.makes M.init (Fn.mp M.fn)<|La (F.run _ X.stack _ _ ⟨CY (s.heap.objs.size+1)::us,[]⟩ (CY (s.heap.objs.size+1)::(us++ds)) _ _ E (hr.make C us [])
  (I2.y8.make C us []) (hb _ (CY (s.heap.objs.size+1)::us) I2.QQ hl) r2 hq) fun r s' hq'=>?_
 cases r with
 | error e=>exact hx pins σ _ _ e s' I2 hq'
 | ok fl=>
  cases fl with
  | ret u=>
   obtain⟨v,H',I3,rv,rfl,q3⟩:=I2.after hq'
   exact⟨rv,V.ref<|s.heap.objs.size+1,H',I3,rfl,q3⟩
  | next=>exact DM hq'
  | brk=>exact DM hq'
  | cont=>exact DM hq'
def GJ(M:Mk X.K C f)(F:ET X.prog X.w X.K X.mg X.base CX k f fd ps sp)(hr:D_ (k+1) X.A)(hg:Gl X x)(hm:X.mg x=some (.ref C))(hb:Binds X.K fd ps ds)(hd:Vals dvs ds)(hx:Passes CX X E)
  (ha:PA X (e::es) t) (hdb:(x==("__debug__":Str))=false:=by decide) (he:Au (e::es) X.env=(false,eval e X.env)::Au es X.env:=by rfl) (hpl:(Cn pos<|Au es X.env).any (·.1)=false:=by rfl):
  PE X (.Call (.Name x p) (e::es) [] pos) (AAj C sp dvs E t):=by
 refine fun pins s σ H Q I h=>Jk<|Lw I hg hm ?_ hdb
 refine MB I.ok.mod.xg M.kp (j_ (ha pos pins s σ H _ I h) fun us s1 vs H1 I1 r q=>⟨I1.QQ,?_⟩) he hpl
 exact jK M F hr hb hd hx I1 r q
def XQ(M:Mk X.K C f)(F:ET X.prog X.w X.K X.mg X.base CX k f fd ps sp)(hr:D_ (k+1) X.A)(hg:Gl X x)(hm:X.mg x=some (.ref C))(hb:Binds X.K fd ps ds)(hd:Vals dvs ds)(hx:Passes CX X E)
  (hdb:(x==("__debug__":Str))=false:=by decide):PE X (.Call (.Name x p) [] [] pos) (AAj C sp dvs E UC):=by
 refine fun pins s σ H Q I h=>Jk<|Lw I hg hm ?_ hdb
 exact pO I.QQ M.kp<|jK M F hr hb hd hx I .nil h
end
structure Rn(N P:List Str)(sc:Fd):Prop where
 kind:sc.kind= .function
 co:sc.isCoroutine=false
 gen:sc.isGenerator=false
 nd:N.Nodup
 pre:N.take P.length=P
 par: ∀ x∈P,sc.names.lookup x=some .local\/sc.names.lookup x=some .cell
 AB3: ∀ y∈sc.names,y.2≠ .free
theorem Z5{kindOf:Str->Option FX}: ∀{binds:List (Str×AN)} {m:Str->Option AN},(∀ v,(x,v)∉binds)->Jl kindOf binds m x=m x
 | [],_,_=>rfl
 |(n,v)::r,m,h=>by
  unfold Jl
  rw[Z5 fun w hw=>h w<|Cz _ hw]
  split
  ·have:x≠n:=by rintro rfl;exact h v Dx
   simp[this]
  ·rfl
theorem bB{kindOf:Str->Option FX}: ∀{binds:List (Str×AN)} {m:Str->Option AN},(∀ v,(x,v)∉binds)->Jh kindOf binds m x=m x
 | [],_,_=>rfl
 |(n,v)::r,m,h=>by
  unfold Jh
  rw[bB fun w hw=>h w<|Cz _ hw]
  split
  ·rfl
  ·have:x≠n:=by rintro rfl;exact h v Dx
   simp[this]
theorem a8{kindOf:Str->Option FX}: ∀{P:List Str} {vs:List AN} {i:Nat} {m:Str->Option AN},P.Nodup->P[i]?=some x->vs[i]?=some v->kindOf x=some .local->
  Jl kindOf (P.zip vs) m x=some v
 | [],_,_,_,_,h,_,_=>by simp at h
 | _::_,[],_,_,_,_,h,_=>by simp at h
 | p::P,w::vs,0,m,nd,h1,h2,hk=>by
  simp at h1 h2;subst h1;subst h2
  show Jl kindOf ((p,w)::P.zip vs) m p=_
  unfold Jl
  rw[Z5 fun v hv=>(PF.mp nd).1 (b5 hv).1,AI hk]
  simp
 | p::P,w::vs,i+1,m,nd,h1,h2,hk=>by
  show Jl kindOf ((p,w)::P.zip vs) m x=_
  unfold Jl
  exact a8 (i:=i) (PF.mp nd).2 (by simpa using h1) (by simpa using h2) hk
theorem az{kindOf:Str->Option FX}: ∀{P:List Str} {vs:List AN} {i:Nat} {m:Str->Option AN},P.Nodup->P[i]?=some x->vs[i]?=some v->kindOf x≠some .local->
  Jh kindOf (P.zip vs) m x=some v
 | [],_,_,_,_,h,_,_=>by simp at h
 | _::_,[],_,_,_,_,h,_=>by simp at h
 | p::P,w::vs,0,m,nd,h1,h2,hk=>by
  simp at h1 h2;subst h1;subst h2
  show Jh kindOf ((p,w)::P.zip vs) m p=_
  unfold Jh
  rw[bB fun v hv=>(PF.mp nd).1 (b5 hv).1,AG hk]
  simp
 | p::P,w::vs,i+1,m,nd,h1,h2,hk=>by
  show Jh kindOf ((p,w)::P.zip vs) m x=_
  unfold Jh
  exact az (i:=i) (PF.mp nd).2 (by simpa using h1) (by simpa using h2) hk
noncomputable def start(N:List Str)(vs:List V):St:=vs.map some++Ek (N.length-vs.length) none
noncomputable def M6(CX:xa)(P:BH)(w:Ao)(K:AS)(mg:Str->Option AN)(base:Az)(N:List Str)(qual:Str)(scope:Fd)(f:AK)(cd:AN)(A:Dh)(outer:List Env)(s:Ay)(H:Hp)(E:XK):Cx where
 prog:=P
 w:=w
 K:=K
 mg:=mg
 base:=base
 A:=A.deeper<|GQ qual scope s.heap.objs.size f cd
 N:=N
 P8:=s
 H_0:=H
 env:=GQ qual scope s.heap.objs.size f cd
 outer:=outer
 stack:=GQ qual scope s.heap.objs.size f cd::outer
 ex:= []
 calm:=true
 fn:=fun _=>true
 pn:= []
 xe:=fun e s'=>Aw (Ai P w) (A.deeper<|GQ qual scope s.heap.objs.size f cd) («leaving» (GQ qual scope s.heap.objs.size f cd) e) (fun _ s''=>CX outer H s E e s'') (fun e' s''=>CX outer H s E e' s'') s'
def hZ{sc:Fd}(h:sc.names.lookup x=some .cell): ∃ c,(D1 n sc.names []).lookup x=some c:=by
 exact dH.mp<|qU sc.names n []<|.inl h
def sM{CX:xa}{K:AS}
  (S:Rn N ps scope) (hd:A.handled=none) (e0:km P w K mg base A outer s H) (hl:vs.length=ps.length) (r:Vals vs us)
  (x:InCallC s s.heap.objs.size (Jl (GQ qual scope s.heap.objs.size f cd).kindOf (ps.zip us) fun _=>none) (D1 (s.heap.objs.size+1) scope.names []) (Jh (GQ qual scope s.heap.objs.size f cd).kindOf (ps.zip us) fun _=>none) s1):
  Inv (M6 CX P w K mg base N qual scope f cd A outer s H E) [] (start N vs) H s1:=by
 have hpl:ps.length<=N.length:=by have:=BL WL S.pre;rw[HN]at this;lia
 obtain⟨h1,tk,rfl,hk⟩:=x.done
 have noA: ∀ b:AK,b∉(M6 CX P w K mg base N qual scope f cd A outer s H E).ex:=fun b z=>absurd (show b∈([]:List AK)from z)<|by simp
 refine⟨⟨e0.mod,S.kind,rfl,rfl,BS _,fun y z c h1 h2=>?_,fun y hy=>?_,fun y c _ h=>?_,fun _=>hd,Around.frames_deeper e0.frames,.inr ⟨rfl,rfl⟩,fun b z=>absurd z<|noA b,e0.bs,e0.t8,fun b _ _=>noA b,fun b z=>absurd z<|noA b,e0.funs,e0.zJ,S.nd⟩,
  rfl,e0.bare,Un.kept hk,⟨_,x.toInCall.ns,fun i y v h1 h2 h3=>?_⟩,fun y c h=>⟨_,x.cell y c h⟩,e0.C0.fresh<|BS _,fun y c h=>?_,fun p hp=>absurd (show p∈([]:List (AK×Obj))from hp)<|by simp,e0.C0.kept hk,?_⟩
 ·exact name_of_addr x.apart (FY h1)<|FY h2
 ·have hy:=hy
  rcases hy with hy | hy
  ·exact hZ hy
  ·exact absurd rfl<|S.AB3 _<|FY hy
 ·exact HS<|x.above y c<|FY h
 ·have hi:i<vs.length:=by
   unfold start at h2
   by_cases hi:i<vs.length
   ·exact hi
   ·rw[WN<|by simpa using hi,dw]at h2
    split at h2<;>cases h2
  have ha:vs[i]?=some v:=by
   unfold start at h2
   rw[Vn<|by simpa using hi,CZ]at h2
   cases e:vs[i]? with
   | none=>rw[e]at h2;cases h2
   | some a=>rw[e]at h2;cases h2;rfl
  obtain⟨u,hu,rv⟩:=r.get ha
  have hp:ps[i]?=some y:=by
   rw[<-S.pre,List.getElem?_take_of_lt<|by lia];exact h1
  have ndP:ps.Nodup:=by rw[<-S.pre];exact S.nd.sublist<|List.take_sublist _ _
  refine⟨u,rv,?_⟩
  rcases S.par y (PZ hp)with k | k
  ·exact .inl ⟨k,a8 ndP hp hu k⟩
  ·obtain⟨c,e⟩:=hZ k
   refine .inr ⟨.inl k,c,e,?_⟩
   have q:=x.cell y c e
   rw[az ndP hp hu<|by show scope.names.lookup y≠_;rw[k];decide]at q
   exact q
 ·exact e0.C0.fresh<|HS<|x.above y c<|FY h
 ·unfold start
  show _=N.length
  rw[E5,A8,IY]
  lia
theorem AA1{K:AS}{dV kV doc pm cdv ct oc:AN}
 (lk:K.lookup f=some ⟨oc,od,.func<|KA name qual params body scope dV kV doc pm an cdv ct,osl⟩) (hcd:WI K cdv qual=true) (S:Rn N ps scope)
  (len: ∀ vs H Q E,sp vs H Q E->vs.length=ps.length)
  (hbody: ∀ A outer s H vs Q E,D_ k (A.deeper<|GQ qual scope s.heap.objs.size f cdv)->sp vs H Q E->
   ∃ t,eC (M6 CX P w K mg base N qual scope f cdv A outer s H E) body t/\t {nx:=fun _ H'=>Q .non H',rt:=Q} (start N vs) H):
  ET P w K mg base CX (k+1) f (KA name qual params body scope dV kV doc pm an cdv ct) ps sp:=by
 refine⟨len,fun A outer s H args us vs Q E hr e0 hb r hsp=>?_⟩
 have KX:=e0.mod.xg.keeps fun b o e=>(e0.bs b o e).1
 have hkind: ∀ y∈ps.zip us,scope.names.lookup y.1=some .local\/(scope.names.lookup y.1=some .cell/\((D1 (s.heap.objs.size+1) scope.names []).lookup y.1).isSome=true):=fun⟨n,v⟩ hy=>by
  rcases S.par n (b5 hy).1 with q | q
  ·exact .inl q
  ·exact .inr ⟨q,qU _ _ _<|.inl q⟩
 refine codeAny_call_function hr.depth (KX _ _ lk) rfl S.co S.gen rfl (PySem.W.codeRec_of KX hcd)<|hb _ _ _ _<|wpAny_newFunctionEnv_cells S.kind hkind fun env he s1 x=>?_
 subst he
 refine⟨(e0.mod.nolimit.keeps fun b o e=>(e0.bs b o e).1).keeps x.toInCall.keep,codeAny_func ?_⟩
 obtain⟨t,ht,hq⟩:=hbody A outer s H vs Q E (hr.deeper _) hsp
 have I:Inv (M6 CX P w K mg base N qual scope f cdv A outer s H E) [] (start N vs) H s1:=sM S hr.hd e0 (len _ _ _ _ hsp) r x
 refine Et (ht [] s1 (start N vs) H _ I hq) (fun fl s' hs=>?_) fun e s' hs=>hs
 have fin: ∀{σ':St} {H':Hp} {v:V} {u:AN},Inv (M6 CX P w K mg base N qual scope f cdv A outer s H E) [] σ' H' s'->RelV v u->Q v H'->CE outer P w H s Q u s':=
  fun{σ' H' v u} J rv q=>⟨v,H',J.os,J.bare,J.base,J.C0,rv,q⟩
 cases fl with
 | ret u=>
  obtain⟨v,σ',H',J,rv,q⟩:=hs
  exact fin J rv q
 | next=>
  obtain⟨σ',H',J,q⟩:=hs
  exact fin (v:=V.non) (u:=Rt) J rfl q
 | brk=>
  obtain⟨_,_,_,q⟩:=hs
  exact DM q
 | cont=>
  obtain⟨_,_,_,q⟩:=hs
  exact DM q
end L2
namespace L2
open PySem PySem.Spec PyProof.Rows
section
variable{X:Cx}{x:Str}{p pos:Pos}{e:Expr}{es:List Expr}{t:TA}{id T:String}{r:List V->Hp->VK->Prop}
noncomputable def tCB(r:List V->Hp->VK->Prop)(t:TA):TE:=fun σ H Q=>t σ H fun vs H1=>r vs H1 Q
def EZ(hc:Yy X (.builtin id) r)(hg:Gl X x)(hm:X.mg x=none)(hv:IV x=some (.builtin id))(ha:PA X (e::es) t)(hn:x≠"__name__":=by decide)(hdb:(x==("__debug__":Str))=false:=by decide)
  (he:Au (e::es) X.env=(false,eval e X.env)::Au es X.env:=by rfl) (hpl:(Cn pos<|Au es X.env).any (·.1)=false:=by rfl):PE X (.Call (.Name x p) (e::es) [] pos) (tCB r t):=by
 refine fun pins s σ H Q I h=>Jk<|Qb I hg hm hv ?_ hn hdb
 exact nr (j_ (ha pos pins s σ H _ I h) fun us s1 vs H1 I1 r1 q1=>hc pins s1 σ H1 vs us Q I1 r1 q1) he hpl
def LJ(hc:Yy X (.type T) r)(hg:Gl X x)(hm:X.mg x=none)(hv:IV x=some (.type T))(ha:PA X (e::es) t)(hn:x≠"__name__":=by decide)(hdb:(x==("__debug__":Str))=false:=by decide)
  (he:Au (e::es) X.env=(false,eval e X.env)::Au es X.env:=by rfl) (hpl:(Cn pos<|Au es X.env).any (·.1)=false:=by rfl):PE X (.Call (.Name x p) (e::es) [] pos) (tCB r t):=by
 refine fun pins s σ H Q I h=>Jk<|Qb I hg hm hv ?_ hn hdb
 exact TB (j_ (ha pos pins s σ H _ I h) fun us s1 vs H1 I1 r1 q1=>hc pins s1 σ H1 vs us Q I1 r1 q1) he hpl
end
end L2
namespace HT
open PySem PyProof.Rows
section
variable{prog:BH}{w:Ao}{A:Dh}{E:AN->Ay->Prop}{s:Ay}
noncomputable def gB(n d:Nat):Option Int->Nat
 | none=>d
 | some v=>if v<0 then(v+(n:Int)).toNat else min v.toNat n
def WB(n d k:Nat):gB n d (some (k:Int))=min k n:=by
 show(if(k:Int)<0 then((k:Int)+(n:Int)).toNat else min (k:Int).toNat n)=min k n
 rw[AG<|by lia,Int.toNat_natCast]
end
end HT
namespace L2
open PySem PySem.Spec PyProof.Rows
noncomputable abbrev TO:=St->Hp->(Option Int->Hp->Prop)->Prop
noncomputable def PO(X:Cx)(e:Option Expr)(t:TO):Prop:=
 ∀(pins:List (AK×Obj)) s (σ:St) H Q,Inv X pins σ H s->t σ H Q->
  Aw (Ai X.prog X.w) X.A (evalPart e X.env) (fun u s'=> ∃ o H',Inv X pins σ H' s'/\IsPart u o/\Q o H') X.xe s
noncomputable def ADb(t:TE):TO:=fun σ H Q=>t σ H fun x H1=> ∃ i,x= .int i/\Q (some i) H1
section
variable{X:Cx}{e:Expr}{te:TE}{lo hi:Option Expr}{tl th:TO}{pos p2:Pos}
def W_(h:PE X e te):PO X (some e) (ADb te):=by
 intro pins s σ H Q I hw
 rw[evalPart_some]
 refine HI (h pins s σ H _ I hw) fun u s1 x H1 I1 r1 q1=>?_
 obtain⟨i,rfl,q⟩:=q1
 obtain⟨t,rfl⟩:=r1
 exact⟨some i,H1,I1,.int i t,q⟩
noncomputable def SlR(X:Cx)(r:V->Option Int->Option Int->Hp->VK->Prop):Prop:=
 ∀(pins:List (AK×Obj)) s (σ:St) H x v vl vu lo hi sl Q,Inv X pins σ H s->RelV x v->s.heap.IsSliceOf sl vl vu .none->IsPart vl lo->IsPart vu hi->r x lo hi H Q->
  ∃ T id,V1 (.type T) "__getitem__"=CB (some<|.builtin id)/\s.TypeIs v T/\Aw (Ai X.prog X.w) X.A (TU v<|.ref sl) (EP X pins σ Q) X.xe s
noncomputable def tSl(r:V->Option Int->Option Int->Hp->VK->Prop)(te:TE)(tl th:TO):TE:=fun σ H Q=>te σ H fun x H1=>tl σ H1 fun l H2=>th σ H2 fun u H3=>r x l u H3 Q
def iO(hr:SlR X r)(he:PE X e te)(hl:PO X lo tl)(hu:PO X hi th):PE X (.Subscript e (.Slice lo hi none p2) pos) (tSl r te tl th):=by
 refine fun pins s σ H Q I h=>eh<|HI (he pins s σ H _ I h) fun v s1 x H1 I1 r1 q1=>wpAny_Slice<|QO (hl pins s1 σ H1 _ I1 q1) fun vl s2 ⟨l,H2,I2,pl,q2⟩=>QO (hu pins s2 σ H2 _ I2 q2) fun vu s3 ⟨u,H3,I3,pu,q3⟩=>?_
 rw[evalPart_none]
 refine Cp ?_
 have I4:Inv X pins σ H3 {s3 with heap:=s3.heap.push {cls:= .type "slice",data:= .fields #[vl,vu,.none]}}:=I3.kept (t':=s3.toks) fun b ob q=>CP _ q
 obtain⟨T,id,hT,ht,hg⟩:=hr pins {s3 with heap:=s3.heap.push {cls:= .type "slice",data:= .fields #[vl,vu,.none]}} σ H3 x v vl vu l u s3.heap.objs.size Q I4 r1 (zW ..) pl pu q3
 exact tail_any ht hT hg<|by with_unfolding_all rfl
noncomputable def cC(xs:List V)(lo hi:Option Int):List V:=(xs.drop<|HT.gB xs.length 0 lo).take (HT.gB xs.length xs.length hi-HT.gB xs.length 0 lo)
def jV(xs:List V)(lo hi:Option Int):(cC xs lo hi).length<=xs.length:=by
 unfold cC
 rw[HN,G3]
 lia
end
end L2
namespace L2
open PySem PySem.Spec PyProof.Rows
noncomputable def uA(n:Nat)(i:Int):Option Nat:=if 0<=i then(if i<n then some i.toNat else none)else if-(n:Int)<=i then some (i+n).toNat else none
noncomputable def XA(xs:List α)(i:Int):Option α:=(uA xs.length i).bind fun j=>xs[j]?
def fg(h:uA n i=some j):WX i n=some j/\j<n/\ -(n:Int)<=i/\i<n:=by
 unfold uA at h
 by_cases h0:0<=i
 ·rw[AI h0]at h
  by_cases h1:i<n
  ·rw[AI h1]at h
   have e:=C5 h
   exact⟨by rw[dJ h0 h1,e],by lia,by lia,h1⟩
  ·rw[AG h1]at h;cases h
 ·rw[AG h0]at h
  by_cases h1: -(n:Int)<=i
  ·rw[AI h1]at h
   exact⟨by rw[dA (by lia) h1,C5 h],by lia,h1,by lia⟩
  ·rw[AG h1]at h;cases h
theorem d9{α:Type}{xs:List α}{v:α}(h:XA xs i=some v): ∃ j,WX i xs.length=some j/\xs[j]?=some v/\j<xs.length/\ -(xs.length:Int)<=i/\i<xs.length:=by
 unfold XA at h
 cases e:uA xs.length i with
 | none=>rw[e]at h;cases h
 | some j=>
  rw[e]at h
  obtain⟨h1,h2,h3,h4⟩:=fg e
  exact⟨j,h1,h,h2,h3,h4⟩
def Em{α:Type}{xs:List α}{j:Nat}{v:α}(h:xs[j]?=some v):XA xs (j:Int)=some v:=by
 have hj:=(Ie.mp h).1
 have e:uA xs.length (j:Int)=some j:=by
  unfold uA
  rw[AI<|by lia,AI<|by lia];simp
 unfold XA;rw[e];exact h
def wZ{α:Type}(xs:List α)(v:α):XA (xs++ [v]) (-1)=some v:=by
 have hl:(xs++ [v]).length=xs.length+1:=by simp
 have e:uA (xs++ [v]).length (-1)=some xs.length:=by
  unfold uA
  rw[hl,AG<|by decide,AI<|by lia]
  congr 1
  lia
 unfold XA
 rw[e]
 simp
noncomputable def qN(b:Expr):Prop:= ∀ o i,WS b false o i=bb [o,i] (TU o i)
noncomputable def t9(X:Cx)(r:R2):Prop:=
 ∀(value slice:Expr) pins s (σ:St) H x y v u Q,Inv X pins σ H s->RelV x v->RelV y u->r x y H Q->
  WS slice false v u=bb [v,u] (TU v u)->Aw (Ai X.prog X.w) X.A (nO value slice v u) (EP X pins σ Q) X.xe s
noncomputable def MtR(X:Cx)(id:String)(r:V->List V->Hp->VK->Prop):Prop:=
 ∀(pins:List (AK×Obj)) s (σ:St) H x xs v us Q,Inv X pins σ H s->RelV x v->Vals xs us->r x xs H Q->
  Aw (Ai X.prog X.w) X.A (call (.builtin id)<|v::us) (EP X pins σ Q) X.xe s
section
variable{X:Cx}{a b:Expr}{ta tb:TE}{pos:Pos}
def t9.or(h:t9 X r)(h':t9 X r'):t9 X (fun x y H Q=>r x y H Q\/r' x y H Q):=by
 intro value slice pins s σ H x y v u Q I rx ry q hs
 rcases q with q | q
 ·exact h value slice pins s σ H x y v u Q I rx ry q hs
 ·exact h' value slice pins s σ H x y v u Q I rx ry q hs
def AEP(hr:t9 X r)(ha:PE X a ta)(hb:PE X b tb)(hs:qN b):PE X (.Subscript a b pos) (g5 r ta tb):=
 fun pins s σ H Q I h=>eh<|ABZ ha hb I h fun v u s2 x y H2 I2 rx ry q=>hr a b pins s2 σ H2 x y v u Q I2 rx ry q<|hs _ _
inductive ADe(K:AS)(p:AK)(i:Int)(H:Hp)(Q:VK):Prop
 | mk {xs:List V} {v:V}:BF K H p xs->XA xs i=some v->Q v H->ADe K p i H Q
noncomputable def xD(K:AS):R2:=fun x y H Q=>QK x fun p=>RI y fun i=>ADe K p i H Q
inductive AEI(K:AS)(p:AK)(i:Int)(H:Hp)(Q:VK):Prop
 | mk {xs:List V} {v:V}:Dd K H p xs->XA xs i=some v->Q v H->AEI K p i H Q
noncomputable def ADy(K:AS):R2:=fun x y H Q=>QK x fun p=>RI y fun i=>AEI K p i H Q
noncomputable def AEf:R2:=fun x y H Q=> ∃ z i c,x= .str z/\y= .int i/\z.length<=sizeLine/\XA z.cps.toList i=some c/\Q (.str ⟨#[c]⟩) H
def Ab:t9 X (xD X.K):=by
 intro value slice pins s σ H x y v u Q I rx ry h hs
 obtain⟨p,rfl,h'⟩:=QK.ex h
 obtain⟨i,rfl,@⟨xs,z,hq,he,q⟩⟩:=RI.ex h'
 cases rx
 obtain⟨t,rfl⟩:=ry
 obtain⟨its,r,pl,hz⟩:=I.list hq
 obtain⟨j,h1,h2,h3,h4,h5⟩:=d9 he
 obtain⟨w,ew,rw'⟩:=r.get h2
 have hl:=r.length
 have hn:=XZ
 have fin:EP X pins σ Q w s:=⟨z,H,I,rw',q⟩
 by_cases h0:0<=i
 ·have hj:i.toNat=j:=by
   rw[dJ h0 h5]at h1
   exact C5 h1
  exact item_listR pl.isList h0 (by lia) (by rw[hj];simpa using ew) fin hs
 ·have hj:(i+(its.toArray.size:Int)).toNat=j:=by
   rw[dA (by lia) h4]at h1
   rw[Co,<-hl]
   exact C5 h1
  exact rG pl.isList.typeIs pj.lookup
   (wpAny_getItem_list_neg pl.isList (by lia) (by rw[Co]<;>lia) (by lia) (by rw[hj];simpa using ew) ⟨rfl,fin⟩) hs
def By:t9 X (ADy X.K):=by
 intro value slice pins s σ H x y v u Q I rx ry h hs
 obtain⟨p,rfl,h'⟩:=QK.ex h
 obtain⟨i,rfl,@⟨xs,z,hq,he,q⟩⟩:=RI.ex h'
 cases rx
 obtain⟨t,rfl⟩:=ry
 obtain⟨its,r,pl,hz⟩:=I.tuple hq
 obtain⟨j,h1,h2,h3,h4,h5⟩:=d9 he
 obtain⟨w,ew,rw'⟩:=r.get h2
 have hl:=r.length
 have hn:=XZ
 have fin:EP X pins σ Q w s:=⟨z,H,I,rw',q⟩
 exact rG pl.typeIs slot_tuple_getitem.lookup
  (getItem_tuple pl (by lia) (by lia) (by rw[Co,<-hl];exact h1) (by simpa using ew) ⟨rfl,fin⟩) hs
def ABq:t9 X AEf:=by
 intro value slice pins s σ H x y v u Q I rx ry h hs
 obtain⟨z,i,c,rfl,rfl,hz,he,q⟩:=h
 obtain⟨t,rfl⟩:=rx
 obtain⟨t',rfl⟩:=ry
 obtain⟨j,h1,h2,h3,h4,h5⟩:=d9 he
 have hl:z.cps.toList.length=z.length:=by simp[Str.length]
 rw[hl]at h1 h4 h5
 have hn:=XZ
 exact tail_any (typeIs_str s z t) slot_str_getitem.lookup (getItem_str (by
  have e1:decide (i< -(2^63:Int))=false:=D5<|by lia
  have e2:decide (i>=2^63)=false:=D5<|by lia
  rw[e1,e2,Bool.or_false]) (by rw[h1];simpa using h2) ⟨.str ⟨#[c]⟩,H,I.tok _,⟨_,rfl⟩,q⟩) hs
noncomputable def rIx(K:AS):R2:=fun x y H Q=>xD K x y H Q\/ADy K x y H Q\/AEf x y H Q
def wq:t9 X (rIx X.K):=Ab.or (By.or ABq)
def kR(its:List AN)(n j:Nat)(u:AN):RK (·.setIfInBounds j u) {cls:= .type "list",data:= .seq its.toArray n}={cls:= .type "list",data:= .seq (its.set j u).toArray n}:=by
 simp[RK]
def Inv.lst{pins:List (AK×Obj)}{σ:St}(I:Inv X pins σ H s)(h:H p=some (.lst xs)):
  ∃(its:List AN) (n:Nat),Vals xs its/\s.heap.get? p=some {cls:= .type "list",data:= .seq its.toArray n}/\xs.length<=sizeLine:=by
 obtain⟨z,its,n,r,e⟩:=I.C0 p _ h
 exact⟨its,n,r,e,z⟩
def Inv.ABg{pins:List (AK×Obj)}{σ:St}{its its':List AN}(I:Inv X pins σ H s)(h:H p=some (.lst xs))
  (ho:s.heap.get? p=some {cls:= .type "list",data:= .seq its.toArray n}) (hf:f {cls:= .type "list",data:= .seq its.toArray n}={cls:= .type "list",data:= .seq its'.toArray n'}) (r:Vals ys its') (hz:ys.length<=sizeLine) (t:Nat):
  Inv X pins σ (upd H p<|.lst ys) {s with heap:=s.heap.update p f,toks:=t}:=by
 have e:(s.heap.update p f).get? p=some {cls:= .type "list",data:= .seq its'.toArray n'}:=by
  rw[Wq f ho<|by rw[hf]<;>rfl,hf]
 refine I.write (by rw[h];trivial) (.inl rfl) (fun b u hb q=>(XH _ _<|Ea hb).trans q) ⟨_,e⟩ ?_
 exact⟨hz,its',n',r,e⟩
noncomputable def AD2:V->V->V->Hp->(Hp->Prop)->Prop:=fun o i v H Q=> ∃ p xs k j,o= .ref p/\i= .int k/\H p=some (.lst xs)/\uA xs.length k=some j/\Q (upd H p<|.lst<|xs.set j v)
def set_list:AEK X AD2:=by
 rintro pins s σ H o i v ov iv u Q I ro ri rv ⟨p,xs,k,j,rfl,rfl,hp,hj,q⟩
 cases ro
 obtain⟨t,rfl⟩:=ri
 obtain⟨its,n,r,ho,hz⟩:=I.lst hp
 obtain⟨h1,h2,h3,h4⟩:=fg hj
 have hl:=r.length
 have hn:=XZ
 have I':Inv X pins σ (upd H p<|.lst<|xs.set j v) {s with heap:=s.heap.update p<|RK (·.setIfInBounds j u)}:=
  I.ABg hp ho (kR its n j u) (r.set rv j) (by rw[DL];exact hz) s.toks
 by_cases h0:0<=k
 ·have hk:k.toNat=j:=by
   rw[dJ h0 h4]at h1
   exact C5 h1
  exact PySem.W.ki_setAt ho h0 (by lia) (by rw[Co,<-hl];exact h4)<|by rw[hk];exact⟨_,I',q⟩
 ·have hk:(k+(its.toArray.size:Int)).toNat=j:=by
   rw[dA (by lia) h3]at h1
   rw[Co,<-hl]
   exact C5 h1
  exact PySem.W.ki_setBack ho (by lia) (by rw[Co,<-hl];exact h3) (by lia)<|by rw[hk];exact⟨_,I',q⟩
def d8(lo hi:Option Int)(n:Nat):(Lc lo hi none n).1=((HT.gB n 0 lo:Nat):Int)/\(Lc lo hi none n).2.1=((HT.gB n n hi:Nat):Int)/\(Lc lo hi none n).2.2=1:=by
 refine⟨?_,?_,rfl⟩
 ·cases lo with
  | none=>simp[Lc,HT.gB]
  | some i=>
   simp only[Lc,HT.gB,pC,show(1:Int)>0 by decide,D6]
   by_cases h:i<0
   ·simp only[h,D6]<;>lia
   ·simp only[h,FJ]<;>lia
 ·cases hi with
  | none=>simp[Lc,HT.gB]
  | some i=>
   simp only[Lc,HT.gB,pC,show(1:Int)>0 by decide,D6]
   by_cases h:i<0
   ·simp only[h,D6]<;>lia
   ·simp only[h,FJ]<;>lia
def Zi(its:List AN)(lo hi:Option Int):slicePick its.toArray lo hi none=((its.drop<|HT.gB its.length 0 lo).take<|HT.gB its.length its.length hi-HT.gB its.length 0 lo).toArray:=by
 obtain⟨h1,h2,h3⟩:=d8 lo hi its.toArray.size
 unfold slicePick
 rw[h1,h2,h3]
 simp only[sliceRange_one,pick_run,Co]<;>rfl
noncomputable def AFf(K:AS):V->Option Int->Option Int->Hp->VK->Prop:=fun x lo hi H Q=> ∃ a xs,x= .ref a/\BF K H a xs/\ ∀ p,H p=none->Q (.ref p) (upd H p<|.lst<|cC xs lo hi)
def rD:SlR X (AFf X.K):=by
 rintro pins s σ H x v vl vu lo hi sl Q I rx hs pl pu ⟨a,xs,rfl,hx,q⟩
 cases rx
 obtain⟨its,r,ht,hz⟩:=I.list hx
 have hlen:=r.length
 refine⟨"list",_,pj.lookup,ht.isList.typeIs,wpAny_getItem_list_slice ht.isList hs pl pu .none (by simp) ?_<|by rw[Co]<;>lia⟩
 rw[Zi,<-hlen]
 refine⟨.ref s.heap.objs.size,_,I.laid (fun b ob q=>CP _ q) (BS _) ?_,rfl,q _<|I.C0.fresh<|BS _⟩
 exact⟨CC (jV xs lo hi) hz,_,0,(r.drop<|HT.gB xs.length 0 lo).take<|HT.gB xs.length xs.length hi-HT.gB xs.length 0 lo,IF _ rfl⟩
inductive AEQ(K:AS)(p:AK)(H:Hp)(Q:VK):Prop
 | mk {ys:List V}:(BF K H p ys\/Dd K H p ys)->Q (.int ys.length) H->AEQ K p H Q
noncomputable def ABI(K:AS)(xs:List V)(H:Hp)(Q:VK):Prop:=xb xs fun x=>QK x fun p=>AEQ K p H Q
def cJ:Yy X (.builtin "len") (ABI X.K):=by
 intro pins s σ H xs us Q I r h
 obtain⟨x,rfl,h'⟩:=xb.ex h
 obtain⟨p,rfl,@⟨ys,hq,q⟩⟩:=QK.ex h'
 obtain⟨u,rfl,rx⟩:=vals1 r
 cases rx
 have hn:=XZ
 rcases hq with hq | hq
 ·obtain⟨its,r',pl,hz⟩:=I.list hq
  have hlen:=r'.length
  exact Calls.call_len_list pl.isList (by simp only[Co]<;>lia) ⟨.int ys.length,H,I.tok _,⟨s.toks+1,by rw[Co,hlen]⟩,q⟩
 ·obtain⟨its,r',pl,hz⟩:=I.tuple hq
  have hlen:=r'.length
  exact len_tuple pl (by simp only[Co]<;>lia) ⟨.int ys.length,H,I.tok _,⟨s.toks+1,by rw[Co,hlen]⟩,q⟩
def Fz:Yy X (.type "list") (fun xs H Q=> ∃ p ys,xs= [.ref p]/\(BF X.K H p ys\/Dd X.K H p ys)/\ ∀ l,H l=none->Q (.ref l) (upd H l<|.lst ys)):=by
 rintro pins s σ H xs us Q I r ⟨p,ys,rfl,hq,q⟩
 obtain⟨u,rfl,rx⟩:=vals1 r
 cases rx
 have fin: ∀(its:List AN),Vals ys its->ys.length<=sizeLine-> ∀(h':Az) (c':Nat),(∀ b o',s.heap.get? b=some o'->h'.get? b=some o')->
   h'.get? s.heap.objs.size=some {cls:= .type "list",dict:=none,data:= .seq its.toArray c',slots:= #[]}->EP X pins σ Q (.ref s.heap.objs.size) {s with heap:=h'}:=fun its r' hz h' c' kp e=>
  ⟨.ref s.heap.objs.size,_,I.laid (t':=s.toks) kp (BS _)<|show EK X.prog X.w _ h' _ (.lst ys)from⟨hz,its,c',r',e⟩,rfl,q _<|I.C0.fresh<|BS _⟩
 rcases hq with hq | hq
 ·obtain⟨its,r',pl,hz⟩:=I.list hq
  have hlen:=r'.length
  obtain⟨o,ho,hc,n,hd⟩:=pl.isList
  exact me p (.inl rfl) ho hc hd (fun h' c' kp e=>fin its r' hz h' c' kp e)<|by simp only[Co]<;>lia
 ·obtain⟨its,r',pl,hz⟩:=I.tuple hq
  have hlen:=r'.length
  obtain⟨o,ho,hc,n,hd⟩:=pl
  exact me p (.inr rfl) ho hc hd (fun h' c' kp e=>fin its r' hz h' c' kp e)<|by simp only[Co]<;>lia
noncomputable def tyV(K:AS)(T:String)(x:V)(H:Hp):Prop:=match x with
 | .str _=>T="str"
 | .int _=>T="int"
 | .ref p=>(T="list"/\ ∃ xs,BF K H p xs)\/(T="tuple"/\ ∃ o,K.lookup p=some o/\o.cls= .type "tuple"/\o.dict=none)\/
   (T="dict"/\((∃ BU,H p=some (.dK BU))\/ ∃ BU,H p=some (.dT BU)))\/(T="set"/\ ∃ S n,H p=some (.set S n))
 | _=>False
theorem wC{pins:List (AK×Obj)}{σ:St}(I:Inv X pins σ H s)(r:RelV x v)(ty:tyV X.K T x H):
  s.TypeIs v T/\ ∀ a,v= .ref a-> ∃ ob,s.heap.get? a=some ob/\ob.dict=none:=by
 cases x with
 | str z=>
  obtain⟨t,rfl⟩:=r
  cases (ty)
  exact⟨typeIs_str s z t,fun _ e=>nomatch e⟩
 | int i=>
  obtain⟨t,rfl⟩:=r
  cases (ty)
  exact⟨typeIs_int s i t,fun _ e=>nomatch e⟩
 | ref p=>
  cases r
  rcases ty with⟨rfl,xs,hq⟩ |⟨rfl,o,hk,hc,hd⟩ |⟨rfl,hk⟩ |⟨rfl,S,n,hk⟩
  ·obtain⟨its,_,pl,_⟩:=I.list hq
   refine⟨pl.isList.typeIs,fun a e=>?_⟩
   cases e
   obtain⟨o,n,e,c,hd,_⟩:=pl
   exact⟨o,e,hd⟩
  ·refine⟨⟨o,I.QQ p o hk,hc⟩,fun a e=>?_⟩
   cases e
   exact⟨o,I.QQ _ o hk,hd⟩
  ·have z: ∃ o,s.heap.get? p=some o/\o.ExactDict:=by
    rcases hk with⟨BU,hk⟩ |⟨BU,hk⟩
    ·obtain⟨_,_,_,_,o,_,_,e,ex,_⟩:=I.C0 p _ hk
     exact⟨o,e,ex⟩
    ·obtain⟨_,_,_,_,o,_,_,e,ex,_⟩:=I.C0 p _ hk
     exact⟨o,e,ex⟩
   obtain⟨o,e,ex⟩:=z
   refine⟨⟨o,e,ex.1⟩,fun a e2=>?_⟩
   cases e2
   exact⟨o,e,ex.2.1⟩
  ·obtain⟨o,_,_,_,e,ex,_⟩:=I.C0 p _ hk
   refine⟨⟨o,e,ex.1⟩,fun a e2=>?_⟩
   cases e2
   exact⟨o,e,ex.2.1⟩
 | _=>exact DM ty
noncomputable def AFF(K:AS)(T:String)(r:V->List V->Hp->VK->Prop)(to:TE):TE:=fun σ H Q=>to σ H fun x H1=>tyV K T x H1/\r x [] H1 Q
noncomputable def tBM(K:AS)(T:String)(r:V->List V->Hp->VK->Prop)(to:TE)(t:TA):TE:=fun σ H Q=>to σ H fun x H1=>tyV K T x H1/\t σ H1 fun xs H2=>r x xs H2 Q
variable{o e:Expr}{es:List Expr}{to:TE}{t:TA}{name:Str}{apos cpos:Pos}{T id:String}{r:V->List V->Hp->VK->Prop}
def cy(pa:PlainAttrs T)(slot:Slot T name id)(hty:typeOf (.builtin id)=CB (.type "method_descriptor"))(hm:MtR X id r)(ho:PE X o to)
  (hbase:KQ o name X.env (eval o X.env)=eval o X.env:=by rfl) (hline:(apos.endLine==cpos.line)=true:=by rfl):PE X (.Call (.Attribute o name apos) [] [] cpos) (AFF X.K T r to):=by
 refine fun pins s σ H Q I h=>wpAny_Call_method0_late hbase hline<|HI (ho pins s σ H _ I h) fun v s1 x H1 I1 r1 q_=>?_
 obtain⟨ty,q1⟩:=q_
 obtain⟨h1,h2⟩:=wC I1 r1 ty
 exact⟨T,id,pa,slot,hty,h1,h2,XE rfl<|PySem.evalArgs_none<|hm pins s1 σ H1 x [] v [] Q I1 r1 .nil q1⟩
def VC(pa:PlainAttrs T)(slot:Slot T name id)(hty:typeOf (.builtin id)=CB (.type "method_descriptor"))(hm:MtR X id r)(ho:PE X o to)(ha:PA X (e::es) t)
  (hbase:KQ o name X.env (eval o X.env)=eval o X.env:=by rfl)
  (hfew:((Cn cpos<|Au (e::es) X.env).all (fun x=>!x.1)&&(Ii cpos<|IW [] X.env).all (fun x=>x.1.isSome)
   &&decide ((e::es).length+([]:List WD).length+(if([]:List WD).isEmpty then 0 else 1)<30))=true:=by rfl)
  (hline:(apos.endLine==cpos.line)=true:=by rfl) (hs:Au (e::es) X.env=(false,eval e X.env)::Au es X.env:=by rfl) (hplain:(Cn cpos<|Au es X.env).any (·.1)=false:=by rfl):
  PE X (.Call (.Attribute o name apos) (e::es) [] cpos) (tBM X.K T r to t):=by
 refine fun pins s σ H Q I h=>wpAny_Call_method_late hbase hfew hline rfl<|HI (ho pins s σ H _ I h) fun v s1 x H1 I1 r1 q_=>?_
 obtain⟨ty,q1⟩:=q_
 obtain⟨h1,h2⟩:=wC I1 r1 ty
 refine⟨T,id,pa,slot,hty,h1,h2,?_⟩
 have hA:=ha cpos pins s1 σ H1 _ I1 q1
 rw[hs]at hA ⊢
 exact XE (by show(false||(Cn cpos<|Au es X.env).any (·.1))=false;rw[hplain]<;>rfl)<|dD<|QO hA fun us s2 ⟨vs,H2,I2,r2,q2⟩=>hm pins s2 σ H2 x vs v us Q I2 r1 r2 q2
end
end L2
namespace L2
open PySem PySem.Spec PyProof.Rows
noncomputable def MtM(X:Cx)(id:String)(r:V->List V->Hp->VK->Prop):Prop:=
 ∀(pins:List (AK×Obj)) s (σ:St) H x xs v us Q,Inv X pins σ H s->RelV x v->Vals xs us->r x xs H Q->
  Aw (Ai X.prog X.w) X.A (call (.builtin id)<|v::us) (EP X pins σ Q) X.xe s
def Vals.one{x:V}{us:List AN}(h:Vals [x] us): ∃ u,us= [u]/\RelV x u:=by
 obtain _ |⟨r,_ | _⟩:=h
 exact⟨_,rfl,r⟩
theorem Vals.zero: ∀{us:List AN},Vals [] us->us= []
 | _,.nil=>rfl
theorem Vals.dropLast(h:Vals xs us):Vals xs.dropLast us.dropLast:=by
 induction h with
 | nil=>exact .nil
 | cons r t ih=>
  cases t with
  | nil=>exact .nil
  | cons q t'=>exact .cons r ih
theorem Vals.eraseIdx{xs:List V}{us:List AN}(i:Nat)(h:Vals xs us):Vals (xs.eraseIdx i) (us.eraseIdx i):=by
 induction h generalizing i with
 | nil=>exact .nil
 | cons r t ih=>
  cases i with
  | zero=>exact t
  | succ i=>exact .cons r<|ih i
theorem lH(l:List α):l.eraseIdx (l.length-1)=l.dropLast:=by
 induction l with
 | nil=>rfl
 | cons a r ih=>
  cases r with
  | nil=>rfl
  | cons b r=>
   have e:(a::b::r).length-1=((b::r).length-1)+1:=by
    have h1:(a::b::r).length=r.length+2:=rfl
    have h2:(b::r).length=r.length+1:=rfl
    lia
   rw[e,List.eraseIdx_cons_succ,ih]
   all_goals rfl
theorem Tg: ∀(l:List α) i,(l.eraseIdx i).length<=l.length
 | [],_=>BS _
 | _::_,0=>Vo _
 | _::r,i+1=>Nat.succ_le_succ<|Tg r i
section
variable{X:Cx}{pins:List (AK×Obj)}{σ:St}{H:Hp}{s:Ay}{l b:AK}{xs ys zs:List V}
def Inv.uc{its its':List AN}(I:Inv X pins σ H s)(hH:H l=some (.lst xs))
  (e:s.heap.get? l=some {cls:= .type "list",data:= .seq its.toArray n}) (hf:f its.toArray=its'.toArray) (hv:Vals ys its') (hz:ys.length<=sizeLine):
  Inv X pins σ (upd H l<|.lst ys) {s with heap:=s.heap.update l<|RK f,toks:=t'}:=by
 have q:=zO e f
 rw[hf]at q
 refine I.write (by rw[hH];exact trivial) (.inl rfl) (fun b' u hb hu=>(XH s.heap (RK f)<|Ea hb).trans hu) ⟨_,q⟩ ?_
 exact⟨hz,its',_,hv,q⟩
def Inv.AFO{its:List AN}(I:Inv X pins σ H s)(hv:Vals ys its)(hz:ys.length<=sizeLine):
  Inv X pins σ (upd H s.heap.objs.size<|.lst ys) {s with heap:=s.heap.push {cls:= .type "list",data:= .seq its.toArray},toks:=t'}:=
 I.laid (fun _ _ q=>CP _ q) (BS _) ⟨hz,its,0,hv,IF _ rfl⟩
def Inv.fresh(I:Inv X pins σ H s):H s.heap.objs.size=none:=I.C0.fresh (BS _)
def Inv.gw(I:Inv X pins σ H s)(hH:H l=some (.lst xs)):xs.length<=sizeLine/\ ∃(its:List AN) (n:Nat),Vals xs its/\xs.length=its.length/\s.heap.get? l=some {cls:= .type "list",data:= .seq its.toArray n}:=by
 obtain⟨z,its,n,r,e⟩:=I.C0 l _ hH
 exact⟨z,its,n,r,r.length,e⟩
def wO(h:n<=sizeLine):fz n=false:=by
 unfold fz
 exact D5<|by lia
end
section
variable{X:Cx}
inductive AEJ(l:AK)(y:V)(H:Hp)(Q:VK):Prop
 | mk {xs:List V}:H l=some (.lst xs)->xs.length<sizeLine->Q .non (upd H l (.lst (xs++ [y])))->AEJ l y H Q
noncomputable def yr:V->List V->Hp->VK->Prop:=fun x vs H Q=>QK x fun l=>xb vs fun y=>AEJ l y H Q
def LD:MtM X "list.append" yr:=by
 intro pins s σ H x vs v us Q I rx rv h
 obtain⟨l,rfl,h'⟩:=QK.ex h
 obtain⟨y,rfl,@⟨xs,hH,hz,q⟩⟩:=xb.ex h'
 cases rx
 obtain⟨u,rfl,ru⟩:=rv.one
 obtain⟨z,its,n,r,hl,e⟩:=I.gw hH
 refine S5 F.slot_list_append ⟨_,e,rfl⟩ F.entry_list_append (F.args_list_append_2 _ _) (PySem.list_append l its.toArray n u<|by rw[Co];lia) ⟨e,.non,_,I.uc hH e (by simp) (r.append<|.cons ru .nil) ?_,rfl,q⟩
 rw[E5,List.length_singleton]
 lia
noncomputable def yO:V->List V->Hp->VK->Prop:=fun x vs H Q=> ∃ l b xs zs,x= .ref l/\vs= [.ref b]/\H l=some (.lst xs)/\H b=some (.lst zs)/\xs.length+zs.length<=sizeLine/\Q .non (upd H l<|.lst<|xs++zs)
def bH:MtM X "list.extend" yO:=by
 rintro pins s σ H x vs v us Q I rx rv ⟨l,b,xs,zs,rfl,rfl,hH,hB,hz,q⟩
 cases rx
 obtain⟨u,rfl,ru⟩:=rv.one
 cases ru
 obtain⟨z,its,n,r,hl,e⟩:=I.gw hH
 obtain⟨z2,its2,n2,r2,hl2,e2⟩:=I.gw hB
 have hsz:its.toArray.size+its2.toArray.size<=sizeLine:=by rw[Co,Co];lia
 have hlong: ¬(!its.toArray.isEmpty&&fz (its.toArray.size+its2.toArray.size))=true:=by
  rw[wO hsz,Bool.and_false]
  exact D0
 refine S5 F.slot_list_extend ⟨_,e,rfl⟩ F.entry_list_extend (F.args_list_extend_2 _ _)
  (AutoSeq1.list_extend_list_list_0 l its.toArray n b its2.toArray n2 hlong (by rw[Co];lia)<|by lia) ⟨e,e2,?_⟩
 refine⟨.non,_,I.uc hH e (by simp) (r.append r2) ?_,rfl,q⟩
 rw[E5]
 lia
noncomputable def AFP:V->List V->Hp->VK->Prop:=fun x vs H Q=> ∃ l xs y,x= .ref l/\vs= []/\H l=some (.lst xs)/\xs[xs.length-1]?=some y/\Q y (upd H l<|.lst xs.dropLast)
def kz:MtM X "list.pop" AFP:=by
 rintro pins s σ H x vs v us Q I rx rv ⟨l,xs,y,rfl,rfl,hH,hy,q⟩
 cases rx
 have hus:=rv.zero
 subst hus
 obtain⟨z,its,n,r,hl,e⟩:=I.gw hH
 obtain⟨u,hu,ru⟩:=r.get hy
 have hy':its.toArray[its.toArray.size-1]?=some u:=by
  show its.toArray[its.length-1]?=some u
  rw[<-qk,<-hl]
  exact hu
 refine S5 F.slot_list_pop ⟨_,e,rfl⟩ F.entry_list_pop (F.args_list_pop_1 _) (MeetsSeq.list_pop_last l its.toArray n u hy'<|by rw[Co];lia) ⟨e,y,_,I.uc hH e ?_ r.dropLast ?_,ru,q⟩
 ·rw[Co,lu,lH]
 ·rw[List.length_dropLast]
  lia
noncomputable def AB2:V->List V->Hp->VK->Prop:=fun x vs H Q=> ∃ l xs i k y,x= .ref l/\vs= [.int i]/\H l=some (.lst xs)/\ -(2^63)<=i/\i<2^63/\WX i xs.length=some k/\xs[k]?=some y/\Q y (upd H l<|.lst<|xs.eraseIdx k)
def xX:MtM X "list.pop" AB2:=by
 rintro pins s σ H x vs v us Q I rx rv ⟨l,xs,i,k,y,rfl,rfl,hH,h1,h2,hk,hy,q⟩
 cases rx
 obtain⟨u,rfl,ru⟩:=rv.one
 obtain⟨t,rfl⟩:=ru
 obtain⟨z,its,n,r,hl,e⟩:=I.gw hH
 obtain⟨w,hw,rw'⟩:=r.get hy
 refine S5 F.slot_list_pop ⟨_,e,rfl⟩ F.entry_list_pop (F.args_list_pop_2 _ _)
  (MeetsSeq.list_pop_at l its.toArray n i t k w (fitsIndex_both h1 h2) (by rw[Co,<-hl];exact hk) (by rw[<-qk];exact hw)<|by rw[Co];lia) ⟨e,?_⟩
 refine⟨y,_,I.uc hH e ?_ (r.eraseIdx k) ?_,rw',q⟩
 ·rw[lu]
 ·have:=Tg xs k
  lia
noncomputable def AC3:V->List V->Hp->VK->Prop:=fun x vs H Q=> ∃ l xs,x= .ref l/\vs= []/\H l=some (.lst xs)/\Q .non (upd H l<|.lst [])
def wJ:MtM X "list.clear" AC3:=by
 rintro pins s σ H x vs v us Q I rx rv ⟨l,xs,rfl,rfl,hH,q⟩
 cases rx
 have hus:=rv.zero
 subst hus
 obtain⟨z,its,n,r,hl,e⟩:=I.gw hH
 exact S5 F.slot_list_clear ⟨_,e,rfl⟩ F.entry_list_clear (F.args_list_clear_1 _) (AutoSeq1.list_clear_list_0 l its.toArray n<|by rw[Co];lia) ⟨e,.non,_,I.uc hH e rfl .nil<|B6 _,rfl,q⟩
noncomputable def AFv:R2:=fun x y H Q=> ∃ l b xs zs,x= .ref l/\y= .ref b/\H l=some (.lst xs)/\H b=some (.lst zs)/\xs.length+zs.length<=sizeLine/\ ∀ p,H p=none->Q (.ref p) (upd H p<|.lst<|xs++zs)
def UI:Ul X (GW .Add) AFv:=by
 rintro pins s σ H x y v u Q I rx ry ⟨l,b,xs,zs,rfl,rfl,hH,hB,hz,q⟩
 cases rx
 cases ry
 obtain⟨z,its,n,r,hl,e⟩:=I.gw hH
 obtain⟨z2,its2,n2,r2,hl2,e2⟩:=I.gw hB
 refine PySem.P.add_list e e2 ?_<|by rw[Co,Co];lia
 have ea:its.toArray++its2.toArray=(its++its2).toArray:=by simp
 rw[ea]
 exact⟨.ref _,_,I.AFO (r.append r2)<|by rw[E5];lia,rfl,q _ I.fresh⟩
end
section
variable{prog:BH}{w:Ao}{A:Dh}{E:AN->Ay->Prop}{s:Ay}
set_option maxRecDepth 100000 in
end
end L2
namespace L2
open PySem PySem.Spec PyProof.Rows
noncomputable abbrev vD(h:Az)(c:AK)(v:Option AN):Prop:=h.IsCell c v
noncomputable def AF1(scope sc:Fd):Fd:=
 {scope with names:=scope.names.map fun(n,k)=>if(k== .free&&sc.kind== .function&&sc.names.lookup n==some .cell)then(n,.cell)else(n,k)}
noncomputable def C3(cells:List (Str×AK)):List (Str×FX)->List (Str×AK)->List (Str×AK)
 | [],acc=>acc
 |(n,k)::r,acc=>if k== .free then C3 cells r ((n,(cells.lookup n).getD 0)::acc)else C3 cells r acc
theorem RY(env:Env)(f:Str×FX->List (Str×AK)->Sem (ForInStep<|List<|Str×AK))
  (hf: ∀ n k c,f (n,k) c=if k== .free then(do let a <-cellOf env n;CB (.yield<|(n,a)::c))else CB (.yield c)):
  ∀ names acc,(∀ y∈names,y.2= .free-> ∃ c,env.cells.lookup y.1=some c)->forIn names acc f=CB (C3 env.cells names acc)
 | [],acc,_=>by rw[mJ];rfl
 |(n,k)::r,acc,h=>by
  rw[List.forIn_cons,hf]
  have ih:=fun acc=>RY env f hf r acc fun y hy=>h y<|Cz _ hy
  unfold C3
  by_cases hk:(k==Rm)=true
  ·rw[AI hk,AI hk]
   obtain⟨c,hc⟩:=h (n,k) Dx<|by simpa using hk
   have e:cellOf env n=CB c:=by unfold cellOf;rw[hc]
   rw[e]
   have e2:(env.cells.lookup n).getD 0=c:=by rw[hc];rfl
   rw[e2]
   exact ih _
  ·rw[AG hk,AG hk]
   exact ih _
def j1(h: ∀ y∈scope.names,y.2= .free-> ∃ c,env.cells.lookup y.1=some c):closureFor scope env=CB (C3 env.cells scope.names []):=by
 simp only[closureFor]
 rw[RY env _ (fun n k c=>rfl) scope.names [] h]
 rfl
theorem mem_lookup: ∀{l:List (Str×α)} {n:Str} {c:α},(n,c)∈l-> ∃ c',l.lookup n=some c'
 |(k,v)::r,n,c,h=>by
  rw[J1]
  cases hb:n==k with
  | true=>exact⟨_,rfl⟩
  | false=>
   rcases Ce.mp h with e | h
   ·cases e;simp at hb
   ·exact mem_lookup h
theorem J3: ∀{names:List (Str×FX)} {acc:List (Str×AK)} {n:Str} {c:AK},(n,c)∈C3 cells names acc->(n,c)∈acc\/((n,.free)∈names/\c=(cells.lookup n).getD 0)
 | [],_,_,_,h=> .inl h
 |(m,k)::r,acc,n,c,h=>by
  unfold C3 at h
  split at h
  ·rename_i hk
   have hk:k= .free:=by simpa using hk
   rcases J3 h with h |⟨h1,h2⟩
   ·rcases Ce.mp h with e | h
    ·cases e;exact .inr ⟨hk▸Dx,rfl⟩
    ·exact .inl h
   ·exact .inr ⟨Cz _ h1,h2⟩
  ·rcases J3 h with h |⟨h1,h2⟩
   ·exact .inl h
   ·exact .inr ⟨Cz _ h1,h2⟩
theorem Nr: ∀{names:List (Str×FX)} {acc:List (Str×AK)} {p:Str×AK},p∈acc->p∈C3 cells names acc
 | [],_,_,h=>h
 |(m,k)::r,acc,p,h=>by
  unfold C3
  split
  ·exact Nr<|Cz _ h
  ·exact Nr h
theorem OL: ∀{names:List (Str×FX)} {acc:List (Str×AK)} {n:Str},(n,.free)∈names->(n,(cells.lookup n).getD 0)∈C3 cells names acc
 |(m,k)::r,acc,n,h=>by
  unfold C3
  rcases Ce.mp h with e | h
  ·cases e
   exact Nr Dx
  ·split
   ·exact OL h
   ·exact OL h
theorem Kz: ∀{names:List (Str×FX)} {h:Az} {acc:List (Str×AK)} {x:Str} {c:AK},(x,c)∈D1 h.objs.size names acc->
  (x,c)∈acc\/((x,.cell)∈names/\h.objs.size<=c/\vD (KJ h names) c none)
 | [],_,_,_,_,h=> .inl h
 |(n,k)::r,h,acc,x,c,hm=>by
  unfold D1 at hm
  unfold KJ
  split at hm
  ·rename_i hk
   rw[AI hk]
   have hk:k= .cell:=by simpa using hk
   rw[<-HD h {cls:= .type "cell",data:= .cell none}]at hm
   rcases Kz hm with hm |⟨h1,h2,h3⟩
   ·rcases Ce.mp hm with e | hm
    ·cases e
     exact .inr ⟨hk▸Dx,BS _,_,Wt r _ _ _<|IF _ rfl,rfl⟩
    ·exact .inl hm
   ·rw[HD]at h2
    exact .inr ⟨Cz _ h1,MA h2,h3⟩
  ·rename_i hk
   rw[AG hk]
   rcases Kz hm with hm |⟨h1,h2,h3⟩
   ·exact .inl hm
   ·exact .inr ⟨Cz _ h1,h2,h3⟩
theorem O5: ∀{names:List (Str×FX)} {n:Nat} {acc:List (Str×AK)} {p:Str×AK},p∈acc->p∈D1 n names acc
 | [],_,_,_,h=>h
 |(m,k)::r,n,acc,p,h=>by
  unfold D1
  split
  ·exact O5<|Cz _ h
  ·exact O5 h
theorem Td: ∀{names:List (Str×FX)} {n:Nat} {acc:List (Str×AK)} {x:Str},(x,.cell)∈names-> ∃ c,(x,c)∈D1 n names acc
 |(m,k)::r,n,acc,x,h=>by
  unfold D1
  rcases Ce.mp h with e | h
  ·cases e
   exact⟨n,O5 Dx⟩
  ·split
   ·exact Td h
   ·exact Td h
theorem T7: ∀{names:List (Str×FX)} {h:Az} {acc:List (Str×AK)} {x y:Str} {c:AK},(∀ p∈acc,p.2<h.objs.size)->(∀ x y c,(x,c)∈acc->(y,c)∈acc->x=y)->
  (x,c)∈D1 h.objs.size names acc->(y,c)∈D1 h.objs.size names acc->x=y
 | [],_,_,_,_,_,_,hi,h1,h2=>hi _ _ _ h1 h2
 |(n,k)::r,h,acc,x,y,c,hl,hi,h1,h2=>by
  unfold D1 at h1 h2
  split at h1
  ·rename_i hk
   rw[AI hk]at h2
   rw[<-HD h {cls:= .type "cell",data:= .cell none}]at h1 h2
   refine T7 (h:=h.push _) (fun p hp=>?_) (fun x y c a b=>?_) h1 h2
   ·rw[HD]
    rcases Ce.mp hp with rfl | hp
    ·exact PD _
    ·exact V0<|hl p hp
   ·rcases Ce.mp a with e | a<;>rcases Ce.mp b with e' | b
    ·cases e;cases e';rfl
    ·cases e;exact absurd (hl _ b)<|Fo _
    ·cases e';exact absurd (hl _ a)<|Fo _
    ·exact hi _ _ _ a b
  ·rename_i hk
   rw[AG hk]at h2
   exact T7 hl hi h1 h2
def iE{code:AN}
  (h:Q (newEnv scope s.heap.objs.size globals (D1 (s.heap.objs.size+1) scope.names closure) qual func code (some around) builtins)
   {s with heap:=KJ (s.heap.push {cls:= .type "dict",data:= .dict #[]}) scope.names}):
  Aw M A (qb scope globals closure [] qual func code (some around) builtins) Q E s:=by
 simp only[qb,nU,D6]
 refine BP<|wpAny_alloc<|BP<|wpAny_layCells _ (fun n k c=>rfl) scope.names closure _ _ ?_
 rw[show({s with heap:=s.heap.push {cls:= .type "dict",data:= .dict #[]}}:Ay).heap.objs.size=s.heap.objs.size+1 from HD ..,mJ]
 exact BP<|Cp<|Cp h
theorem OO{sc:Fd}: ∀{names:List (Str×FX)} {x:Str} {k:FX},
  (names.map fun(n,k)=>if(k==Rm&&sc.kind== .function&&sc.names.lookup n==some .cell)then(n,pN)else(n,k)).lookup x=some k->
  ∃ k',names.lookup x=some k'/\(k=k'\/(k'= .free/\k= .cell))
 | [],_,_,h=>by simp at h
 |(n,k₀)::r,x,k,h=>by
  have ih:= @OO sc r x k
  have h':IZ x ((if(k₀==Rm&&sc.kind== .function&&sc.names.lookup n==some .cell)=true then(n,pN)else(n,k₀))::(r.map _))=some k:=h
  cases hx:x==n with
  | true=>
   simp only[J1,hx]
   by_cases hc:(k₀==Rm&&sc.kind== .function&&sc.names.lookup n==some .cell)=true
   ·rw[AI hc]at h'
    simp only[J1,hx]at h'
    cases h'
    simp only[PQ,Fn]at hc
    exact⟨k₀,rfl,.inr ⟨hc.1.1,rfl⟩⟩
   ·rw[AG hc]at h'
    simp only[J1,hx]at h'
    cases h'
    exact⟨_,rfl,.inl rfl⟩
  | false=>
   simp only[J1,hx]
   by_cases hc:(k₀==Rm&&sc.kind== .function&&sc.names.lookup n==some .cell)=true
   ·rw[AI hc]at h'
    simp only[J1,hx]at h'
    exact ih h'
   ·rw[AG hc]at h'
    simp only[J1,hx]at h'
    exact ih h'
structure NJ(N:List Str)(sc scope:Fd)(own:List (Str×Nat)):Prop where
 kind:scope.kind= .function
 uniq: ∀ y∈scope.names,scope.names.lookup y.1=some y.2
 ix: ∀ p∈own,N[p.2]?=some p.1
 free: ∀ y∈scope.names,y.2= .free->sc.names.lookup y.1=some .cell\/sc.names.lookup y.1=some .free
 own: ∀ y∈scope.names,y.2= .local\/y.2= .cell->y.1∈own.map (·.1)\/y.1∉N
noncomputable def wipe(σ:St):List Nat->St
 | []=>σ
 | v::vs=>(wipe σ vs).set v none
theorem N5(σ:St): ∀ vs,(wipe σ vs).length=σ.length
 | []=>rfl
 | v::vs=>by unfold wipe;rw[DL,N5 σ vs]
theorem Te: ∀{vs:List Nat},(wipe σ vs)[i]?=some (some x)->σ[i]?=some (some x)/\i∉vs
 | [],h=>⟨h,by simp⟩
 | v::vs,h=>by
  unfold wipe at h
  by_cases hi:v=i
  ·subst hi
   by_cases hv:v<(wipe σ vs).length
   ·rw[F3 hv]at h;cases h
   ·rw[EA<|by simpa using hv]at h;cases h
  ·rw[DK hi]at h
   obtain⟨h1,h2⟩:=Te h
   exact⟨h1,by simp only[Ce,not_or];exact⟨fun e=>hi e.symm,h2⟩⟩
noncomputable abbrev Cx.eG(X:Cx)(s:Ay)(H:Hp)(scope:Fd)(cenv:Env)(fp:List AK):Cx:={X with P8:=s,H_0:=H,env:=cenv,outer:=X.stack,ex:=fp,fn:=fun x=>scope.names.lookup x==some .cell,pn:= [],xe:=fun _ _=>False}
section
variable{X:Cx}{pins:List (AK×Obj)}{σ:St}{H:Hp}{s:Ay}
def gM{scope:Fd}(I:Inv X pins σ H s)(ok:NJ X.N X.env.scope scope own)(hN:X.N.Nodup)(hfp: ∀ b∈fp,YO X pins H b/\b<s.heap.objs.size):
  Inv (X.eG s H scope (HE scope (D1 (s.heap.objs.size+1) scope.names<|C3 X.env.cells scope.names []) s.heap.objs.size X.env) fp) [] (wipe σ<|own.map (·.2)) H {s with heap:=KJ (s.heap.push {cls:= .type "dict",data:= .dict #[]}) scope.names}:=by
 have hfree: ∀ y∈scope.names,y.2= .free-> ∃ c,X.env.cells.lookup y.1=some c:=fun y hy e=>by
  rcases ok.free y hy e with k | k
  ·exact I.ok.has _<|.inl k
  ·exact I.ok.has _<|.inr k
 generalize hcenv:HE scope (D1 (s.heap.objs.size+1) scope.names<|C3 X.env.cells scope.names []) s.heap.objs.size X.env=cenv
 have kp: ∀ b o,s.heap.get? b=some o->(KJ (s.heap.push {cls:= .type "dict",data:= .dict #[]}) scope.names).get? b=some o:=fun b o e=>Wt _ _ _ _<|CP _ e
 have hL:cenv.locals=s.heap.objs.size:=by rw[<-hcenv];rfl
 have hcl:cenv.cells=D1 (s.heap.objs.size+1) scope.names (C3 X.env.cells scope.names []):=by rw[<-hcenv];rfl
 have hsc:cenv.scope=AF1 scope X.env.scope:=by rw[<-hcenv];rfl
 rw[<-HD s.heap {cls:= .type "dict",data:= .dict #[]}]at hcl
 have cm: ∀{y c},(y,c)∈C3 X.env.cells scope.names []->X.env.cells.lookup y=some c/\c<s.heap.objs.size:=fun{y c} hm=>by
  rcases J3 hm with hm |⟨h1,rfl⟩
  ·cases hm
  ·obtain⟨c,hc⟩:=hfree _ h1 rfl
   rw[hc]
   obtain⟨w,z⟩:=I.cell _ _ hc
   exact⟨rfl,z.lt⟩
 have mem: ∀{y c},cenv.cells.lookup y=some c->(X.env.cells.lookup y=some c/\c<s.heap.objs.size)\/(s.heap.objs.size+1<=c/\vD (KJ (s.heap.push {cls:= .type "dict",data:= .dict #[]}) scope.names) c none):=fun{y c} e=>by
  rw[hcl]at e
  rcases Kz (FY e)with hm |⟨_,h2,h3⟩
  ·exact .inl<|cm hm
  ·rw[HD]at h2;exact .inr ⟨h2,h3⟩
 have look: ∀{y},scope.names.lookup y=some .free-> ∃ c,cenv.cells.lookup y=some c/\X.env.cells.lookup y=some c:=fun{y} hl=>by
  have hy:=FY hl
  obtain⟨c',e'⟩:=mem_lookup<|O5<|OL hy
  rw[<-hcl]at e'
  refine⟨c',e',?_⟩
  rw[hcl]at e'
  rcases Kz (FY e')with hm |⟨h1,_,_⟩
  ·exact(cm hm).1
  ·have:=ok.uniq _ h1
   rw[hl]at this;cases this
 have okB:(X.eG s H scope cenv fp).Ok:=by
  refine⟨I.ok.mod,by show cenv.scope.kind=_;rw[hsc];exact ok.kind,by show cenv.globals=_;rw[<-hcenv];exact I.ok.glob,by show cenv.builtins=_;rw[<-hcenv];exact I.ok.blt,by show s.heap.objs.size<=cenv.locals;rw[hL];exact BS _,
   fun y z c e1 e2=>?_,fun y hy=>?_,fun y c z e=>?_,I.ok.hd,I.ok.frames,.inl rfl,fun b hb=>⟨?_,fun y c e z=>?_⟩,I.bs,CC I.ok.t8 I.sz,fun b o e hb=>?_,fun b hb z=>?_,I.stack,I.We,I.ok.nd⟩
  ·have e1:=e1
   have e2:=e2
   rw[hcl]at e1 e2
   refine T7 (fun p hp=>?_) (fun y z c a b=>I.ok.inj y z c (cm a).1 (cm b).1) (FY e1)<|FY e2
   rw[HD]
   exact V0 (cm hp).2
  ·have key: ∀ k,cenv.kindOf y=some k->(k= .cell\/k= .free)-> ∃ c,cenv.cells.lookup y=some c:=fun k hk hk'=>by
    unfold Env.kindOf at hk
    rw[hsc]at hk
    obtain⟨k',e,r⟩:=OO hk
    have:k'= .cell\/k'= .free:=by
     rcases r with rfl |⟨rfl,_⟩
     ·exact hk'
     ·exact .inr rfl
    rcases this with rfl | rfl
    ·obtain⟨c,hm⟩:=Td (FY e)
     obtain⟨c',e'⟩:=mem_lookup hm
     exact⟨c',by rw[hcl];exact e'⟩
    ·obtain⟨c,h1,_⟩:=look e
     exact⟨c,h1⟩
   rcases hy with hy | hy
   ·exact key _ hy<|.inl rfl
   ·exact key _ hy<|.inr rfl
  ·have z:=z
   have z:scope.names.lookup y=some .cell:=by simpa using z
   have e:=e
   rw[hcl]at e
   rcases Kz (FY e)with hm |⟨_,h2,_⟩
   ·rcases J3 hm with hm |⟨h1,_⟩
    ·cases hm
    ·have q:=ok.uniq _ h1
     rw[z]at q;cases q
   ·rw[HD]at h2
    exact MA h2
  ·rw[hL];exact DN (hfp b hb).2
  ·have e:=e
   rcases mem e with⟨h1,_⟩ |⟨h1,_⟩
   ·exact(hfp b hb).1.2.2.2.2.1 y c h1 z
   ·have h2:s.heap.objs.size+1<=b:=by rw[<-z];exact h1
    exact absurd (DO (hfp b hb).2<|MA h2)<|Fo _
  ·rcases(hfp b hb).1.2.2.2.1 with z | z
   ·exact I.ok.kf b o e z
   ·exact absurd (DO (Bz e)<|CC I.ok.t8 z)<|Fo _
  ·rcases Ce.mp (I.kN b z)with z | z
   ·exact(hfp b hb).1.2.1 z
   ·exact(hfp b hb).1.2.2.1 z
 refine⟨okB,rfl,I.bare,Un.kept kp,⟨fun _=>none,?_,fun i y av e1 e2 e3=>?_⟩,fun y c e=>?_,?_,fun y c e=>?_,fun p hp=>(absurd (show p∈([]:List (AK×Obj))++ []from hp)<|by simp),I.C0.kept kp,by rw[N5];exact I.len⟩
 ·rw[hL]
  exact Heap.Ns.keeps (Heap.Ns.new ..) fun b o e=>Wt _ _ _ _ e
 ·obtain⟨e2,hne⟩:=Te e2
  have hfr:scope.names.lookup y=some .free/\(cenv.kindOf y=some .cell\/cenv.kindOf y=some .free):=by
   have key: ∀ k,cenv.scope.names.lookup y=some k->k= .local\/k= .cell\/k= .free->scope.names.lookup y=some .free/\(cenv.kindOf y=some .cell\/cenv.kindOf y=some .free):=fun k hk hk'=>by
    have hk0:=hk
    rw[hsc]at hk
    obtain⟨k',e,r⟩:=OO hk
    have no: ¬(k'= .local\/k'= .cell):=fun hh=>by
     rcases ok.own _ (FY e) hh with e' | e'
     ·obtain⟨p,hp,hpy⟩:=Fv.mp e'
      have e3:=ok.ix p hp
      have:=hpy
      rw[this]at e3
      exact hne<|Fv.mpr ⟨p,hp,Y5 hN e3 e1⟩
     ·exact e'<|PZ e1
    rcases r with rfl |⟨rfl,rfl⟩
    ·rcases hk' with rfl | rfl | rfl
     ·exact absurd (.inl rfl) no
     ·exact absurd (.inr rfl) no
     ·exact⟨e,.inr hk0⟩
    ·exact⟨e,.inl hk0⟩
   have e3:=e3
   rcases e3 with e3 | e3 | e3
   ·exact key _ e3<|.inl rfl
   ·exact key _ e3<|.inr<|.inl rfl
   ·exact key _ e3<|.inr<|.inr rfl
  obtain⟨m,hn,hl⟩:=I.loc
  have hvis:vX X.env.scope y:=(ok.free _ (FY hfr.1) rfl).elim (fun k=> .inr<|.inl k) fun k=> .inr<|.inr k
  obtain⟨w,r,q⟩:=hl i y av e1 e2 hvis
  refine⟨w,r,.inr ⟨hfr.2,?_⟩⟩
  obtain⟨c,h1,h2⟩:=look hfr.1
  rcases q with⟨k,_⟩ |⟨_,c',e',z⟩
  ·have k:X.env.scope.names.lookup y=some .local:=k
   rcases ok.free _ (FY hfr.1) rfl with k' | k'<;>rw[show X.env.scope.names.lookup y=_ from k']at k<;>cases k
  ·rw[h2]at e';cases e'
   exact⟨c,h1,z.keeps kp⟩
 ·have e:=e
  rcases mem e with⟨h1,_⟩ |⟨_,z⟩
  ·obtain⟨w,z⟩:=I.cell y c h1
   exact⟨w,z.keeps kp⟩
  ·exact⟨_,z⟩
 ·rw[hL];exact I.C0.fresh<|BS _
 ·rcases mem e with⟨h1,_⟩ |⟨h1,_⟩
  ·exact I.Jq y c h1
  ·exact I.C0.fresh<|MA h1
def ABp{E:AN->Ay->Prop}(I:Inv X pins σ H s)(hD:H D=some (.lst xs))(hz:xs.length<sizeLine)(r:RelV y v)
  (h: ∀ s',Inv X pins σ (upd H D<|.lst<|xs++ [y]) s'->Q .none s'):Aw (Ai X.prog X.w) X.A (call (.builtin "list.append") [.ref D,v]) Q E s:=by
 obtain⟨hz',its,n,ri,e⟩:=I.C0 D _ hD
 have hl:=ri.length
 refine append_at e fun h' sb ho'=>h {s with heap:=h'}<|I.write (by rw[hD];trivial) (.inl rfl) (fun b u hb q=>(sb.2 b hb).trans q) ⟨_,ho'⟩ ⟨by rw[E5];exact hz,its++ [v],n+1,ri.append<|.cons r .nil,?_⟩
 rw[ho']
 simp
noncomputable def PTs(X:Cx)(ifs:List Expr)(t:TT):Prop:=
 ∀(pins:List (AK×Obj)) s (σ:St) H Q,Inv X pins σ H s->t σ H Q->
  Aw (Ai X.prog X.w) X.A (forIn ifs true fun c r=>if r=true then do let ok <-isTrue c X.env (eval c X.env);CB (WJ ok)else CB (WJ r)) (TP X pins σ Q) X.xe s
noncomputable def ADW:TT:=fun _ H Q=>Q true H
def Sr:PTs X [] ADW:=fun _ _ _ H _ I h=>wpAny_tests_nil ⟨H,I,h⟩
def y2(h:PT X c t):PTs X [c] t:=fun pins s σ H Q I hw=>wpAny_tests_one (h pins s σ H Q I hw)
end
def r_(h:Aw M A t Q (fun _ _=>False) s)(hQ: ∀ a s,Q a s->Q' a s):Aw M A t Q' E s:=Et h hQ fun _ _ z=>DM z
theorem cz(I:Nat->Ay->Prop)
  (turn: ∀ n s,I n s->Aw (Ai prog w) A (pyNext it) (fun r s₁=>match r with
   | none=>R (.ok .next) s₁
   | some v=>Aw (Ai prog w) A (Vz target it v) (fun _ s₁'=>Aw (Ai prog w) A (Sn target env v) (fun _ s₂=>
     Aw (Ai prog w) A (forIn ifs true fun c r=>if r=true then do let ok <-isTrue c env (eval c env);CB (WJ ok)else CB (WJ r)) (fun ok s₃=>
      if ok=true then Aw (Ai prog w) A (eval elt env) (fun x s₄=>
       Aw (Ai prog w) A (call (.builtin "list.append") [acc,x]) (fun _ s₅=> ∃ m,m<n/\I m s₅) (PJ (Ai prog w) A env fun e s'=>R (.error e) s') s₄) (PJ (Ai prog w) A env fun e s'=>R (.error e) s') s₃
      else ∃ m,m<n/\I m s₃) (PJ (Ai prog w) A env fun e s'=>R (.error e) s') s₂) (PJ (Ai prog w) A env fun e s'=>R (.error e) s') s₁') (PJ (Ai prog w) A env fun e s'=>R (.error e) s') s₁) (PJ (Ai prog w) A env fun e s'=>R (.error e) s') s)
  (n:Nat) (h:I n s):
  GN (Ai prog w) A (.compLoop (.ListComp elt [⟨target,iter,ifs,0⟩] scope pos) 0 it acc env) R s:=by
 refine codeAny_loop rfl I (fun n s hI=>?_) n h
 refine wpAny_noted ?_
 rw[compTurn_list]
 refine BP<|R0<|BP<|Et (turn n s hI) (fun r s₁ h₁=>?_) fun _ _ h'=>h'
 cases r with
 | none=>exact Cp h₁
 | some v=>
  refine BP<|Et h₁ (fun _ s₁' h₁'=>?_) fun _ _ h'=>h'
  refine BP<|Et h₁' (fun _ s₂ h₂=>BP<|Et h₂ (fun ok s₃ h₃=>?_) fun _ _ h'=>h') fun _ _ h'=>h'
  cases ok with
  | false=>exact Cp ⟨rfl,h₃⟩
  | true=>
   exact BP<|BP<|Et h₃ (fun x s₄ h₄=>BP<|Et h₄ (fun _ s₅ h₅=>Cp<|Cp ⟨rfl,h₅⟩) fun _ _ h'=>h') fun _ _ h'=>h'
section
variable{X:Cx}
noncomputable def tLc(wi:TI)(g:TG)(tt:TT)(te:TE)(vs:List Nat):TE:=fun σ H Q=>wi σ H fun J H1=> ∀ D,H1 D=none-> ∃ W:Nat->Nat->Hp->Prop,(∃ m,W 0 m<|upd H1 D<|.lst [])/\ ∀ i m H,W i m H->
 (J.stop i H/\Q (.ref D) H)\/(J.go i H/\ ∃ Nx:Hp->Prop,(∀ H',Nx H'-> ∃ m',m'<m/\W (i+1) m' H')/\ ∀ x H',J.t_ i H x H'->g x (wipe σ vs) H' fun σ2 H2=>wipe σ2 vs=wipe σ vs/\tt σ2 H2 fun b H3=>
  if b=true then te σ2 H3 fun y H4=> ∃ acc,H4 D=some (.lst acc)/\acc.length<sizeLine/\Nx (upd H4 D<|.lst<|acc++ [y])else Nx H3)
def nB{pins:List (AK×Obj)}{σ:St}
  (hc:X.calm=true) (hN:X.N.Nodup) (I:Inv X pins σ H s) (hi:PI X tg iter wi) (ok:NJ X.N X.env.scope scope own)
  (hg: ∀ s H C cl fp,PG (X.eG s H scope (HE scope cl C X.env) fp) tg g) (ht: ∀ s H C cl fp,PTs (X.eG s H scope (HE scope cl C X.env) fp) ifs tt)
  (he: ∀ s H C cl fp,PE (X.eG s H scope (HE scope cl C X.env) fp) elt te) (hs: ∀ x,W5 iter X.env x=CB x)
  (h:tLc wi g tt te (own.map (·.2)) σ H Q)
  (hRR: ∀ D C s' m H',Inv X pins σ H' s'->Q (.ref D) H'->s'.heap.Ns C m->YO X pins H' C->fM (Ai X.prog X.w) X.A X.xe use Qf (.ref D) C (.ok .next) s'):
  Aw (Ai X.prog X.w) X.A (comprehension (.ListComp elt [⟨tg,iter,ifs,0⟩] scope pos) scope X.env pos' (newList []) false (eval iter X.env) use) Qf X.xe s:=by
 have hfree: ∀ y∈scope.names,y.2= .free-> ∃ c,X.env.cells.lookup y.1=some c:=fun y hy e=>by
  rcases ok.free y hy e with k | k
  ·exact I.ok.has _<|.inl k
  ·exact I.ok.has _<|.inr k
 refine wpAny_comprehension_free rfl hs (j1 hfree) ok.kind (fun y hy e=>by rw[ok.uniq y hy,e])
  (QO (hi pins s σ H _ I h) fun xv s1 hx=>QO hx fun itv s2 h2=>?_)
 obtain⟨it,fp,tn,J,H2,rfl,I2,T,st2,f2,q⟩:=h2
 refine qX (iE ?_)<|by show 0<=sizeLine;decide
 generalize hD:s2.heap.objs.size=D
 obtain⟨W,⟨m0,w0⟩,turn⟩:=q D<|I2.C0.fresh<|W4 hD
 generalize hs3:({s2 with heap:=s2.heap.push {cls:= .type "list",data:= .seq ([]:List AN).toArray}}:Ay)=s3
 have I3:Inv X pins σ (upd H2 D<|.lst []) s3:=by
  rw[<-hs3]
  refine I2.laid (fun b o e=>CP _ e) (W4 hD) ⟨B6 _,[],0,.nil,?_⟩
  rw[<-hD]
  exact IF _ rfl
 have h3:s3.heap=s2.heap.push {cls:= .type "list",data:= .seq ([]:List AN).toArray}:=by rw[<-hs3]
 have sz: ∀ b∈fp,b<s2.heap.objs.size:=fun b hb=>by
  obtain⟨o,e,_⟩:=T.obj _ _ st2 b hb
  exact Bz e
 have f3: ∀ b∈fp,YO X pins (upd H2 D<|.lst []) b/\b<s3.heap.objs.size:=fun b hb=>by
  have hlt:=sz b hb
  refine⟨⟨?_,(f2 b hb).2⟩,by rw[h3,HD];exact V0 hlt⟩
  rw[AQ<|by rw[<-hD];exact DN hlt]
  exact(f2 b hb).1
 have st3:tn 0 s3.heap:=T.keep _ _ _ st2 fun b _ o e=>by rw[h3];exact CP _ e
 have I4:=gM I3 ok hN f3
 have pg:=hg s3 (upd H2 D<|.lst []) s3.heap.objs.size (D1 (s3.heap.objs.size+1) scope.names<|C3 X.env.cells scope.names []) fp
 have pt:=ht s3 (upd H2 D<|.lst []) s3.heap.objs.size (D1 (s3.heap.objs.size+1) scope.names<|C3 X.env.cells scope.names []) fp
 have pe:=he s3 (upd H2 D<|.lst []) s3.heap.objs.size (D1 (s3.heap.objs.size+1) scope.names<|C3 X.env.cells scope.names []) fp
 show GN _ _ (.compStart (.ListComp elt [⟨tg,iter,ifs,0⟩] scope pos) 0 (.ref it) (.ref D)<|HE scope (D1 (s3.heap.objs.size+1) scope.names<|C3 X.env.cells scope.names []) s3.heap.objs.size X.env) (fM (Ai X.prog X.w) X.A X.xe use Qf (.ref D) s3.heap.objs.size) {s3 with heap:=KJ (s3.heap.push {cls:= .type "dict",data:= .dict #[]}) scope.names}
 have nfp: ∀ b∈fp,(upd H2 D<|.lst []) b=none:=fun b hb=>(f3 b hb).1.1
 generalize hce:HE scope (D1 (s3.heap.objs.size+1) scope.names<|C3 X.env.cells scope.names []) s3.heap.objs.size X.env=ce at I4 pg pt pe ⊢
 have cL:ce.locals=s3.heap.objs.size:=by subst hce;rfl
 generalize hH3:upd H2 D (.lst [])=H3 at I3 I4 pg pt pe w0 nfp f3
 generalize hs4:({s3 with heap:=KJ (s3.heap.push {cls:= .type "dict",data:= .dict #[]}) scope.names}:Ay)=s4 at I4 ⊢
 have st4:tn 0 s4.heap:=T.keep _ _ _ st3 fun b _ o e=>by rw[<-hs4];exact Wt _ _ _ _<|CP _ e
 have stat: ∀{σ':St} {H':Hp} {s':Ay},Inv (X.eG s3 H3 scope ce fp) [] σ' H' s'->(∀ b∈fp,H' b=none)-> ∀ b∈fp,YO (X.eG s3 H3 scope ce fp) [] H' b:=fun{σ' H' s'} I' hn b hb=>
  ⟨hn b hb,(I'.ok.exf b hb).1,I'.ok.ja b hb,.inl hb,fun x c e=>(I'.ok.exf b hb).2 x c e,fun p hp=>absurd (show p∈([]:List (AK×Obj))++ []from hp)<|by simp⟩
 have loop:GN (Ai X.prog X.w) X.A (.compLoop (.ListComp elt [⟨tg,iter,ifs,0⟩] scope pos) 0 (.ref it) (.ref D) ce) (fM (Ai X.prog X.w) X.A X.xe use Qf (.ref D) s3.heap.objs.size) s4:=by
  refine cz (fun n s'=> ∃ i H',Inv (X.eG s3 H3 scope ce fp) [] (wipe σ<|own.map (·.2)) H' s'/\tn i s'.heap/\(∀ b∈fp,H' b=none)/\W i n H') ?_ m0 ⟨0,H3,I4,st4,nfp,w0⟩
  rintro n s5 ⟨i,H5,I5,st5,n5,w5⟩
  rcases turn i n H5 w5 with⟨stop,qq⟩ |⟨go,Nx,hNx,step⟩
  ·refine r_ (T.done (X.eG s3 H3 scope ce fp) rfl rfl rfl hc i [] s5 _ H5 (fun _ _=>False) I5 (stat I5 n5) st5 stop) fun r s6 ⟨hr,I6⟩=>?_
   subst hr
   have I7:Inv X pins σ H5 s6:=I3.xM (ch:=fp) I6.os I6.base I6.C0 I6.bare fun b hb=>⟨(f3 b hb).1.2.2.2.1,(f3 b hb).1.2.1,(f3 b hb).1.2.2.2.2.1,(f3 b hb).1.2.2.2.2.2⟩
   have nC:H5 s3.heap.objs.size=none:=by
    have z:H5 ce.locals=none:=I6.free
    rw[cL]at z
    exact z
   obtain⟨m,hn,_⟩:=I6.loc
   have hn:s6.heap.Ns ce.locals m:=hn
   rw[cL]at hn
   exact hRR D s3.heap.objs.size s6 m H5 I7 qq hn<|I3.xA (BS _) nC
  ·refine r_ (T.item (X.eG s3 H3 scope ce fp) rfl rfl rfl hc i [] s5 _ H5 (fun _ _=>False) I5 (stat I5 n5) st5 go) fun r s6 ⟨u,hr,h6⟩=>?_
   subst hr
   refine r_ h6 fun _ s7 ⟨x,H7,I7,r7,y7,st7,n7⟩=>?_
   refine r_ (pg _ s7 _ H7 x u _ (I7.pinned (stat I7 n7)<|T.obj _ _ st7) r7<|step x H7 y7) fun _ s8 ⟨σ8,H8,I8,hw8,q8⟩=>?_
   refine r_ (pt _ s8 σ8 H8 _ I8 q8) fun b s9 ⟨H9,I9,q9⟩=>?_
   have fin: ∀{s':Ay} {H':Hp},Inv (X.eG s3 H3 scope ce fp) ([]++YR fp s7.heap) σ8 H' s'->Nx H'-> ∃ m,m<n/\ ∃ i H',Inv (X.eG s3 H3 scope ce fp) [] (wipe σ<|own.map (·.2)) H' s'/\tn i s'.heap/\(∀ b∈fp,H' b=none)/\W i m H':=fun{s' H'} I' nx=>by
    obtain⟨m',hm,w'⟩:=hNx H' nx
    have pin': ∀ b∈fp,∀ o,s7.heap.get? b=some o->s'.heap.get? b=some o/\H' b=none:=fun b hb o e=>
     let z:=I'.pin (b,o)<|Jx _<|Jx _<|QT hb e
     ⟨z.1,z.2.1⟩
    have hl:(wipe σ<|own.map (·.2)).length=σ8.length:=by rw[<-hw8,N5]
    refine⟨m',hm,i+1,H',(I'.RZ (pins:= [])).weak hl fun j v e=>?_,T.keep _ _ _ st7 fun b hb o e=>(pin' b hb o e).1,fun b hb=>?_,w'⟩
    ·rw[<-hw8]at e
     exact(Te e).1
    ·obtain⟨o,e,_⟩:=T.obj _ _ st7 b hb
     exact(pin' b hb o e).2
   cases b with
   | false=>
    simp only[Wx,FJ]at q9 ⊢
    exact fin I9 q9
   | true=>
    simp only[D6]at q9 ⊢
    refine r_ (pe _ s9 σ8 H9 _ I9 q9) fun z s10 ⟨yv,H10,I10,r10,acc,hD10,hz10,nx⟩=>?_
    exact ABp (X:=X.eG s3 H3 scope ce fp) I10 hD10 hz10 r10 fun s11 I11=>fin I11 nx
 exact codeAny_compStart_list loop<|T.self X.A 0 _ _ _ st4 loop
def vG(hc:X.calm=true)(hN:X.N.Nodup)(hi:PI X tg iter wi)(ok:NJ X.N X.env.scope scope own)
  (hg: ∀ s H C cl fp,PG (X.eG s H scope (HE scope cl C X.env) fp) tg g) (ht: ∀ s H C cl fp,PTs (X.eG s H scope (HE scope cl C X.env) fp) ifs tt)
  (he: ∀ s H C cl fp,PE (X.eG s H scope (HE scope cl C X.env) fp) elt te) (hs: ∀ x,W5 iter X.env x=CB x:=by intro _;rfl):
  PE X (.ListComp elt [⟨tg,iter,ifs,0⟩] scope pos) (tLc wi g tt te<|own.map (·.2)):=by
 intro pins s σ H Q I h
 rw[eval_ListComp]
 refine nB hc hN I hi ok hg ht he hs h fun D C s' m H' I' q hn f=>⟨m,hn,fun h'' sb=>?_⟩
 obtain⟨f0,f1,f2,f3,f4,f5⟩:=f
 exact⟨.ref D,H',I'.turned (fun b o hb e=>(sb.2 b hb).trans e) f0 f1 f3 f4 f5,rfl,q⟩
def Xo(hc:X.calm=true)(hN:X.N.Nodup)(hy:X.N[i]?=some y)(hyl:X.env.scope.names.lookup y=some .local)
  (hsw:Fp (.ListComp elt [⟨tg,iter,ifs,0⟩] scope pos) (some<|.Name y py) spos.line X.env=CB true) (hi:PI X tg iter wi) (ok:NJ X.N X.env.scope scope own)
  (hg: ∀ s H C cl fp,PG (X.eG s H scope (HE scope cl C X.env) fp) tg g) (ht: ∀ s H C cl fp,PTs (X.eG s H scope (HE scope cl C X.env) fp) ifs tt)
  (he: ∀ s H C cl fp,PE (X.eG s H scope (HE scope cl C X.env) fp) elt te) (hs: ∀ x,W5 iter X.env x=CB x:=by intro _;rfl):
  PS X (.Assign [.Name y py] (.ListComp elt [⟨tg,iter,ifs,0⟩] scope pos) spos) (x8 (tLc wi g tt te<|own.map (·.2))<|Rb i):=by
 intro pins s σ H D I h
 rw[exec_Assign_Name_used _ _ _ _ hsw]
 refine BP<|R0<|BP ?_
 refine BP<|QO (nB hc hN I hi ok hg ht he hs h fun L C s' m H' I' q hn f=>?_) fun _ s' hq=>Cp<|Cp hq
 refine oW<|aM (v:=V.ref L) I' hN hy (.inl hyl) rfl (fun s2 I2 ⟨a,sb,ha⟩=>?_)<|.inr hyl
 obtain⟨f0,f1,f2,f3,f4,f5⟩:=f
 have haC:C≠a:=by
  rcases ha with z | z
  ·rw[z];exact f1
  ·exact fun e=>f4 y a z e.symm
 exact⟨m,hn.sameBut sb haC,fun h3 sb3=>⟨_,H',I2.turned (fun b o hb e=>(sb3.2 b hb).trans e) f0 f1 f3 f4 f5,q⟩⟩
def d4(hk:env.scope.kind= .function)(hy:env.scope.names.lookup y=some .local)(hl:(py.line==pos.line)=true)
  (ha:(scope.names.any fun(n,k)=>n==y&&(k== .local||k== .cell))=false):Fp (.ListComp elt gs scope pos) (some<|.Name y py) l env=CB true:=by
 have ky:env.kindOf y=some .local:=hy
 have hb:env.blockKind= .function:=by unfold Env.blockKind;rw[hk];rfl
 unfold Fp
 simp only[hb,ky,ha,Expr.pos,hl]
 rfl
end
def Yb{lo:Int}{g:TG}{tt:TT}{te:TE}{Qd:Hp->Prop}(Pv:Nat->Hp->Prop)(h0:Pv 0 (upd H1 D<|.lst []))
  (hs: ∀ i H,i<n->Pv i H->g (.int<|lo+i) (wipe σ vs) H fun σ2 H2=>wipe σ2 vs=wipe σ vs/\tt σ2 H2 fun b H3=>
   if b=true then te σ2 H3 fun y H4=> ∃ acc,H4 D=some (.lst acc)/\acc.length<sizeLine/\Pv (i+1) (upd H4 D<|.lst<|acc++ [y])else Pv (i+1) H3) (hd: ∀ H,Pv n H->Qd H):
  ∃ W:Nat->Nat->Hp->Prop,(∃ m,W 0 m<|upd H1 D<|.lst [])/\ ∀ i m H,W i m H->
   ((xc lo n).stop i H/\Qd H)\/((xc lo n).go i H/\ ∃ Nx:Hp->Prop,(∀ H',Nx H'-> ∃ m',m'<m/\W (i+1) m' H')/\ ∀ x H',(xc lo n).t_ i H x H'->g x (wipe σ vs) H' fun σ2 H2=>wipe σ2 vs=wipe σ vs/\tt σ2 H2 fun b H3=>
    if b=true then te σ2 H3 fun y H4=> ∃ acc,H4 D=some (.lst acc)/\acc.length<sizeLine/\Nx (upd H4 D<|.lst<|acc++ [y])else Nx H3):=by
 refine⟨fun i m H=>m=n-i/\i<=n/\Pv i H,⟨n,by simp,B6 _,h0⟩,?_⟩
 rintro i m H ⟨rfl,hi,p⟩
 by_cases hlt:i<n
 ·refine .inr ⟨hlt,Pv<|i+1,fun H' p'=>⟨n- (i+1),by lia,rfl,hlt,p'⟩,fun x H' y=>?_⟩
  obtain⟨e,y⟩:=y
  subst e y
  exact hs i _ hlt p
 ·have e:i=n:=by lia
  subst e
  exact .inl ⟨BS _,hd H p⟩
def lZ{K:AS}{g:TG}{tt:TT}{te:TE}{Qd:Hp->Prop}(Pv:Nat->Hp->Prop)(h0:Pv 0 (upd H1 D<|.lst []))(hl: ∀ i H,i<=xs.length->Pv i H->BF K H a xs)
  (hs: ∀ i x H,xs[i]?=some x->Pv i H->g x (wipe σ vs) H fun σ2 H2=>wipe σ2 vs=wipe σ vs/\tt σ2 H2 fun b H3=>
   if b=true then te σ2 H3 fun y H4=> ∃ acc,H4 D=some (.lst acc)/\acc.length<sizeLine/\Pv (i+1) (upd H4 D<|.lst<|acc++ [y])else Pv (i+1) H3) (hd: ∀ H,Pv xs.length H->Qd H):
  ∃ W:Nat->Nat->Hp->Prop,(∃ m,W 0 m<|upd H1 D<|.lst [])/\ ∀ i m H,W i m H->
   ((qV K a).stop i H/\Qd H)\/((qV K a).go i H/\ ∃ Nx:Hp->Prop,(∀ H',Nx H'-> ∃ m',m'<m/\W (i+1) m' H')/\ ∀ x H',(qV K a).t_ i H x H'->g x (wipe σ vs) H' fun σ2 H2=>wipe σ2 vs=wipe σ vs/\tt σ2 H2 fun b H3=>
    if b=true then te σ2 H3 fun y H4=> ∃ acc,H4 D=some (.lst acc)/\acc.length<sizeLine/\Nx (upd H4 D<|.lst<|acc++ [y])else Nx H3):=by
 refine⟨fun i m H=>m=xs.length-i/\i<=xs.length/\Pv i H,⟨xs.length,by simp,B6 _,h0⟩,?_⟩
 rintro i m H ⟨rfl,hi,p⟩
 have q:=hl i H hi p
 by_cases hlt:i<xs.length
 ·refine .inr ⟨⟨xs,xs[i],q,by simp[hlt]⟩,Pv<|i+1,fun H' p'=>⟨xs.length- (i+1),by lia,rfl,hlt,p'⟩,fun x H' y=>?_⟩
  obtain⟨rfl,y⟩:=y
  exact hs i x _ (y xs q) p
 ·have e:i=xs.length:=by lia
  subst e
  exact .inl ⟨⟨xs,q,BS _⟩,hd H p⟩
noncomputable def ADq(N:List Str)(sc scope:Fd)(own:List (Str×Nat)):Bool:=
 (match scope.kind with | .function=>true | _=>false)&&(scope.names.all fun y=>decide (scope.names.lookup y.1=some y.2))&&(own.all fun p=>decide (N[p.2]?=some p.1))&&
  (scope.names.all fun y=>match y.2 with
   | .free=>(match sc.names.lookup y.1 with | some .cell=>true | some .free=>true | _=>false)
   | .local=>decide (y.1∈own.map (·.1))||decide (y.1∉N)
   | .cell=>decide (y.1∈own.map (·.1))||decide (y.1∉N)
   | _=>true)
def LN(h:ADq N sc scope own=true):NJ N sc scope own:=by
 unfold ADq at h
 simp only[PQ,GB,MK]at h
 obtain⟨⟨⟨h1,h2⟩,h3⟩,h4⟩:=h
 refine⟨?_,h2,h3,fun y hy e=>?_,fun y hy e=>?_⟩
 ·split at h1
  ·assumption
  ·cases h1
 ·have q:=h4 y hy
  simp only[e]at q
  split at q<;>first | exact .inl (by assumption) | exact .inr (by assumption) | cases q
 ·have q:=h4 y hy
  rcases e with e | e<;>(simp only[e,qJ,MK]at q;exact q)
end L2
namespace L2
open PySem PySem.Spec PyProof.Rows
section
variable{κ:Type} [DecidableEq κ]
noncomputable def E1(BU:List (κ×V))(k:κ):Option V:=(BU.find? fun kv=>decide (kv.1=k)).map (·.2)
noncomputable def putK(BU:List (κ×V))(k:κ)(v:V):List (κ×V):=
 if(BU.any fun kv=>decide (kv.1=k))=true then BU.map (fun kv=>if kv.1=k then(kv.1,v)else kv)else BU++ [(k,v)]
def EW{p:κ×V}{r:List (κ×V)}(e:p.1=k):E1 (p::r) k=some p.2:=by simp[E1,Jm,e]
def Eg{p:κ×V}{r:List (κ×V)}(e: ¬ p.1=k):E1 (p::r) k=E1 r k:=by simp[E1,Jm,e]
theorem JP(k:κ): ∀ BU:List (κ×V),(BU.any fun kv=>decide (kv.1=k))=(E1 BU k).isSome
 | []=>rfl
 | p::r=>by
  rw[eZ]
  by_cases e:p.1=k
  ·simp only[EW e,Av e,Bool.true_or,nU]
  ·rw[Eg e,D5 e,Bool.false_or];exact JP k r
theorem iP(k j:κ)(y:V): ∀ BU:List (κ×V),E1 (BU.map fun kv=>if kv.1=k then(kv.1,y)else kv) j=(E1 BU j).map fun x=>if j=k then y else x
 | []=>rfl
 | p::r=>by
  have ih:=iP k j y r
  rw[GY]
  by_cases h:p.1=k
  ·rw[AI h]
   by_cases e:p.1=j
   ·rw[EW (p:=(p.1,y)) e,EW e,Rk,AI<|e.symm.trans h]
   ·rw[Eg (p:=(p.1,y)) e,Eg e,ih]
  ·rw[AG h]
   by_cases e:p.1=j
   ·rw[EW (p:=p) e,EW e,Rk,AG fun z=>h<|e.trans z]
   ·rw[Eg (p:=p) e,Eg e,ih]
theorem aO(k j:κ)(y:V): ∀ BU:List (κ×V),E1 BU k=none->E1 (BU++ [(k,y)]) j=if j=k then some y else E1 BU j
 | [],_=>by
  by_cases e:k=j
  ·rw[AI e.symm];exact EW (p:=(k,y)) e
  ·rw[AG fun z=>e z.symm];exact Eg (p:=(k,y)) e
 | p::r,hn=>by
  rw[List.cons_append]
  have hk: ¬ p.1=k:=fun z=>by rw[EW z]at hn;cases hn
  rw[Eg hk]at hn
  have ih:=aO k j y r hn
  by_cases e:p.1=j
  ·rw[EW e,EW e,AG fun z=>hk<|e.trans z]
  ·rw[Eg e,Eg e,ih]
def wU(BU:List (κ×V))(k j:κ)(y:V):E1 (putK BU k y) j=if j=k then some y else E1 BU j:=by
 unfold putK
 by_cases a:(BU.any fun kv=>decide (kv.1=k))=true
 ·rw[AI a,iP]
  rw[JP]at a
  by_cases e:j=k
  ·obtain⟨x,hx⟩:=dH.mp a
   rw[AI e,e,hx,Rk,AI rfl]
  ·rw[AG e]
   cases E1 BU j with
   | none=>rfl
   | some x=>rw[Rk,AG e]
 ·rw[AG a]
  refine aO k j y BU ?_
  rw[JP]at a
  cases q:E1 BU k with
  | none=>rfl
  | some x=>rw[q]at a;exact(a rfl).elim
def Uz(BU:List (κ×V))(k:κ)(v:V):(putK BU k v).length<=BU.length+1:=by
 unfold putK
 split
 ·rw[A8];lia
 ·rw[E5,G4,Wo];lia
def uh{BU:List (κ×V)}{k:κ}(v:V)(h:E1 BU k=none):putK BU k v=BU++ [(k,v)]:=by
 unfold putK
 rw[JP,h]
 exact AG<|by decide
theorem Pk.si(r:Pk o u):o.isSome=u.isSome:=by
 cases o with
 | none=>cases u with
  | none=>rfl
  | some _=>exact(r).elim
 | some _=>cases u with
  | none=>exact(r).elim
  | some _=>rfl
theorem Pk.getD(r:Pk o u)(rd:RelV d d'):RelV (o.getD d) (u.getD d'):=by
 cases o with
 | none=>cases u with
  | none=>exact rd
  | some _=>exact(r).elim
 | some _=>cases u with
  | none=>exact(r).elim
  | some _=>exact r
theorem KV.val(r:KV BU vs)(k:κ):Pk (E1 BU k) (Ox vs k):=by
 unfold KV at r
 induction r with
 | nil=>exact IU
 | @cons p q ps qs h t ih=>
  obtain⟨h1,h2⟩:=h
  by_cases e:p.1=k
  ·have e':=h1.symm.trans e
   have b:Ox (q::qs) k=some q.2:=by simp[Ox,Jm,e']
   rw[EW e,b];exact h2
  ·have e': ¬ q.1=k:=fun z=>e (h1.trans z)
   have b:Ox (q::qs) k=Ox qs k:=by simp[Ox,Jm,e']
   rw[Eg e,b];exact ih
theorem KV.any(r:KV BU vs)(k:κ):(BU.any fun kv=>decide (kv.1=k))=vs.any fun kv=>decide (kv.1=k):=by
 unfold KV at r
 induction r with
 | nil=>rfl
 | cons h t ih=>rw[eZ,eZ,ih,h.1]
theorem KV.ABW(r:KV BU vs)(k:κ)(ry:RelV y u):
  KV (BU.map fun kv=>if kv.1=k then(kv.1,y)else kv) (vs.map fun kv=>if kv.1=k then(kv.1,u)else kv):=by
 unfold KV at r ⊢
 induction r with
 | nil=>exact .nil
 | @cons p q ps qs h t ih=>
  rw[GY,GY]
  refine .cons ?_ ih
  obtain⟨h1,h2⟩:=h
  by_cases e:p.1=k
  ·rw[AI e,AI<|h1.symm.trans e];exact⟨h1,ry⟩
  ·rw[AG e,AG fun z=>e<|h1.trans z];exact⟨h1,h2⟩
def KV.put(r:KV BU vs)(k:κ)(ry:RelV y u):KV (putK BU k y) (stored vs k u):=by
 unfold putK stored
 rw[r.any k]
 by_cases e:(vs.any fun kv=>decide (kv.1=k))=true
 ·rw[AI e,AI e];exact r.ABW k ry
 ·rw[AG e,AG e];exact lU r ⟨rfl,ry⟩
def KV.length{BU:List (κ×V)}{vs:List (κ×AN)}(r:KV BU vs):BU.length=vs.length:=dt r
end
theorem gU(r:RelV (kV k) u):(DW P w).is k u=true:=by
 cases k with
 | inl i=>obtain⟨t,e⟩:=(r);subst e;exact i7 P w i t
 | inr x=>obtain⟨t,e⟩:=(r);subst e;exact iA P w x t
theorem Z9: ∀{ks:List Key} {us:List AN},Vals (ks.map kV) us->ItemsAre (DW P w) ks us
 | [],_,r=>by rw[List.map_nil]at r;cases r;exact .nil
 | k::ks,_,r=>by
  rw[GY]at r
  cases r with
  | cons h t=>exact .cons (gU h)<|Z9 t
noncomputable abbrev KT(H:Hp):List (List Key×V)->List (List Key×AK×AN)->Prop:=Ot fun p q=>p.1=q.1/\H q.2.1=some (.tup<|p.1.map kV)/\RelV p.2 q.2.2
theorem KT.val(r:KT H BU xs)(k:List Key):Pk (E1 BU k) ((J6 xs k).map (·.2)):=by
 induction r with
 | nil=>exact IU
 | @cons p q ps qs h t ih=>
  obtain⟨h1,_,h2⟩:=h
  by_cases e:p.1=k
  ·have e':=h1.symm.trans e
   have b:J6 (q::qs) k=some q.2:=by simp[J6,Jm,e']
   rw[EW e,b];exact h2
  ·have e': ¬ q.1=k:=fun z=>e (h1.trans z)
   have b:J6 (q::qs) k=J6 qs k:=by simp[J6,Jm,e']
   rw[Eg e,b];exact ih
theorem KT.ABW(r:KT H BU xs)(k:List Key)(ry:RelV y u):
  KT H (BU.map fun kv=>if kv.1=k then(kv.1,y)else kv) (xs.map<|putAt k u):=by
 induction r with
 | nil=>exact .nil
 | @cons p q ps qs h t ih=>
  rw[GY,GY]
  refine .cons ?_ ih
  obtain⟨h1,h2,h3⟩:=h
  unfold putAt
  by_cases e:p.1=k
  ·rw[AI e,AI<|h1.symm.trans e];exact⟨h1,h2,ry⟩
  ·rw[AG e,AG fun z=>e<|h1.trans z];exact⟨h1,h2,h3⟩
def KT.put(r:KT H BU xs)(k:List Key)(hb:H b=some (.tup<|k.map kV))(ry:RelV y u):
  KT H (putK BU k y) (storedH xs k b u):=by
 have e:(BU.any fun kv=>decide (kv.1=k))=(J6 xs k).isSome:=by
  rw[JP,(r.val k).si,Option.isSome_map]
 unfold putK storedH
 rw[e]
 by_cases q:(J6 xs k).isSome=true
 ·rw[AI q,AI q];exact r.ABW k ry
 ·rw[AG q,AG q];exact lU r ⟨rfl,hb,ry⟩
def KT.keeps(r:KT H BU xs)(ht: ∀ b ys,H b=some (.tup ys)->H' b=some (.tup ys)):KT H' BU xs:=
 Paired.AEg r fun _ _ z=>⟨z.1,ht _ _ z.2.1,z.2.2⟩
section
variable{P:BH}{w:Ao}{H:Hp}{h:Az}{a:AK}
def AAi(ok:NG P w H h)(e:Rd H a u):EK P w H h a u:=e.ok ok
def wI(ok:NG P w H h)(e:Rd H a (.dK BU)):BU.length<=sizeLine/\(a==G5)=false/\ ∃ vs,KV BU vs/\h.DictOf (DW P w) a vs:=
 show EK P w H h a (.dK BU)from AAi ok e
def ADp(ok:NG P w H h)(e:H a=some (.dK BU)):BU.length<=sizeLine/\(a==G5)=false/\ ∃ vs,KV BU vs/\h.DictOf (DW P w) a vs:=wI ok (.inl e)
def js(ok:NG P w H h)(e:H a=some (.tup<|ks.map kV)):(PB<|DW P w).is h ks a:=by
 obtain⟨_,its,r,o,h1,h2,n,h3⟩:=(ok a _ e)
 exact⟨o,its.toArray,n,h1,h2,h3,by simpa using Z9 r⟩
def wK(ok:NG P w H h)(e:Rd H a (.dT BU)):BU.length<=sizeLine/\(a==G5)=false/\
  ∃ xs,KT H BU xs/\h.DictOfH (PB<|DW P w) a xs:=by
 obtain⟨z,y,xs,r,o,es,ep,h1,h2,h3,h4,h5⟩:=(AAi ok e)
 refine⟨z,y,xs,r,o,es,ep,h1,h2,h3,h4,fun x hx=>?_,h5⟩
 have all: ∀{l:List (List Key×V)} {m:List (List Key×AK×AN)},KT H l m-> ∀ x∈m,(PB<|DW P w).is h x.1 x.2.1:=by
  intro l m q
  induction q with
  | nil=>intro x hx;exact nomatch hx
  | @cons p q ps qs hq t ih=>
   intro x hx
   rcases Ce.mp hx with e | hx
   ·subst e
    exact js ok<|by rw[<-hq.1];exact hq.2.1
   ·exact ih x hx
 exact all r x hx
def AEX(ok:NG P w H h)(e:H a=some (.dT BU)):BU.length<=sizeLine/\(a==G5)=false/\
  ∃ xs,KT H BU xs/\h.DictOfH (PB<|DW P w) a xs:=wK ok<|.inl e
end
noncomputable def uW(H:Hp)(a:AK)(y:V)(r:Option V):Prop:=
 (∃ BU k,Rd H a (.dK BU)/\y=kV k/\r=E1 BU k)\/ ∃ BU k b,Rd H a (.dT BU)/\y= .ref b/\H b=some (.tup<|k.map kV)/\r=E1 BU k
noncomputable def uX(H:Hp)(a:AK)(y v:V)(H':Hp):Prop:=
 (∃ BU k,H a=some (.dK BU)/\y=kV k/\BU.length<sizeLine/\H'=upd H a (.dK<|putK BU k v))\/
 ∃ BU k b,H a=some (.dT BU)/\y= .ref b/\H b=some (.tup<|k.map kV)/\BU.length<sizeLine/\H'=upd H a (.dT<|putK BU k v)
def uW.k{k:Key}(e:H a=some (.dK BU)):uW H a (kV k) (E1 BU k):= .inl ⟨BU,k,.inl e,rfl,rfl⟩
def uX.k{k:Key}(e:H a=some (.dK BU))(hl:BU.length<sizeLine):uX H a (kV k) v (upd H a<|.dK<|putK BU k v):= .inl ⟨BU,k,e,rfl,hl,rfl⟩
section
variable{X:Cx}{pins:List (AK×Obj)}{σ:St}{H:Hp}{s:Ay}{a:AK}{y v:V}{u r:AN}{o:Option V}{A:Dh}{E:AN->Ay->Prop}
def Inv.big(I:Inv X pins σ H s):G5<s.heap.objs.size:=by
 exact HV (by decide)<|(I.mod.glob.keeps I.bk).lt
def ot{h':Az}(I:Inv X pins σ H s)(mu:Mut (H a))(hs:SD a s.heap h')(he: ∃ q,h'.get? a=some q)(new:EK X.prog X.w (upd H a ob) h' a ob):
  Inv X pins σ (upd H a ob) {s with heap:=h',toks:=t'}:=
 I.write mu (.inl rfl) (fun b q hb z=>(hs.2 b hb).trans z) he new
def ACi(z:BU.length<=sizeLine)(hd:(a==G5)=false)(rel:KV BU vs)(dd:h'.DictOf (DW P w) a vs):
  EK P w H' h' a (.dK BU):=⟨z,hd,vs,rel,dd⟩
def rk{H':Hp}(hu:A.units+1<L6)(I:Inv X pins σ H s)(g:uX H a y v H')(ry:RelV y u)(rv:RelV v r)(h: ∀ s',Inv X pins σ H' s'->Q () s'):
  Aw (Ai X.prog X.w) A (b9 (.ref a) u r) Q E s:=by
 rcases g with⟨BU,k,e,ey,l,eH⟩ |⟨BU,k,b,e,ey,eb,l,eH⟩
 ·subst ey eH
  obtain⟨z,hd,vs,rel,dd⟩:=ADp I.C0 e
  have hz:vs.length<=sizeLine:=by rw[<-rel.length];exact z
  have hl:(putK BU k v).length<=sizeLine:=by have:=Uz BU k v;lia
  refine wpAny_setItem_pairs (gU ry) dd fun h' dd' hs=>h _ ?_
  have he: ∃ q,h'.get? a=some q:=let⟨q,_,_,hq,_⟩:=dd';⟨q,hq⟩
  exact ot I (by rw[e];exact IU) hs he<|ACi hl hd (rel.put k rv) dd'
 ·subst ey eH
  cases (ry)
  obtain⟨z,hd,xs,rel,dd⟩:=AEX I.C0 e
  have hz:xs.length<=sizeLine:=by rw[<-dt rel];exact z
  have hl:(putK BU k v).length<=sizeLine:=by have:=Uz BU k v;lia
  refine wpAny_setItem_heap (lz hu) (js I.C0 eb) dd fun h' dd' hs=>h _ ?_
  obtain⟨q,es,ep,hq,h2,h3,h4,_,h5⟩:=dd'
  refine ot I (by rw[e];exact IU) hs ⟨q,hq⟩ ⟨hl,hd,_,(rel.put k eb rv).keeps fun c ys ec=>?_,q,es,ep,hq,h2,h3,h4,h5⟩
  rw[AQ<|aT ec e fun z=>nomatch z]
  exact ec
end
noncomputable def AD9(i:Expr):Prop:= ∀ ov iv,WS i false ov iv=bb [ov,iv] (TU ov iv)
def xr{T id:String}
  (hl:V1 (.type T) "__getitem__"=CB (some<|.builtin id)) (hs:AD9 slice)
  (h:Aw (Ai prog w) A (eval value env) (fun o s₁=>Aw (Ai prog w) A (eval slice env) (fun i s₂=>s₂.TypeIs o T/\Aw (Ai prog w) A (TU o i) Q E s₂) E s₁) E s):
  Aw (Ai prog w) A (eval (.Subscript value slice pos) env) Q E s:=by
 refine eh<|Et h (fun o s₁ h₁=>Et h₁ (fun i s₂ h₂=>?_) fun _ _ x=>x) fun _ _ x=>x
 obtain⟨hT,h₂⟩:=h₂
 unfold nO
 refine BP ?_
 rw[getitemInPython_of_ne hT.not_modules]
 refine BP<|wpAny_specialOf hT hl ?_
 have fin:Aw (Ai prog w) A (WS slice false o i) (fun r s₃=>Aw (Ai prog w) A (letTemporaryGo value o r>>=fun _=>CB r) Q E s₃) E s₂:=by
  rw[hs o i]
  exact wpAny_operating<|Et h₂ (fun r s₃ h₃=>BP<|wpAny_letTemporaryGo<|Cp h₃) fun _ _ x=>x
 first
  | exact Cp<|BP fin
  | exact BP<|Cp<|BP fin
  | exact BP fin
noncomputable def ADu(td ty tv:TE):TS:=fun D σ H=>tv σ H fun v H1=>td σ H1 fun x H2=>ty σ H2 fun y H3=> ∃ a H4,x= .ref a/\uX H3 a y v H4/\D.nx σ H4
section
variable{X:Cx}{o i e value:Expr}{pos pos' tpos:Pos}{td ty tv:TE}
def y1(hu:X.A.units+1<L6)(ho:PE X o td)(hi:PE X i ty)(hv:PE X value tv)(hs:Fp value (some<|.Subscript o i pos') pos.line X.env=CB false):
  PS X (.Assign [.Subscript o i pos'] value pos) (ADu td ty tv):=by
 refine fun pins s σ H D I h=>wpAny_Assign_Subscript (HI (hv pins s σ H _ I h) fun r s1 v H1 I1 rv q1=>HI (ho pins s1 σ H1 _ I1 q1) fun u s2 x H2 I2 rx q2=>HI (hi pins s2 σ H2 _ I2 q2) fun iv s3 y H3 I3 ry q_=>?_) hs
 obtain⟨a,H4,ex,g,q3⟩:=q_
 subst ex
 obtain rfl:u=CY a:=rx
 exact rk hu I3 g ry rv fun s4 I4=>⟨σ,H4,I4,q3⟩
end
def vx(h:Az)(hb:G5<h.objs.size):EK P w H (h.push {cls:= .type "dict",data:= .dict #[]}) h.objs.size (.dK []):=
 ⟨B6 _,Jt.mpr<|Ea<|DN hb,[],.nil,z6 h⟩
noncomputable def ACK:TE:=fun _ H Q=> ∀ p,H p=none->Q (.ref p) (upd H p<|.dK [])
section
variable{X:Cx}{pos:Pos}
def Xu:PE X (.Dict [] [] pos) ACK:=fun pins s σ H Q I h=>
 wpAny_Dict_empty ⟨.ref s.heap.objs.size,_,I.laid (fun _ _ q=>CP _ q) (BS _)<|vx s.heap I.big,rfl,h _<|I.C0.fresh<|BS _⟩
end
structure M1(X:Cx)(o:Expr)(m:Str)(apos:Pos)(e:Expr)(cpos:Pos):Prop where
 base:KQ o m X.env (eval o X.env)=eval o X.env
 ZA:((Cn cpos (Au [e] X.env)).all (fun x=>!x.1)&&(Ii cpos (IW [] X.env)).all (fun x=>x.1.isSome)
  &&decide (([e]:List Expr).length+([]:List WD).length+(if([]:List WD).isEmpty then 0 else 1)<30))=true
 line:(apos.endLine==cpos.line)=true
 trees:Cn cpos (Au [e] X.env)= [(false,eval e X.env)]
noncomputable def IsD(H:Hp)(a:AK):Prop:=(∃ BU,Rd H a<|.dK BU)\/ ∃ BU,Rd H a (.dT BU)
def ABu{X:Cx}{σ:St}(I:Inv X pins σ H s)(d:IsD H a):
  s.TypeIs (.ref a) "dict"/\(∀ b,CY a= .ref b-> ∃ ob,s.heap.get? b=some ob/\ob.dict=none)/\(a==G5)=false:=by
 rcases d with⟨BU,e⟩ |⟨BU,e⟩
 ·obtain⟨_,hd,vs,_,dd⟩:=wI I.C0 e
  refine⟨dd.typeIs,fun b q=>?_,hd⟩
  cases q
  obtain⟨ob,_,_,h1,h2,_⟩:=dd
  exact⟨ob,h1,h2.2.1⟩
 ·obtain⟨_,hd,xs,_,dd⟩:=wK I.C0 e
  refine⟨dd.typeIs,fun b q=>?_,hd⟩
  cases q
  obtain⟨ob,_,_,h1,h2,_⟩:=dd
  exact⟨ob,h1,h2.2.1⟩
section
variable{X:Cx}{pins:List (AK×Obj)}{σ:St}{H:Hp}{s:Ay}{a:AK}{y d:V}{u r:AN}{o:Option V}{A:Dh}{E:AN->Ay->Prop}
def AB1{Q:AN->Ay->Prop}(hu:A.units+1<L6)(I:Inv X pins σ H s)(g:uW H a y o)(ry:RelV y u)(h: ∀ w' s',Inv X pins σ H s'->RelV (o.getD .non) w'->Q w' s'):
  Aw (Ai X.prog X.w) A (call (.builtin "dict.get") [.ref a,u]) Q E s:=by
 rcases g with⟨BU,k,e,ey,l⟩ |⟨BU,k,b,e,ey,eb,l⟩
 ·subst ey
  obtain⟨z,hd,vs,rel,dd⟩:=wI I.C0 e
  refine e_ Se dd.typeIs dj (ff _ _) (nY (DW X.prog X.w) a (gU ry) hd) ⟨_,dd.mapOf,h _ _ (I.tok _) ?_⟩
  rw[l]
  exact(rel.val k).getD rfl
 ·subst ey
  cases (ry)
  obtain⟨z,hd,xs,rel,dd⟩:=wK I.C0 e
  refine e_ Se dd.typeIs dj (ff _ _) (meetsH_dict_get (PB<|DW X.prog X.w) a b hd) ⟨lz hu,k,xs,js I.C0 eb,dd,h _ _ (I.tok _) ?_⟩
  rw[l]
  exact(rel.val k).getD rfl
end
noncomputable def ACD(td ty:TE):TE:=fun σ H Q=>td σ H fun x H1=> ∃ a,x= .ref a/\IsD H1 a/\ty σ H1 fun y H2=> ∃ o,uW H2 a y o/\Q (o.getD .non) H2
section
variable{X:Cx}{o e f:Expr}{apos cpos:Pos}{td ty tx:TE}
def vy(hu:X.A.units+1<L6)(ho:PE X o td)(he:PE X e ty)(m:M1 X o "get" apos e cpos):PE X (.Call (.Attribute o "get" apos) [e] [] cpos) (ACD td ty):=by
 refine fun pins s σ H Q I h=>nV m.base m.ZA m.line pU Se nM<|HI (ho pins s σ H _ I h) fun u s1 x H1 I1 rx q_=>?_
 obtain⟨a,ex,d,q1⟩:=q_
 subst ex
 obtain rfl:u=CY a:=rx
 obtain⟨t1,t2,_⟩:=ABu I1 d
 refine⟨t1,t2,?_⟩
 rw[m.trees]
 exact XE rfl<|dD<|fC<|HI (he pins s1 σ H1 _ I1 q1) fun iv s2 y H2 I2 ry ⟨ov,g,q2⟩=>cQ<|AB1 hu I2 g ry fun w' s3 I3 rw'=>⟨_,H2,I3,rw',q2⟩
end
end L2
namespace L2
open PySem PySem.Spec PyProof.Rows
section
variable{X:Cx}{pins:List (AK×Obj)}{σ:St}{H:Hp}{s:Ay}{h':Az}
def Inv.rf{t':Nat}{ch:List AK}{T:AK}(I:Inv X pins σ H s)(k: ∀ b o,b∉ch->s.heap.get? b=some o->h'.get? b=some o)(hf: ∀ b∈ch,YO X pins H b)(hT:s.heap.objs.size<=T)
  (new:EK X.prog X.w (upd H T ob) h' T ob):Inv X pins σ (upd H T ob) {s with heap:=h',toks:=t'}:=by
 have hn:=I.C0.fresh hT
 have nit: ∀ b u,H b=some u->b∉ch:=fun b u e z=>by
  have q:=(hf b z).1
  rw[q]at e;cases e
 refine I.step (fun b hb=>⟨(hf b hb).2.2.2.1,(hf b hb).2.1,(hf b hb).2.2.2.2.1,(hf b hb).2.2.2.2.2⟩) (fun b o _ _ hc e _=>k b o hc e) (fun b o _ _ hc e _=>⟨o.slots,k b o hc e⟩)
  (fun b o _ e n=>?_) (fun b o hc e=>⟨o,k b o hc e⟩) (fun b xs e=>?_) (fun b o u e=>?_) (fun b ps e=>⟨#[],?_⟩) (fun m hm=>?_) (fun b u e=>?_) I.bare
 ·rw[AQ<|DN<|DO (Bz e) hT];exact n
 ·rw[AQ<|Ac e hn];exact e
 ·rw[AQ<|Ac e hn];exact e
 ·rw[AQ<|Ac e hn,e];simp
 ·obtain⟨o,es,ep,ho,r⟩:=hm
  exact⟨o,es,ep,k _ o (fun z=>(hf _ z).2.1 rfl) ho,r⟩
 ·by_cases hb:b=T
  ·subst hb
   rw[AJ]at e
   cases e
   exact new
  ·rw[AQ hb]at e
   refine(I.C0 b u e).Pl (fun c v hc q=>k c v ?_ q) (fun c q=>by rw[AQ<|Ac q hn];exact q) fun c xs q=>by rw[AQ<|Ac q hn];exact q
   rcases hc with z | z
   ·rw[z];exact nit b u e
   ·exact nit c _ z
end
section
variable{X:Cx}
def ACB{tg:Expr}{σ:St}(I:Inv X pins σ H s)(o:Obj)
  (T:Turn X.prog X.w X.K tg J [s.heap.objs.size] s.heap.objs.size tn) (st:tn 0 (s.heap.push o)) (q:R J H):PIE X pins σ tg R (.ref s.heap.objs.size) {s with heap:=s.heap.push o,toks:=tk}:=by
 refine⟨s.heap.objs.size,[s.heap.objs.size],tn,J,H,rfl,I.kept fun b ob e=>CP _ e,T,st,fun b hb=>?_,q⟩
 have e:b=s.heap.objs.size:=by simpa using hb
 subst e
 exact I.xA (BS _)<|I.C0.fresh<|BS _
end
noncomputable def Itc(lo c:Int)(n:Nat):It:=⟨fun i _=>i<n,fun i H x H'=>H'=H/\x= .int (lo+(i:Nat)*c),fun i _=>n<=i⟩
theorem gL{P:BH}{K:AS}(it:AK)(lo c:Int)(n:Nat):Turn P w K tg (Itc lo c n) [it] it (fun i h=>IsRangeIter h it (lo+(i:Nat)*c) ((n:Int)- (i:Nat)) c) where
 mem:=by simp
 obj:=fun i h st b hb=>by
  have e:b=it:=by simpa using hb
  subst e
  exact⟨_,st,fun v z=>nomatch z⟩
 keep:=fun i h h' st k=>k it (by simp) _ st
 item:=by
  intro X hP hw hK hc i pins s σ H E I hf st hg
  subst hP hw hK
  obtain⟨f0,f1,f2,f3,f4,f5⟩:=hf it<|by simp
  have W:=ph (prog:=X.prog) (w:=X.w) (I.ok.hd hc) it lo c n
  refine W.item i s _ _ hg st fun v h' tk hv st' kk=>?_
  obtain⟨t,rfl⟩:=hv
  have I1:Inv X pins σ H {s with heap:=h',toks:=tk}:=I.turned (fun b o hb e=>kk b o (by simpa using hb) e) f0 f1 f3 f4 f5
  exact⟨_,rfl,wt (s:={s with heap:=h',toks:=tk}) (n:="range_iterator") st' rfl rfl (by decide) ⟨.int<|lo+(i:Nat)*c,H,I1,⟨t,rfl⟩,⟨rfl,rfl⟩,st',fun b hb=>(hf b hb).1⟩⟩
 done:=by
  intro X hP hw hK hc i pins s σ H E I hf st hg
  subst hP hw hK
  obtain⟨f0,f1,f2,f3,f4,f5⟩:=hf it<|by simp
  exact qx (I.ok.hd hc) st (by have:n<=i:=hg;lia) fun h' eb=>⟨rfl,I.turned (t':=s.toks) (fun b o hb e=>eb b o hb e) f0 f1 f3 f4 f5⟩
 self:=fun A i s Q E st h=>mV st h
noncomputable def RgC(i j c:Int)(n:Nat):Prop:=c≠0/\c.natAbs<1073741824/\c9 i j c=true/\Ov i j c=n
noncomputable def AEr(ta:TA):TI:=fun σ H R=>ta σ H fun vs H1=> ∃ i j c n,vs= [.int i,.int j,.int c]/\RgC i j c n/\R (Itc i c n) H1
section
variable{X:Cx}{tg:Expr}
theorem ax{p pos:Pos}(hg:Gl X "range")(hm:X.mg "range"=none)(ha:PA X [a,b,c] ta)
  (hs:Au [a,b,c] X.env=(false,eval a X.env)::Au [b,c] X.env:=by rfl) (hpl:(Cn pos<|Au [b,c] X.env).any (·.1)=false:=by rfl):
  PI X tg (.Call (.Name "range" p) [a,b,c] [] pos) (AEr ta):=by
 refine fun pins s σ H R I h=>Rc<|Qb I hg hm cD<|TB (j_ (ha pos pins s σ H _ I h) fun us s1 vs H1 I1 r1 q1=>?_) hs hpl
 obtain⟨i,j,k,n,rfl,⟨c0,c1,c2,c3⟩,q⟩:=q1
 cases r1 with
 | cons r rr=>
  cases rr with
  | cons r' rr=>
   cases rr with
   | cons r'' rr=>
    cases rr
    obtain⟨t,rfl⟩:=r
    obtain⟨t',rfl⟩:=r'
    obtain⟨t'',rfl⟩:=r''
    refine call_range_3 c0 ?_<|.inl<|PyProof.noPylong_small c1
    refine o6 (qP ..) c2 ?_
    have I2:Inv X pins σ H1 {s1 with heap:=s1.heap.push {cls:= .type "range",data:= .fields #[.int i t,.int j t',.int k t'']}}:=I1.kept (t':=s1.toks) fun b o e=>CP _ e
    refine ACB I2 _ (gL _ i k n) ?_ q
    have e1:i+((0:Nat):Int)*k=i:=by simp
    have e2:(n:Int)- ((0:Nat):Int)=Ov i j k:=by rw[c3];simp
    rw[e1,e2]
    exact IF _ rfl
end
def Qx{lo c:Int}{g:TG}{tb:TS}{D:Ends}(Pv:Nat->St->Hp->Prop)(h0:Pv 0 σ H)
  (hs: ∀ i σ H,i<n->Pv i σ H->g (.int<|lo+(i:Nat)*c) σ H fun σ2 H2=>tb {D with nx:=Pv<|i+1,ct:=Pv<|i+1,bk:=D.nx} σ2 H2) (hd: ∀ σ H,Pv n σ H->D.nx σ H):
  ∃ W:Nat->Nat->St->Hp->Prop,(∃ m,W 0 m σ H)/\ ∀ i m σ H,W i m σ H->
   ((Itc lo c n).stop i H/\D.nx σ H)\/((Itc lo c n).go i H/\ ∃ N,(∀ σ' H',N σ' H'-> ∃ m',m'<m/\W (i+1) m' σ' H')/\ ∀ x H',(Itc lo c n).t_ i H x H'->g x σ H' fun σ2 H2=>tb {D with nx:=N,ct:=N,bk:=D.nx} σ2 H2):=by
 refine⟨fun i m σ H=>m=n-i/\i<=n/\Pv i σ H,⟨n,by simp,B6 _,h0⟩,?_⟩
 rintro i m σ H ⟨rfl,hi,p⟩
 by_cases hlt:i<n
 ·refine .inr ⟨hlt,Pv<|i+1,fun σ' H' p'=>⟨n- (i+1),by lia,rfl,hlt,p'⟩,fun x H' y=>?_⟩
  obtain⟨e,y⟩:=y
  subst e y
  exact hs i σ _ hlt p
 ·have e:i=n:=by lia
  subst e
  exact .inl ⟨BS _,hd σ H p⟩
noncomputable def Ite(K:AS)(a:AK):It:=
 ⟨fun i H=> ∃ xs x,BF K H a xs/\xs[i]?=some x,fun i H v H'=> ∃ T x,v= .ref T/\H T=none/\H'=upd H T (.tup [.int (i:Nat),x])/\ ∀ xs,BF K H a xs->xs[i]?=some x,fun i H=> ∃ xs,BF K H a xs/\xs.length<=i⟩
theorem sx{P:BH}{K:AS}(a e it:AK):
  Turn P w K (.Tuple elts kk tpos) (Ite K a) [e,it] e (fun i h=>(∃ old,IsEnum h e it ((i:Nat):Int) old)/\h.IsListIter it a i/\e≠it) where
 mem:=by simp
 obj:=fun i h st b hb=>by
  obtain⟨⟨old,he⟩,⟨o,ho,hc,hd⟩,_⟩:=st
  have e':b=e\/b=it:=by simpa using hb
  rcases e' with z | z
  ·rw[z];exact⟨_,he,fun v q=>nomatch q⟩
  ·rw[z];exact⟨o,ho,fun v q=>by rw[hd]at q;cases q⟩
 keep:=fun i h h' st k=>let⟨⟨old,he⟩,hi,hne⟩:=st;⟨⟨old,k e (by simp) _ he⟩,hi.at fun o q=>k it (by simp) o q,hne⟩
 item:=by
  intro X hP hw hK hc i pins s σ H E I hf st hg
  subst hP hw hK
  obtain⟨⟨old,he⟩,hit,hne⟩:=st
  obtain⟨xs,x,hq,hx⟩:=hg
  obtain⟨its,rv,p,hz⟩:=I.list hq
  obtain⟨u,hu,ru⟩:=rv.get hx
  have hel:e<s.heap.objs.size:=Bz he
  have hil:it<s.heap.objs.size:=by obtain⟨_,q,_⟩:=hit;exact Bz q
  refine wpAny_pyNext_enum_item he hit p.isList (x:=u) (by simpa using hu) hne fun h' ho hit' hT hsz hk=>?_
  refine⟨_,rfl,wpAny_letOwnedTupleGo_enum (s:={s with heap:=h',toks:=s.toks+1}) ho fun h'' he' sb=>?_⟩
  have hT2:h''.get? s.heap.objs.size=some {cls:= .type "tuple",data:= .seq #[.int i s.toks,u]}:=(sb.2 _<|WG hel).trans hT
  have new:EK X.prog X.w (upd H s.heap.objs.size<|.tup [.int (i:Nat),x]) h'' s.heap.objs.size (.tup [.int (i:Nat),x]):=
   ⟨by show 2<=sizeLine;decide,[.int i s.toks,u],.cons ⟨_,rfl⟩<|.cons ru .nil,⟨_,hT2,rfl,_,rfl⟩⟩
  have I1:Inv X pins σ (upd H s.heap.objs.size<|.tup [.int (i:Nat),x]) {s with heap:=h'',toks:=s.toks+1}:=
   I.rf (ch:= [e,it]) (fun b ob hb q=>(sb.2 b fun z=>hb<|by simp[z]).trans<|hk b ob (fun z=>hb<|by simp[z]) (fun z=>hb<|by simp[z]) q) hf (BS _) new
  refine⟨.ref s.heap.objs.size,_,I1,rfl,⟨_,x,rfl,I.C0.fresh<|BS _,rfl,fun ys hy=>by rw[I.jB hy hq];exact hx⟩,⟨⟨u,?_⟩,hit'.at fun o q=>(sb.2 it<|Ea hne).trans q,hne⟩,fun b hb=>?_⟩
  ·have e1:((i+1:Nat):Int)=(i:Int)+1:=by lia
   rw[e1];exact he'
  ·have hb':b<s.heap.objs.size:=by
    have e':b=e\/b=it:=by simpa using hb
    rcases e' with z | z
    ·rw[z];exact hel
    ·rw[z];exact hil
   rw[AQ<|DN hb']
   exact(hf b hb).1
 done:=by
  intro X hP hw hK hc i pins s σ H E I hf st hg
  subst hP hw hK
  obtain⟨⟨old,he⟩,hit,hne⟩:=st
  obtain⟨xs,hq,hx⟩:=hg
  obtain⟨its,rv,p,hz⟩:=I.list hq
  obtain⟨f0,f1,f2,f3,f4,f5⟩:=hf it<|by simp
  have hl:=rv.length
  exact wpAny_pyNext_enum_end (I.ok.hd hc) he hit p.isList (by simp;lia) fun h' eb=>⟨rfl,I.turned (t':=s.toks) (fun b o hb q=>eb b o hb q) f0 f1 f3 f4 f5⟩
 self:=fun A i s Q E st h=>let⟨⟨_,he⟩,_⟩:=st;pB he h
noncomputable def AES(K:AS)(ta:TA):TI:=fun σ H R=>ta σ H fun vs H1=> ∃ a xs,vs= [.ref a]/\BF K H1 a xs/\R (Ite K a) H1
theorem Ss(hg:Gl X "enumerate")(hm:X.mg "enumerate"=none)(ha:PA X [e] ta)(hs:Au [e] X.env= [(false,eval e X.env)]:=by rfl):
  PI X (.Tuple elts kk tpos) (.Call (.Name "enumerate" p) [e] [] pos) (AES X.K ta):=by
 refine fun pins s σ H R I h=>Rc<|Qb I hg hm boot_enumerate<|TB (j_ (ha pos pins s σ H _ I h) fun us s1 vs H1 I1 r1 q1=>?_) hs rfl
 obtain⟨a,xs,rfl,hq,q⟩:=q1
 cases r1 with
 | cons r rr=>
  cases rr
  cases r
  obtain⟨its,rv,p',hz⟩:=I1.list hq
  refine call_enumerate_list p'.isList fun h' he hit hsz hk=>pB he ?_
  have I2:Inv X pins σ H1 {s1 with heap:=h'}:=I1.kept (t':=s1.toks) hk
  refine⟨s1.heap.objs.size+1,[s1.heap.objs.size+1,s1.heap.objs.size],_,_,H1,rfl,I2,sx a (s1.heap.objs.size+1) s1.heap.objs.size,⟨⟨.none,he⟩,hit,Nat.succ_ne_self _⟩,fun b hb=>?_,q⟩
  have e':b=s1.heap.objs.size+1\/b=s1.heap.objs.size:=by simpa using hb
  have hle:s1.heap.objs.size<=b:=by
   rcases e' with z | z
   ·rw[z];exact Nat.le_add_right _ _
   ·rw[z];exact BS _
  exact I1.xA hle<|I1.C0.fresh hle
end L2
namespace L2
open PySem PySem.Spec PyProof.Rows
noncomputable def inClass(s:Bi)(j:Nat):Bi:=match s with
 | .ClassDef _ _ _ body _ _ _ _ _ _ _=>body.getD j<|.Pass ⟨0,0,0,0⟩
 | _=> .Pass ⟨0,0,0,0⟩
noncomputable def HG(s:Bi):Arguments:=match s with
 | .FunctionDef _ a _ _ _ _ _ _ _ _=>a
 | _=>{posonlyargs:= [],args:= [],vararg:=none,kwonlyargs:= [],kw_defaults:= [],kwarg:=none,defaults:= []}
noncomputable def EO(s:Bi):List Bi:=match s with
 | .FunctionDef _ _ b _ _ _ _ _ _ _=>b
 | _=> []
noncomputable def BY(s:Bi):Fd:=match s with
 | .FunctionDef _ _ _ _ _ _ sc _ _ _=>sc
 | _=>{kind:= .function,names:= [],isGenerator:=false,isCoroutine:=false}
noncomputable abbrev eT:xa:=fun _ _ _ _ _ _=>False
noncomputable abbrev E0:XK:=fun _ _ _=>False
def Gn:Passes eT X E0:=fun _ _ _ _ _ _ _ h=>h.elim
structure Fun(K:AS)(x qual:Str)(st:Bi)(f:AK)(fd:FU):Prop where
 ex: ∃ oc od kV doc pm an cdv ct osl,
  fd=KA x qual (HG st) (EO st) (BY st) .none kV doc pm an cdv ct/\K.lookup f=some ⟨oc,od,.func fd,osl⟩/\WI K cdv qual=true
 kp:FW K (.ref f)=true
section
variable{P:BH}{w:Ao}{K:AS}{mg:Str->Option AN}{base:Az}
def Fun.ok{st:Bi}(F:Fun K x qual st f fd)(S:Rn N ps (BY st))(len: ∀ vs H Q E,sp vs H Q E->vs.length=ps.length)
  (hbody: ∀ cdv A outer s H vs Q E,D_ k (A.deeper<|GQ qual (BY st) s.heap.objs.size f cdv)->sp vs H Q E->
   ∃ t,eC (M6 eT P w K mg base N qual (BY st) f cdv A outer s H E).nox (EO st) t/\t {nx:=fun _ H'=>Q .non H',rt:=Q} (start N vs) H):ET P w K mg base eT (k+1) f fd ps sp:=by
 obtain⟨oc,od,kV,doc,pm,an,cdv,ct,osl,rfl,lk,hcd⟩:=F.ex
 refine AA1 lk hcd S len fun A outer s H vs Q E hr hsp=>?_
 obtain⟨t,h,q⟩:=hbody cdv A outer s H vs Q E hr hsp
 exact⟨t,h.nox,q⟩
def Fun.binds{st:Bi}(F:Fun K x qual st f fd)
  (h: ∀ kV doc pm an cdv ct us,us.length=ps.length->eB (KA x qual (HG st) (EO st) (BY st) .none kV doc pm an cdv ct) ⟨us,[]⟩=CB (ps.zip us)):Binds K fd ps []:=by
 obtain⟨oc,od,kV,doc,pm,an,cdv,ct,osl,rfl,lk,hcd⟩:=F.ex
 exact .all<|h kV doc pm an cdv ct
def ABR{st:Bi}{kV doc pm cdv ct:AN}(l:K.lookup f=some ⟨oc,od,.func<|KA x qual (HG st) (EO st) (BY st) .none kV doc pm an cdv ct,osl⟩)
  (c:WI K cdv qual=true) (k:FW K (.ref f)=true):Fun K x qual st f (KA x qual (HG st) (EO st) (BY st) .none kV doc pm an cdv ct):=⟨⟨oc,od,kV,doc,pm,an,cdv,ct,osl,rfl,l,c⟩,k⟩
end
def AAe(hr:D_ k A):A.units+1<L6:=Ez (Nat.add_le_add_left (by decide:1<=64) _) hr.units
section
variable{X:Cx}
def pv(i:Nat){pos:Pos}(hN:X.N[i]?=some x:=by rfl)(hv:vX X.env.scope x:=by first | exact Fb rfl | exact DC (Fb rfl) | exact DC<|DC rfl)(hd:(x==("__debug__":Str))=false:=by decide)
  (hcd:(x==("__classdict__":Str))=false:=by decide):PE X (.Name x pos) (Jd i):=Qj hN hv hd hcd
end
def AFu{A B:Prop}(h:B):if false=true then A else B:=by
 rw[AG D0]
 exact h
def A7{c A B:Prop} [Decidable c](h1:c->A)(h2: ¬ c->B):if c then A else B:=by
 by_cases h:c
 ·rw[AI h]
  exact h1 h
 ·rw[AG h]
  exact h2 h
def vM{c A B:Prop} [Decidable c](hc:c)(h:B):if(!decide c)=true then A else B:=by
 rw[Av hc]
 exact AFu h
noncomputable def Bc(H H':Hp):Prop:= ∀ b o,H b=some o->H' b=some o
def Bc.refl(H:Hp):Bc H H:=fun _ _ h=>h
def Bc.trans(a:Bc H H1)(b:Bc H1 H2):Bc H H2:=fun c o h=>b c o (a c o h)
theorem Bc.free(e:Bc H H')(h:H' l=mX):H l=mX:=by
 cases q:H l with
 | none=>rfl
 | some o=>
  rw[e l o q]at h
  cases h
section
variable{κ:Type} [DecidableEq κ]
def xI{BU:List (κ×V)}{k:κ}(h:E1 BU k=none): ¬ k∈BU.map (·.1):=by
 intro m
 obtain⟨p,hp,e⟩:=Fv.mp m
 have q:(BU.any fun kv=>decide (kv.1=k))=true:=Wh.mpr ⟨p,hp,Av e⟩
 rw[JP,h]at q
 exact absurd q<|by simp
theorem lT: ∀{l:List κ} {k:κ},l.Nodup-> ¬ k∈l->(l++ [k]).Nodup
 | [],k,_,_=>by simp
 | a::r,k,h,hk=>by
  obtain⟨h1,h2⟩:=PF.mp h
  show(a::(r++ [k])).Nodup
  refine PF.mpr ⟨fun m=>?_,lT h2 fun m=>hk<|Ce.mpr<|DC m⟩
  rcases Ly.mp m with q | q
  ·exact h1 q
  ·exact hk<|Ce.mpr<|Fb (bp.mp q).symm
def xy{BU:List (κ×V)}{k:κ}(v:V)(hn:(BU.map (·.1)).Nodup)(h:E1 BU k=none):((putK BU k v).map (·.1)).Nodup:=by
 rw[uh v h,E6]
 exact lT hn<|xI h
end
end L2
end
section
namespace GF
open PySem PySem.Spec PyProof.Rows L2
noncomputable def top(i:Nat):Bi:=eI.main.body.getD i (.Pass ⟨0,0,0,0⟩)
end GF
end
section
namespace EG
open GF
open PySem PySem.W PyProof.Rows
noncomputable abbrev r(a:Nat):AN:= .ref a
noncomputable abbrev i(n:Int)(t:Nat):AN:= .int n t
noncomputable abbrev s(x:String)(t:Nat):AN:= .str (Lv x) t
noncomputable abbrev e(P:CT)(x:String)(t:Nat)(v:AN):Iq:=⟨rF P<|Lv x,.str (Lv x) t,v⟩
noncomputable abbrev f(k:Int)(t:Nat)(v:AN):Iq:=⟨k,.int k t,v⟩
noncomputable def oT(l:List AN):Obj:={cls:= .type "tuple",data:= .seq l.toArray}
noncomputable def oV(c:AN)(l:List AN):Obj:={cls:=c,data:= .fields l.toArray}
noncomputable def oD(l:List Iq)(n:Nat):Obj:={cls:= .type "dict",data:= .dict l.toArray n}
noncomputable def tL(l:List (Int×Nat×AN)):List Iq:=l.map fun x=>f x.1 x.2.1 x.2.2
noncomputable def oP(c:AN)(l:List (Option AN)):Obj:={cls:=c,slots:=l.toArray}
noncomputable def oK(x:String)(bs mro:List AN)(ns:Nat)(l:List (Option AN)):Obj:={cls:= .type "type",data:= .cls {name:=Lv x,bases:=bs,mro:=mro,ns:=ns,qualname:=Lv x},slots:=l.toArray}
noncomputable def stN:Bi->Str
 | .FunctionDef x _ _ _ _ _ _ _ _ _=>x
 | _=>Od
noncomputable def stL(st:Bi):Nat:=st.pos.line
noncomputable def loc(st:Bi):List Str:=(L2.BY st).names.filterMap fun x=>match x.2 with
 | .local=>some x.1
 | _=>none
noncomputable def sS(x:Str)(t:Nat):AN:= .str x t
noncomputable def oS(st:Bi)(q:Str):Obj:={cls:= .none,data:= .func {name:=stN st,qualname:=q,params:=L2.HG st,body:= .stmts<|L2.EO st,scope:=L2.BY st,globals:=0,closure:= [],defaults:= .none,kwdefaults:= .none}}
noncomputable def oF(st:Bi)(q:Str)(m:AN)(c:Nat):Obj:={cls:= .type "function",data:= .func {name:=stN st,qualname:=q,params:=L2.HG st,body:= .stmts<|L2.EO st,scope:=L2.BY st,globals:=3,closure:= [],defaults:= .none,kwdefaults:= .none,pyModule:=m,code:= .ref c}}
noncomputable def oN:Nat->List Str->List AN
 | _,[]=> []
 | t,x::l=>sS x t::oN (t+1) l
noncomputable def oC(st:Bi)(q:Str)(t:Nat)(l:List AN)(k:Nat):Obj:=oV (.type "code") ([sS (stN st) t,sS q<|t+1,s "/claim/cut.py"<|t+2,i (stL st) 0,i (L2.HG st).args.length 0,i 0 0,i 0 0,i 3 0]++(l++ [i (t+3+k:Nat) 0,i (stL st) 0,s "/claim/cut.py"<|t+4+k]))
noncomputable def d7(st:Bi)(q:Str)(a t:Nat)(m:AN):List Obj:=
 [oT [],oV .none [],oT<|oN (t+3)<|loc st,oT [],oS st q,oC st q t [r a,.bool true,i 181 0,r<|a+1,.none,r<|a+2,r<|a+3,r<|a+4] (loc st).length,oF st q m<|a+5]
noncomputable def d5(st:Bi)(a t:Nat)(m:AN):List Obj:= [oT [],oV .none [],oS st<|stN st,oC st (stN st) t [r a,.bool true,i 181 0,r<|a+1,.none,.none,.none,r<|a+2] 0,oF st (stN st) m<|a+3]
noncomputable abbrev m0:AN:=s "gridfit.faults" 187
noncomputable abbrev m1:AN:=s "gridfit.reckon" 218
noncomputable abbrev m2:AN:=s "gridfit.rounding" 315
noncomputable abbrev m3:AN:=s "gridfit.run" 385
noncomputable abbrev m4:AN:=s "gridfit.flow" 537
noncomputable abbrev m5:AN:=s "gridfit.zones" 744
noncomputable abbrev m6:AN:=s "gridfit.moving" 845
noncomputable abbrev m7:AN:=s "gridfit.points" 917
noncomputable abbrev m8:AN:=s "gridfit.shifting" 1204
noncomputable abbrev m9:AN:=s "gridfit.stack" 1484
noncomputable abbrev Tx:AN:=s "gridfit.state" 1885
noncomputable abbrev m11:AN:=s "gridfit.carry" 2175
noncomputable abbrev yX:AN:=s "gridfit.ground" 2211
noncomputable abbrev UU:AN:=s "gridfit.machine" 2313
structure Rw where
 x:Str
 q:Str
 st:Bi
 m:AN
 a:Nat
 t:Nat
noncomputable def w1(k:Nat)(m:AN)(a t:Nat):Rw:=⟨stN<|top k,stN<|top k,top k,m,a,t⟩
noncomputable def w2(k j:Nat)(q:String)(m:AN)(a t:Nat):Rw:=⟨stN<|L2.inClass (top k) j,q,L2.inClass (top k) j,m,a,t⟩
noncomputable def rws:List Rw:= [w2 1 0 "Fault.__init__" m0 28 201,w1 4 m1 41 222,w1 5 m1 48 229,w1 6 m1 55 236,w1 7 m1 62 243,w1 8 m1 69 251,w1 9 m1 76 260,w1 10 m1 83 269,w1 11 m1 90 279,w1 12 m1 97 288,w1 13 m1 104 297,w1 14 m1 111 307,w1 24 m2 118 333,w1 25 m2 125 343,w1 26 m2 132 352,w1 27 m2 139 366,w1 28 m2 146 375,w2 36 0 "Run.__init__" m3 162 413,w2 36 1 "Run.take" m3 169 425,w2 36 2 "Run.take_many" m3 176 432,w2 36 3 "Run.take_loop" m3 183 441,w2 36 4 "Run.give" m3 190 449,w2 36 5 "Run.round_number" m3 197 457,w2 36 6 "Run.zone" m3 204 465,w2 36 7 "Run.point_of_zone" m3 211 473,w2 36 8 "Run.point" m3 218 483,w2 36 9 "Run.reference" m3 225 492,w1 37 m3 239 529,w2 46 0 "Frame.__init__" m4 253 565,w1 47 m4 267 590,w1 48 m4 274 599,w1 49 m4 281 608,w1 50 m4 288 619,w1 51 m4 295 628,w1 52 m4 302 635,w1 53 m4 309 642,w1 54 m4 316 649,w1 55 m4 323 658,w1 56 m4 330 665,w1 57 m4 337 674,w1 58 m4 344 682,w1 59 m4 351 690,w1 60 m4 358 700,w1 61 m4 365 707,w1 63 m4 373 737,w2 68 0 "Point.__init__" m5 387 764,w2 68 1 "Point.twin" m5 394 774,w2 68 2 "Point.put" m5 401 782,w2 68 3 "Point.shift" m5 408 790,w2 68 4 "Point.mark" m5 415 798,w2 68 5 "Point.unmark" m5 422 806,w1 69 m5 434 825,w1 70 m5 439 831,w1 71 m5 446 837,w1 73 m6 453 847,w1 74 m6 460 855,w1 75 m6 467 863,w1 76 m6 474 873,w1 77 m6 481 883,w1 78 m6 488 891,w1 79 m6 495 899,w1 80 m6 502 908,w1 82 m7 509 919,w1 83 m7 516 927,w1 84 m7 523 936,w1 85 m7 530 946,w1 86 m7 537 955,w1 87 m7 544 966,w1 88 m7 551 973,w1 89 m7 558 981,w1 90 m7 565 992,w1 91 m7 572 1001,w1 92 m7 579 1013,w1 93 m7 586 1022,w1 94 m7 593 1031,w1 95 m7 600 1040,w1 96 m7 607 1051,w1 97 m7 614 1061,w1 98 m7 621 1071,w1 99 m7 628 1080,w1 100 m7 635 1093,w1 101 m7 642 1104,w1 102 m7 649 1113,w1 103 m7 656 1125,w1 104 m7 663 1133,w1 105 m7 670 1146,w1 107 m7 679 1197,w1 110 m8 687 1225,w1 111 m8 694 1234,w2 112 0 "Lead.__init__" m8 708 1261,w1 113 m8 722 1282,w1 114 m8 729 1294,w1 115 m8 736 1304,w1 116 m8 743 1312,w1 117 m8 750 1323,w1 118 m8 757 1334,w1 119 m8 764 1343,w1 120 m8 771 1358,w1 121 m8 778 1371,w1 122 m8 783 1382,w1 123 m8 790 1388,w1 124 m8 795 1399,w1 125 m8 802 1405,w1 126 m8 809 1413,w1 127 m8 816 1423,w1 128 m8 823 1433,w1 130 m8 831 1477,w1 132 m9 838 1486,w1 133 m9 845 1495,w1 134 m9 852 1504,w1 135 m9 859 1512,w1 136 m9 866 1519,w1 137 m9 873 1526,w1 138 m9 880 1535,w1 139 m9 887 1542,w1 140 m9 894 1550,w1 141 m9 901 1558,w1 142 m9 908 1566,w1 143 m9 915 1576,w1 144 m9 922 1585,w1 145 m9 929 1593,w1 146 m9 936 1602,w1 147 m9 943 1610,w1 148 m9 950 1618,w1 149 m9 957 1627,w1 150 m9 964 1636,w1 151 m9 971 1644,w1 152 m9 978 1653,w1 153 m9 985 1662,w1 154 m9 992 1669,w1 155 m9 999 1677,w1 156 m9 1006 1685,w1 157 m9 1013 1695,w1 158 m9 1020 1703,w1 159 m9 1027 1710,w1 160 m9 1034 1717,w1 161 m9 1041 1724,w1 162 m9 1048 1731,w1 163 m9 1055 1739,w1 164 m9 1062 1747,w1 165 m9 1069 1754,w1 166 m9 1076 1761,w1 167 m9 1083 1768,w1 169 m9 1093 1878,w1 174 Tx 1101 1910,w1 175 Tx 1108 1918,w1 176 Tx 1115 1926,w1 177 Tx 1122 1934,w1 178 Tx 1129 1945,w1 179 Tx 1136 1956,w1 180 Tx 1143 1965,w1 181 Tx 1150 1973,w1 182 Tx 1157 1980,w1 183 Tx 1164 1987,w1 184 Tx 1171 1994,w1 185 Tx 1178 2002,w1 186 Tx 1185 2010,w1 187 Tx 1192 2017,w1 188 Tx 1199 2024,w1 189 Tx 1206 2031,w1 190 Tx 1213 2038,w1 191 Tx 1220 2045,w1 192 Tx 1227 2052,w1 193 Tx 1234 2059,w1 194 Tx 1241 2066,w1 195 Tx 1248 2074,w1 197 Tx 1258 2168,w1 200 m11 1265 2179,w1 201 m11 1272 2187,w1 202 m11 1279 2195,w1 203 m11 1286 2203,w2 205 0 "Kept.__init__" yX 1300 2225,w2 205 1 "Kept.twin" yX 1307 2232,w2 206 0 "Ground.__init__" yX 1328 2267,w1 207 yX 1340 2297,w1 208 yX 1347 2303,w2 219 0 "Calls.__init__" UU 1361 2348,w2 219 1 "Calls.more" UU 1368 2356,w2 219 2 "Calls.read_number" UU 1375 2363,w2 219 3 "Calls.read_row" UU 1382 2370,w2 220 0 "Machine.__init__" UU 1403 2400,w1 221 UU 1417 2423,w1 222 UU 1424 2430,w1 223 UU 1431 2441,w1 224 UU 1436 2450,w1 225 UU 1443 2456,w1 226 UU 1450 2467,w1 227 UU 1457 2479,w1 228 UU 1464 2489,w1 229 UU 1471 2501,w1 230 UU 1478 2515,w1 231 UU 1485 2527,w1 232 UU 1492 2535,w1 233 UU 1499 2544,w1 234 UU 1506 2554,w1 235 UU 1513 2565,w1 236 UU 1520 2575,w1 237 UU 1527 2586,w1 239 UU 1535 2621]
noncomputable def r0:Rw:=⟨Od,Od,.Pass ⟨0,0,0,0⟩,.none,0,0⟩
noncomputable def tq(t k:Nat):List (Int×Nat)->List (Int×Nat×AN)
 | []=> []
 | x::l=>(x.1,t,r (rws.getD x.2 r0).a)::tq (t+k) k l
noncomputable def dd(n k:Nat):List Obj:=((rws.drop n).take k).flatMap fun x=>d7 x.st x.q (x.a-6) x.t x.m
noncomputable def de(n:Nat):List Obj:=let x:=rws.getD n r0;d5 x.st (x.a-4) x.t x.m
noncomputable def Uo:List (Int×Nat):= [(88,33),(27,34),(89,35),(28,37),(120,38),(121,38),(44,39),(45,40),(43,42),(42,43)]
noncomputable def OD:List (Int×Nat×AN):=tq 716 1 Uo
noncomputable def QM:List (Int×Nat):= [(70,62),(71,62),(72,63),(73,64),(74,64),(128,65),(129,66),(130,66),(41,67),(46,69),(47,69),(62,71),(63,71),(58,80),(59,80),(60,81),(39,82),(15,85)]
noncomputable def KZ:List (Int×Nat×AN):=tq 1160 2 QM
noncomputable def JH:List (Int×Nat×AN):= [(93,1206,i 0 1207),(113,1208,i 16 1209),(114,1210,i 32 1211),(115,1212,i 0 1213),(116,1214,i 16 1215),(117,1216,i 32 1217)]
noncomputable def Mh:List (Int×Nat):= [(57,88),(50,91),(51,91),(52,93),(53,93),(54,94),(55,94),(56,95),(48,100),(49,100),(93,104),(113,104),(114,104),(115,105),(116,105),(117,105)]
noncomputable def IJ:List (Int×Nat×AN):=tq 1444 2 Mh
noncomputable def Ib:List (Int×Nat):= [(32,109),(33,110),(34,111),(35,112),(36,113),(37,115),(38,116),(138,117),(64,107),(65,108),(66,118),(67,119),(68,120),(112,120),(69,121),(80,124),(81,124),(82,124),(83,124),(84,124),(85,124),(86,125),(87,125),(90,126),(91,127),(92,128),(96,129),(97,130),(98,131),(99,132),(100,133),(101,134),(102,135),(103,136),(139,137),(140,138),(104,139),(105,139),(106,139),(107,139),(108,140),(109,140),(110,140),(111,140),(75,141),(76,141),(136,142),(126,110),(127,110),(133,110),(141,110)]
noncomputable def Ll:List (Int×Nat×AN):=tq 1775 2 Ib
noncomputable def ju:List (Int×Nat×AN):= [(24,1891,i 1 1892),(25,1893,i 0 1894),(61,1895,i 2 1896),(125,1897,i 3 1898),(124,1899,i 4 1900),(122,1901,i 5 1902)]
noncomputable def Fy:List (Int×Nat):= [(0,145),(1,145),(2,145),(3,145),(4,145),(5,145),(6,147),(7,147),(8,147),(9,147),(134,148),(135,148),(10,149),(11,149),(12,150),(13,150),(14,151),(16,152),(17,152),(18,152),(19,153),(20,153),(21,153),(22,154),(23,155),(24,156),(25,156),(61,156),(125,156),(124,156),(122,156),(118,157),(119,157),(26,158),(29,159),(30,160),(31,161),(77,162),(78,162),(94,163),(95,164),(142,165)]
noncomputable def L0:List (Int×Nat×AN):=tq 2083 2 ((Fy.drop 0).take 35)++tq 2152 1 ((Fy.drop 35).take 7)
noncomputable def o8:List (Int×Nat):= [(0,182),(1,183),(2,185),(3,186),(4,189),(5,190),(6,193),(7,194),(8,195),(9,196),(10,197)]
noncomputable def d6:List (Int×Nat×AN):=tq 2598 1 o8
structure Kl where
 C:String
 m:AN
 j:Nat
 t:Nat
 b:Nat
 z:Nat
 ms:List Nat
 fs:List String
noncomputable def eS(P:CT)(x:Str)(t:Nat)(v:AN):Iq:=⟨rF P x,.str x t,v⟩
noncomputable def Kl.L(k:Kl):Nat:=stL (top k.j)
noncomputable def mE(P:CT)(k:Nat):Nat->Nat->List Nat->List Iq
 | _,_,[]=> []
 | j,a,x::l=>eS P (stN<|L2.inClass (top k) j) x (r a)::mE P k (j+1) (a+7) l
noncomputable def mL(k:Nat):Nat->Nat->List Nat->List AN
 | _,_,[]=> []
 | j,a,_::l=>i (stL<|L2.inClass (top k) j) 0::i 4 0::r (a-1)::mL k (j+1) (a+7) l
noncomputable abbrev oB(l:List AN):Obj:=oV (.type "builtin_function_or_method") l
noncomputable def cM(P:CT)(k:Kl):List Iq:=e P "__firstlineno__" (k.t+9) (i k.L<|k.t+8)::(mE P k.j 0 (k.b+13) k.ms++ [e P "__static_attributes__" k.z<|r<|k.b+7+7*k.ms.length])
noncomputable def oX(x:String)(L t:Nat)(b:Bool)(a:Nat):Obj:=oV (.type "code") [s x t,s x<|t+1,s "/claim/cut.py"<|t+2,i L 0,i 0 0,i 0 0,i 0 0,i 0 0,r a,.bool b,i 181 0,r<|a+1,.none,.none,.none,.none,i (t+3:Nat) 0,i L 0,s "/claim/cut.py"<|t+4]
noncomputable def oR(a b:Nat)(m:AN):Obj:=oP (.type "frame") [some<|r a,some<|r 3,some<|r b,none,some m,none,some<|r 0]
noncomputable def cA(P:CT)(k:Kl):List Obj:= [oT [],oB [.builtin "type.__prepare__",.type "type"],oD (e P "__module__" (k.t+5) k.m::e P "__qualname__" (k.t+7) (s k.C<|k.t+6)::cM P k)<|k.ms.length+4,oT [],oV .none<|mL k.j 0 (k.b+13) k.ms,oX k.C k.L k.t false<|k.b+3,oR (k.b+5) (k.b+2) k.m]
noncomputable def oG(x:String)(t a:Nat)(l:List AN):Obj:=oV (.type "getset_descriptor") (s x t::r a::l)
noncomputable def cB(P:CT)(k:Kl):List Obj:=
 let p:=k.b+9+7*k.ms.length
 [oT<|oN (k.z-k.fs.length)<|k.fs.map Lv,oD (e P "__module__" (k.t+5) k.m::(cM P k++ [e P "__dict__" (k.z+2)<|r<|p+1,e P "__weakref__" (k.z+4)<|r<|p+2,e P "__doc__" (k.z+5) .none])) 4,oK k.C [.type "object"] [r p,.type "object"] (p-1) [none,none,some<|s k.C<|k.t-2,some<|s k.C<|k.t+6,some<|.builtin "object.__new__",some<|.bool true],oG "__dict__" (k.z+1) p [.builtin "function.__dict__",.builtin "function.__dict__#set"],oG "__weakref__" (k.z+3) p [.builtin "ExceptionGroup.__weakref__",.none],oV (.type "super") [r p,r p,r p],oB [.builtin "object.__init_subclass__",r p]]
noncomputable def iU:Kl:=⟨"Run",m3,36,403,149,521,[424,431,440,448,456,464,472,482,491,500],["after","byte","code","done","font","frames","freedom","functions","ground","kind","loop","old_projection","place","pointers","projection","references","rounding","rounding_byte","stack","whose"]⟩
noncomputable def RT:Kl:=⟨"Frame",m4,46,555,240,582,[576],["back","code","left","start","whose"]⟩
noncomputable def Ra:Kl:=⟨"Point",m5,68,754,374,817,[773,781,789,797,805,813],["marks","now","old"]⟩
noncomputable def Yn:Kl:=⟨"Lead",m8,112,1251,695,1274,[1270],["number","step","zone_number"]⟩
noncomputable def Xg:Kl:=⟨"Kept",yX,205,2215,1287,2247,[2231,2239],["cut_in","delta_base","delta_shift","flip","least","width","width_cut_in"]⟩
noncomputable def NY:Kl:=⟨"Ground",yX,206,2257,1315,2289,[2278],["cells","controls","dots","ends","kept","outline","plain","still","twilight","units"]⟩
noncomputable def R1:Kl:=⟨"Calls",UU,219,2338,1348,2380,[2355,2362,2369,2377],["numbers","place"]⟩
noncomputable def Kq:Kl:=⟨"Machine",UU,220,2390,1390,2415,[2406],["cell_count","font","functions","point_count","shape","size","told_controls","units"]⟩
noncomputable def obs(P:CT):List Obj:=([[oT [.type "Exception"],oB [.builtin "type.__prepare__",.type "type"],oD [e P "__module__" 196<|s "gridfit.faults" 187,e P "__qualname__" 198<|s "Fault" 197,e P "__firstlineno__" 200<|i 2 199,e P "__init__" 208<|r 28,e P "__static_attributes__" 210<|r 29] 5,oT [],oV (.none) [i 4 0,i 4 0,r 27],oX "Fault" 2 191 false 18,oR 20 17<|s "gridfit.faults" 187],
 dd 0 1,
 [oT [s "number" 209],oD [e P "__module__" 196<|s "gridfit.faults" 187,e P "__firstlineno__" 200<|i 2 199,e P "__init__" 208<|r 28,e P "__static_attributes__" 210<|r 29,e P "__weakref__" 212<|r 32,e P "__doc__" 213 .none] 3,oK "Fault" [.type "Exception"] [r 31,.type "Exception",.type "BaseException",.type "object"] 30 [some<|r 15,none,some<|s "Fault" 189,some<|s "Fault" 197,some<|.builtin "Exception.__new__",some<|.bool true],oV (.type "getset_descriptor") [s "__weakref__" 211,r 31,.builtin "ExceptionGroup.__weakref__",.none],oV (.type "super") [r 31,r 31,r 31],oB [.builtin "object.__init_subclass__",r 31]],
 dd 1 16,
 [oT [i 16384 395,i 0 396],oT [i 0 398,i 16384 399]],cA P iU,
 dd 17 10,
 cB P iU,
 dd 27 1,
 cA P RT,
 dd 28 1,
 cB P RT,
 dd 29 15,
 [oD (tL OD) 10],
 dd 44 1,
 cA P Ra,
 dd 45 6,
 cB P Ra,
 de 51,
 de 52,
 dd 53 33,
 [oD (tL KZ) 18,oD [f 15 1194<|r 670] 1],
 dd 86 1,
 [oD (tL JH) 6],
 dd 87 2,
 cA P Yn,
 dd 89 1,
 cB P Yn,
 dd 90 9,
 de 99,
 dd 100 1,
 de 101,
 dd 102 4,
 [oD (tL IJ) 16],
 dd 106 37,
 [oD (tL Ll) 51,oD (tL<|tq 1809 2<|(Ib.drop 17).take 17) 17,oD (tL<|tq 1843 2<|(Ib.drop 34).take 17) 17],
 dd 143 1,
 [oD (tL ju) 6],
 dd 144 22,
 [oD (tL L0) 42,oD (tL<|tq 2117 2<|(Fy.drop 17).take 17) 17,oD (tL<|tq 2151 1<|(Fy.drop 34).take 8) 8],
 dd 166 5,
 cA P Xg,
 dd 171 2,
 cB P Xg,cA P NY,
 dd 173 1,
 cB P NY,
 de 174,
 dd 175 1,
 cA P R1,
 dd 176 4,
 cB P R1,cA P Kq,
 dd 180 1,
 cB P Kq,
 dd 181 3,
 de 184,
 dd 185 13,
 [oD (tL d6) 11],
 dd 198 1]:List (List Obj)).flatten
noncomputable def gd(n k:Nat):List (Str×Nat×AN):=((rws.drop n).take k).map fun x=>(x.x,x.t+5+(loc x.st).length,r x.a)
noncomputable def ge(x:String)(t:Nat)(v:AN):Str×Nat×AN:=(Lv x,t,v)
noncomputable def gl0:List (Str×Nat×AN):=([[ge "__doc__" 166 .none,ge "__package__" 167 .none,ge "__loader__" 168<|.builtin "__main__.__loader__#opaque",ge "__spec__" 169 .none,ge "__annotations__" 170<|r 6,ge "__builtins__" 171<|r 4,ge "__file__" 173<|s "/claim/cut.py" 172,ge "__cached__" 174 .none,ge "Fault" 217<|r 31,ge "ONE" 221<|i 16384 220],gd 1 11,[ge "HALF" 318<|i 0 317,ge "GRID" 320<|i 1 319,ge "DOUBLE" 322<|i 2 321,ge "DOWN" 324<|i 3 323,ge "UP" 326<|i 4 325,ge "OFF" 328<|i 5 327,ge "BY_BYTE" 330<|i 6 329,ge "BY_BYTE_ACROSS" 332<|i 7 331],gd 12 5,[ge "FONT" 388<|i 0 387,ge "SIZE" 390<|i 1 389,ge "SHAPE" 392<|i 2 391,ge "STACK_LIMIT" 394<|i 128 393,ge "X_AXIS" 397<|r 147,ge "Y_AXIS" 400<|r 148,ge "Run" 528<|r 228],gd 27 1,[ge "ELSE" 540<|i 27 539,ge "FDEF" 542<|i 44 541,ge "ENDF" 544<|i 45 543,ge "IF" 546<|i 88 545,ge "EIF" 548<|i 89 547,ge "NESTING_LIMIT" 550<|i 8 549,ge "FUNCTION_COUNT" 552<|i 256 551,ge "Frame" 589<|r 256],gd 29 15,[ge "ACTS_flow" 736<|r 366],gd 44 1,[ge "ON_CURVE" 747<|i 1 746,ge "TOUCHED_X" 749<|i 2 748,ge "TOUCHED_Y" 751<|i 4 750,ge "Point" 824<|r 425,ge "points_at_zero" 830<|r 434,ge "twins" 836<|r 439],gd 53 33,[ge "ACTS_points" 1196<|r 671],gd 86 1,[ge "DELTA_STARTS" 1224<|r 680],gd 87 2,[ge "Lead" 1281<|r 711],gd 90 9,[ge "lead_contour" 1387<|r 783],gd 100 1,[ge "take_pairs" 1404<|r 795],gd 102 4,[ge "ACTS_shifting" 1476<|r 824],gd 106 37,[ge "ACTS_stack" 1877<|r 1084],gd 143 1,[ge "LOOP_LIMIT" 1888<|i 65535 1887,ge "SHIFT_LIMIT" 1890<|i 6 1889,ge "WAYS" 1909<|r 1094],gd 144 22,[ge "ACTS_state" 2167<|r 1249],gd 166 1,[ge "INSTRUCTION_LIMIT" 2178<|i 5000 2177],gd 167 4,[ge "Kept" 2254<|r 1310,ge "Ground" 2296<|r 1331,ge "new_ground" 2302<|r 1340],gd 175 1,[ge "CODE_LIMIT" 2316<|i 2048 2315,ge "DONE" 2318<|i 0 2317,ge "OUT_OF_BOUNDS" 2321<|i (-1) 2320,ge "NOT_THE_TIME" 2324<|i (-2) 2323,ge "PROGRAM_FAULT" 2327<|i (-5) 2326,ge "CELLS" 2329<|i 0 2328,ge "CONTROLS" 2331<|i 1 2330,ge "OLD_X" 2333<|i 2 2332,ge "OLD_Y" 2335<|i 3 2334,ge "Calls" 2387<|r 1385,ge "Machine" 2422<|r 1406],gd 181 3,[ge "ground_of" 2455<|r 1436],gd 185 13,[ge "CALLS" 2620<|r 1528],gd 198 1]:List (List _)).flatten
noncomputable def gl(P:CT):List Iq:=gl0.map fun x=>eS P x.1 x.2.1 x.2.2
noncomputable def glO(P:CT)(m:AN)(n:Nat):Obj:=oD (e P "__name__" 165 m::(gl P).take (n-1)) n
noncomputable def cs:List AN:=([(2,20),(9,40),(11,47),(13,54),(15,61),(17,68),(19,75),(27,82),(31,89),(36,96),(38,103),(43,110),(54,117),(62,124),(67,131),(74,138),(88,145),(98,154),(162,238),(174,245),(182,266),(193,273),(198,280),(210,287),(219,294),(222,301),(224,308),(226,315),(231,322),(233,329),(238,336),(246,343),(258,350),(270,357),(272,364),(277,372),(283,379),(307,433),(309,438),(311,445),(314,452),(316,459),(318,466),(321,473),(324,480),(326,487),(333,494),(336,501),(339,508),(342,515),(348,522),(353,529),(357,536),(366,543),(368,550),(371,557),(378,564),(381,571),(395,578),(400,585),(406,592),(411,599),(417,606),(424,613),(429,620),(431,627),(445,634),(454,641),(458,648),(466,655),(468,662),(475,669),(486,678),(494,686),(500,693),(510,700),(516,721),(523,728),(528,735),(530,742),(537,749),(543,756),(547,763),(558,770),(564,777),(569,782),(577,789),(582,794),(586,801),(588,808),(592,815),(597,822),(604,830),(607,837),(611,844),(615,851),(619,858),(621,865),(623,872),(628,879),(630,886),(635,893),(638,900),(641,907),(648,914),(652,921),(655,928),(661,935),(664,942),(666,949),(678,956),(682,963),(685,970),(689,977),(693,984),(695,991),(698,998),(701,1005),(708,1012),(711,1019),(713,1026),(715,1033),(717,1040),(719,1047),(722,1054),(725,1061),(727,1068),(729,1075),(731,1082),(734,1092),(744,1100),(747,1107),(753,1114),(757,1121),(766,1128),(773,1135),(780,1142),(784,1149),(786,1156),(788,1163),(790,1170),(793,1177),(798,1184),(800,1191),(803,1198),(805,1205),(807,1212),(809,1219),(811,1226),(813,1233),(815,1240),(820,1247),(830,1257),(834,1264),(845,1271),(854,1278),(866,1285),(873,1292),(894,1320),(907,1339),(910,1346),(927,1353),(944,1395),(955,1416),(958,1423),(972,1430),(979,1435),(982,1442),(994,1449),(1006,1456),(1013,1463),(1020,1470),(1036,1477),(1047,1484),(1053,1491),(1059,1498),(1067,1505),(1074,1512),(1078,1519),(1083,1526),(1090,1534)]:List (Nat×Nat)).flatMap fun p=> [i p.1 0,i 0 0,r p.2]
noncomputable def csO(n:Nat):Obj:=oV .none (cs.take n)
noncomputable def h13(P:CT):List Obj:= [oX "<module>" 1 182 false 11,oR 13 3<|s "__main__" 164]
noncomputable def h2(P:CT):Obj:={cls:= .none,data:= .dict [e P "type.__subclasses__.Exception.0" 214<|i 31 0,e P "type.__subclasses__.Exception.n" 215<|i 1 0].toArray 2}
noncomputable def hs(P:CT)(n k:Nat)(m:AN)(c:Nat):List Obj:=
 [boot_o_0 P,boot_o_1 P,h2 P,glO P m k,boot_o_4 P,boot_o_5 P,boot_o_6 P,boot_o_7 P,boot_o_8 P,boot_o_9 P,boot_o_10 P,oT [],csO c]++(h13 P++(obs P).take (n-15))
noncomputable def hs0(P:CT):List Obj:= [boot_o_0 P,boot_o_1 P,boot_o_2 P,boot_o_3 P,boot_o_4 P,boot_o_5 P,boot_o_6 P,boot_o_7 P,boot_o_8 P,boot_o_9 P,boot_o_10 P,oT [],csO 0]++h13 P
noncomputable def alt:List Obj->List Obj
 | []=> []
 | [x]=> [x]
 | x::_::l=>x::alt l
noncomputable def tree:Nat->List Obj->BT
 | 0,_=> .nil
 | _,[]=> .nil
 | k+1,x::l=> .node x (tree k<|alt l)<|tree k<|alt l.tail
end EG
end
section
namespace EG
open PySem PySem.W PySem.Calls PyProof.Rows
noncomputable abbrev pw:BH:=eI
noncomputable def bE:List Bi:=behindTheImports pw
noncomputable def ev:Env:={scope:=pw.main.scope,locals:=mainNs,globals:=mainNs,cells:= [],code:= .ref 13,frame:=some 14}
noncomputable abbrev p0:Pos:=⟨0,0,0,0⟩
noncomputable abbrev ann:Option AN:=some (.ref 6)
noncomputable def sT(w:Ao)(n k:Nat)(m:AN)(c t:Nat)(os:C_):EE:=⟨tree 12<|hs w.params n k m c,n,{},#[],{},t,os⟩
noncomputable def s0T(w:Ao)(os:C_):EE:=⟨tree 12<|hs0 w.params,15,{},#[],{},187,os⟩
noncomputable def Pc(a l N:Nat)(p1 p2:Pos)(S T:Ao->C_->EE)(w:Ao):Prop:=
 (fun(p:BH) (b:List Bi) os=>segRunT HK p w 11 ann 1 N (S w os)<|piecesOf ((bE.drop a).take l) ev (R9 b ev) p1 [Jo p0])=fun p b os=>some (bT,T w os,R9 b ev,p2)
noncomputable def Iv(a l N:Nat)(p1 p2:Pos)(S T:Ao->C_->EE)(w:Ao):Prop:=
 (fun(p:BH) (b:List Bi) os=>yp zV p w 11 ann 1 N (S w os)<|piecesOf ((bE.drop a).take l) ev (R9 b ev) p1 [Jo p0])=fun p b os=>some (bT,T w os,R9 b ev,p2)
def Iv.pc{a l N:Nat}{p1 p2:Pos}{S T:Ao->C_->EE}{w:Ao}(h:Iv a l N p1 p2 S T w):Pc a l N p1 p2 S T w:=by
 unfold Pc
 rw[zN,yH]
 exact h
noncomputable def S4(w:Ao)(os:C_):EE:=sT w 233 42 (s "gridfit.run" 385) 54 529 os
noncomputable def S6(w:Ao)(os:C_):EE:=sT w 366 66 (s "gridfit.flow" 537) 105 716 os
noncomputable def S7(w:Ao)(os:C_):EE:=sT w 374 71 (s "gridfit.zones" 744) 108 752 os
noncomputable def S11(w:Ao)(os:C_):EE:=sT w 671 107 (s "gridfit.points" 917) 216 1160 os
noncomputable def S13(w:Ao)(os:C_):EE:=sT w 716 113 (s "gridfit.shifting" 1204) 228 1282 os
noncomputable def S14(w:Ao)(os:C_):EE:=sT w 796 125 (s "gridfit.shifting" 1204) 264 1405 os
noncomputable def S15(w:Ao)(os:C_):EE:=sT w 832 131 (s "gridfit.stack" 1484) 279 1486 os
noncomputable def S18(w:Ao)(os:C_):EE:=sT w 1084 167 (s "gridfit.stack" 1484) 387 1775 os
noncomputable def S20(w:Ao)(os:C_):EE:=sT w 1151 180 (s "gridfit.state" 1885) 414 1980 os
noncomputable def S22(w:Ao)(os:C_):EE:=sT w 1249 194 (s "gridfit.state" 1885) 456 2083 os
noncomputable def S23(w:Ao)(os:C_):EE:=sT w 1252 195 (s "gridfit.state" 1885) 456 2168 os
noncomputable def S28(w:Ao)(os:C_):EE:=sT w 1444 221 (s "gridfit.machine" 2313) 504 2467 os
noncomputable def S29(w:Ao)(os:C_):EE:=sT w 1528 233 (s "gridfit.machine" 2313) 540 2598 os
noncomputable def ym(w:Ao)(os:C_):EE:=sT w 1536 235 (s "gridfit.machine" 2313) 543 2632 os
def q0(w:Ao):Iv 0 37 1440 ⟨0,0,0,0⟩ ⟨98,0,161,58⟩ s0T S4 w:=by unfold Iv;kernel_rfl
def pc0(w:Ao):Pc 0 37 1440 ⟨0,0,0,0⟩ ⟨98,0,161,58⟩ s0T S4 w:=(q0 w).pc
def q1(w:Ao):Iv 37 25 789 ⟨98,0,161,58⟩ ⟨272,0,275,29⟩ S4 S6 w:=by unfold Iv;kernel_rfl
def pc1(w:Ao):Pc 37 25 789 ⟨98,0,161,58⟩ ⟨272,0,275,29⟩ S4 S6 w:=(q1 w).pc
def q2f(w:Ao):Iv 62 6 216 ⟨272,0,275,29⟩ ⟨282,0,282,9⟩ S6 S7 (w.withFollow "special-get-raises" false):=by unfold Iv;kernel_rfl
def q2t(w:Ao):Iv 62 6 216 ⟨272,0,275,29⟩ ⟨282,0,282,9⟩ S6 S7 (w.withFollow "special-get-raises" true):=by unfold Iv;kernel_rfl
def pc2(w:Ao):Pc 62 6 216 ⟨272,0,275,29⟩ ⟨282,0,282,9⟩ S6 S7 w:=(Ol "special-get-raises" (P:=Iv 62 6 216 ⟨272,0,275,29⟩ ⟨282,0,282,9⟩ S6 S7) q2f q2t w).pc
def q3(w:Ao):Iv 68 38 1502 ⟨282,0,282,9⟩ ⟨475,0,484,37⟩ S7 S11 w:=by unfold Iv;kernel_rfl
def pc3(w:Ao):Pc 68 38 1502 ⟨282,0,282,9⟩ ⟨475,0,484,37⟩ S7 S11 w:=(q3 w).pc
def q4f(w:Ao):Iv 106 7 696 ⟨475,0,484,37⟩ ⟨510,0,515,24⟩ S11 S13 (w.withFollow "special-get-raises" false):=by unfold Iv;kernel_rfl
def q4t(w:Ao):Iv 106 7 696 ⟨475,0,484,37⟩ ⟨510,0,515,24⟩ S11 S13 (w.withFollow "special-get-raises" true):=by unfold Iv;kernel_rfl
def pc4(w:Ao):Pc 106 7 696 ⟨475,0,484,37⟩ ⟨510,0,515,24⟩ S11 S13 w:=(Ol "special-get-raises" (P:=Iv 106 7 696 ⟨475,0,484,37⟩ ⟨510,0,515,24⟩ S11 S13) q4f q4t w).pc
def q5(w:Ao):Iv 113 12 384 ⟨510,0,515,24⟩ ⟨582,0,585,83⟩ S13 S14 w:=by unfold Iv;kernel_rfl
def pc5(w:Ao):Pc 113 12 384 ⟨510,0,515,24⟩ ⟨582,0,585,83⟩ S13 S14 w:=(q5 w).pc
def q6f(w:Ao):Iv 125 7 401 ⟨582,0,585,83⟩ ⟨606,0,606,8⟩ S14 S15 (w.withFollow "special-get-raises" false):=by unfold Iv;kernel_rfl
def q6t(w:Ao):Iv 125 7 401 ⟨582,0,585,83⟩ ⟨606,0,606,8⟩ S14 S15 (w.withFollow "special-get-raises" true):=by unfold Iv;kernel_rfl
def pc6(w:Ao):Pc 125 7 401 ⟨582,0,585,83⟩ ⟨606,0,606,8⟩ S14 S15 w:=(Ol "special-get-raises" (P:=Iv 125 7 401 ⟨582,0,585,83⟩ ⟨606,0,606,8⟩ S14 S15) q6f q6t w).pc
def q7(w:Ao):Iv 132 36 1082 ⟨606,0,606,8⟩ ⟨731,0,732,46⟩ S15 S18 w:=by unfold Iv;kernel_rfl
def pc7(w:Ao):Pc 132 36 1082 ⟨606,0,606,8⟩ ⟨731,0,732,46⟩ S15 S18 w:=(q7 w).pc
def q8f(w:Ao):Iv 168 14 1334 ⟨731,0,732,46⟩ ⟨784,0,785,32⟩ S18 S20 (w.withFollow "special-get-raises" false):=by unfold Iv;kernel_rfl
def q8t(w:Ao):Iv 168 14 1334 ⟨731,0,732,46⟩ ⟨784,0,785,32⟩ S18 S20 (w.withFollow "special-get-raises" true):=by unfold Iv;kernel_rfl
def pc8(w:Ao):Pc 168 14 1334 ⟨731,0,732,46⟩ ⟨784,0,785,32⟩ S18 S20 w:=(Ol "special-get-raises" (P:=Iv 168 14 1334 ⟨731,0,732,46⟩ ⟨784,0,785,32⟩ S18 S20) q8f q8t w).pc
def q9(w:Ao):Iv 182 14 412 ⟨784,0,785,32⟩ ⟨820,0,828,31⟩ S20 S22 w:=by unfold Iv;kernel_rfl
def pc9(w:Ao):Pc 182 14 412 ⟨784,0,785,32⟩ ⟨820,0,828,31⟩ S20 S22 w:=(q9 w).pc
def AFy(w:Ao):Iv 196 1 763 ⟨820,0,828,31⟩ ⟨829,0,829,10⟩ S22 S23 (w.withFollow "special-get-raises" false):=by unfold Iv;kernel_rfl
def AFL(w:Ao):Iv 196 1 763 ⟨820,0,828,31⟩ ⟨829,0,829,10⟩ S22 S23 (w.withFollow "special-get-raises" true):=by unfold Iv;kernel_rfl
def AGI(w:Ao):Pc 196 1 763 ⟨820,0,828,31⟩ ⟨829,0,829,10⟩ S22 S23 w:=(Ol "special-get-raises" (P:=Iv 196 1 763 ⟨820,0,828,31⟩ ⟨829,0,829,10⟩ S22 S23) AFy AFL w).pc
def q11(w:Ao):Iv 197 29 1531 ⟨829,0,829,10⟩ ⟨982,0,993,17⟩ S23 S28 w:=by unfold Iv;kernel_rfl
def AF6(w:Ao):Pc 197 29 1531 ⟨829,0,829,10⟩ ⟨982,0,993,17⟩ S23 S28 w:=(q11 w).pc
def q12(w:Ao):Iv 226 12 396 ⟨982,0,993,17⟩ ⟨1083,0,1088,52⟩ S28 S29 w:=by unfold Iv;kernel_rfl
def AF3(w:Ao):Pc 226 12 396 ⟨982,0,993,17⟩ ⟨1083,0,1088,52⟩ S28 S29 w:=(q12 w).pc
def AFM(w:Ao):Iv 238 2 198 ⟨1083,0,1088,52⟩ ⟨1090,0,1098,15⟩ S29 ym (w.withFollow "special-get-raises" false):=by unfold Iv;kernel_rfl
def AFz(w:Ao):Iv 238 2 198 ⟨1083,0,1088,52⟩ ⟨1090,0,1098,15⟩ S29 ym (w.withFollow "special-get-raises" true):=by unfold Iv;kernel_rfl
def AFi(w:Ao):Pc 238 2 198 ⟨1083,0,1088,52⟩ ⟨1090,0,1098,15⟩ S29 ym w:=(Ol "special-get-raises" (P:=Iv 238 2 198 ⟨1083,0,1088,52⟩ ⟨1090,0,1098,15⟩ S29 ym) AFM AFz w).pc
end EG
end
section
namespace EG
open PySem PySem.W PySem.Calls PyProof.Rows
theorem cW: ∀ l j,(alt l)[j]?=l[2*j]?
 | [],j=>by simp[alt]
 | [x],0=>rfl
 | [x],j+1=>by
  show([]:List Obj)[j]?= [x][2*j+1+1]?
  simp
 | x::y::l,0=>rfl
 | x::y::l,j+1=>by
  show(alt l)[j]?=(x::y::l)[2*j+1+1]?
  rw[cW l j,RV,RV]
theorem bX: ∀ l,(alt l).length=(l.length+1)/2
 | []=>rfl
 | [x]=>by simp[alt]
 | x::y::l=>by
  show(alt l).length+1=(l.length+1+1+1)/2
  rw[bX l]
  lia
theorem Y3: ∀ k l a,l.length<2^k->(tree k l).get a=l[a]?
 | 0,l,a,h=>by
  have:l= []:=List.length_eq_zero_iff.mp<|by lia
  subst this
  rfl
 | k+1,[],a,_=>rfl
 | k+1,x::l,a,h=>by
  have hl:l.length+1<2^k*2:=by rw[<-qg];exact h
  match a with
  | 0=>rfl
  | a+1=>
   show(match bt (a+1) 0 with
    | true=>some x
    | false=>match bt ((a+1)%2) 1 with
     | true=>(tree k<|alt l).get<|(a+1)/2
     | false=>(tree k<|alt l.tail).get<|(a+1)/2-1)=(x::l)[a+1]?
   show(match bt ((a+1)%2) 1 with
     | true=>(tree k<|alt l).get<|(a+1)/2
     | false=>(tree k<|alt l.tail).get<|(a+1)/2-1)=(x::l)[a+1]?
   rw[RV]
   rcases Nat.mod_two_eq_zero_or_one (a+1)with e | e
   ·rw[e]
    show(tree k<|alt l.tail).get ((a+1)/2-1)=l[a]?
    have e1:2*((a+1)/2-1)=a-1:=by lia
    rw[Y3 k _ _<|by rw[bX,List.length_tail];lia,cW,List.getElem?_tail,show 2*((a+1)/2-1)+1=a by lia]
   ·rw[e]
    show(tree k<|alt l).get ((a+1)/2)=l[a]?
    rw[Y3 k _ _<|by rw[bX];lia,cW,show 2*((a+1)/2)=a by lia]
noncomputable def num:Nat->List Obj->AS
 | _,[]=> []
 | n,x::l=>(n,x)::num (n+1) l
theorem Yi: ∀ l (n a:Nat) o,(num n l).lookup a=some o->n<=a/\l[a-n]?=some o
 | [],_,_,_,h=>by cases h
 | x::l,n,a,o,h=>by
  have h:(match a==n with
   | true=>some x
   | false=>(num (n+1) l).lookup a)=some o:=h
  cases e:a==n with
  | true=>
   rw[e]at h
   have:a=n:=J_ e
   subst this
   exact⟨BS _,by rw[TL];exact h⟩
  | false=>
   rw[e]at h
   obtain⟨h1,h2⟩:=Yi l (n+1) a o h
   refine⟨by lia,?_⟩
   rw[show a-n=(a- (n+1))+1 by lia,RV]
   exact h2
noncomputable def hK(P:CT):List Obj:=hs P 1536 235 (s "gridfit.machine" 2313) 543
noncomputable def H1(P:CT):Az:=absHeap (tree 12<|hK P) 1536 {}
noncomputable def KK(P:CT):AS:=num 0 (hK P)
def uO(P:CT):(hK P).length=1536:=by kernel_rfl
noncomputable def nf(o:Obj):Bool:=match o.data with
 | .freed=>false
 | _=>true
def vI(h:nf o=true):alive o=some o:=by
 obtain⟨c,d,da,sl⟩:=o
 cases da<;>first | rfl | cases h
def wW(P:CT):(hK P).all nf=true:=by kernel_rfl
def AFp(P:CT):(KK P).In (H1 P):=fun a o e=>by
 obtain⟨_,h⟩:=Yi _ _ _ _ e
 rw[Nat.sub_zero]at h
 have la:a<1536:=by
  rw[<-uO P]
  exact(Ie.mp h).1
 unfold H1
 rw[abs_get la<|(Y3 12 _ _<|by rw[uO];decide).trans h]
 exact vI<|GB.mp (wW P) o<|PZ h
noncomputable abbrev cE:Code:=R9 bE ev
noncomputable abbrev S0(w:Ao)(os:C_):Ay:=⟨MO w.params,TV [],boot_drawn,boot_toks,os⟩
def ABo: ∀ w,(fun os=>topGo HK pw w 11 ann 12 (S0 w os)<|topStub pw)=fun os=>some ((s0T w os).abs,⟨denote HK cE,cE,p0,[Jo p0]⟩):=by intro w;kernel_rfl
def ACl: ∀ w,(fun os=>segRun HK pw w 11 ann 1 1 (s0T w os).abs<|blockOf bE ev cE p0 [Jo p0])=fun os=>some (bT,(s0T w os).abs,cE,p0):=by intro w;kernel_rfl
def AF9: ∀ w,(fun os=>O1 HK pw w 11 ann 2 (ym w os).abs<|XC [] ev cE ⟨1090,0,1098,15⟩ [Jo p0])=fun os=>some (ym w os).abs:=by intro w;kernel_rfl
def AF8:bE.drop 240= []:=by kernel_rfl
def Ju{os:C_}{r:Ay}(h:Pc a l N p1 p2 S T w)(k:O1 HK pw w 11 ann M (T w os).abs (XC (bE.drop<|a+l) ev cE p2 [Jo p0])=some r):
  O1 HK pw w 11 ann (N+M) (S w os).abs (XC (bE.drop a) ev cE p1 [Jo p0])=some r:=by
 have e:(bE.drop a).take l++bE.drop (a+l)=bE.drop a:=by rw[<-FD,List.take_append_drop]
 rw[<-e]
 exact piece_app (segRun_of<|Li (Li (Li h pw) bE) os) k
def AFZ: ∃ M,Nat.ble M 30000=true/\ ∀ w os,O1 HK pw w 11 ann M (S0 w os) (topStub pw)=some (ym w os).abs:=by
 refine⟨_,rfl,fun w os=>go_top (Li (ABo w) os)<|piece_block (Li (ACl w) os) (?_:O1 HK pw w 11 ann (1440+(789+(216+(1502+(696+(384+(401+(1082+(1334+(412+(763+(1531+(396+(198+2)))))))))))))) _ _=_)⟩
 have f:O1 HK pw w 11 ann 2 (ym w os).abs (XC (bE.drop 240) ev cE ⟨1090,0,1098,15⟩ [Jo p0])=some (ym w os).abs:=by rw[AF8];exact Li (AF9 w) os
 exact Ju (pc0 w)<|Ju (pc1 w)<|Ju (pc2 w)<|Ju (pc3 w)<|Ju (pc4 w)<|Ju (pc5 w)<|Ju (pc6 w)<|Ju (pc7 w)<|Ju (pc8 w)<|Ju (pc9 w)<|Ju (AGI w)<|Ju (AF6 w)<|Ju (AF3 w)<|Ju (AFi w) f
noncomputable def qS:BH:={pw with main:={pw.main with body:= [pw.main.body.getD 239<|.Pass p0]}}
noncomputable def ft:List Str:=pw.boundNames.filter fun n=>n !="answers"
noncomputable abbrev S1(w:Ao)(os:C_):Ay:=⟨H1 w.params,TV [],{},2632,os⟩
noncomputable abbrev XtS:Ay->Bool:=fun s=>xlAt qS [] s&&recOk [] s
def k1: ∀ w:Ao,staticsOk (eE pw.main.body) (MO w.params) (H1 w.params)=true:=by intro w;kernel_rfl
def k2: ∀ w:Ao,namesBound pw (H1 w.params)=true:=by intro w;kernel_rfl
def k3: ∀ w os,gensDone (S1 w os)=true:=by intro w os;kernel_rfl
def k4: ∀ w:Ao,laidKept (MO w.params) (H1 w.params)=true:=by intro w;kernel_rfl
def k5: ∀ w,(fun os=>openSeen qS ft (eE pw.main.body) XtS true<|S1 w os)=fun _=>openGood qS ft:=by intro w;kernel_rfl
def ksz: ∀ w:Ao,((MO w.params).isNs FQ&&(TV []:Array O7).size==0,(MO w.params).objs.size,(MO w.params).nsMap FQ "__annotations__")=(true,11,ann):=by intro w;kernel_rfl
def hlN:LeftO pw qS ft XtS (fun s=>s.heap) (fun w=>H1 w.params) 30000:=by
 obtain⟨M,le,run⟩:=AFZ
 refine LeftO.of_pieces (H₀:=MO) (H₁:=H1) (gs₀:=TV []) (gs₁:=TV []) (d₀:=boot_drawn) (d₁:={}) (k₀:=boot_toks) (k₁:=2632) (m₀:=11) (ann:=ann) (M:=M) (boot_open (by kernel_rfl) rfl fun s=>by kernel_rfl) ksz run le fun w=>?_
 funext os
 rw[k1 w,k2 w,k3 w os,k4 w,Li (k5 w) os]
 rfl
def d1:(chainsOk qS&&opensWell Wf.prog)=true:=by decide+kernel
end EG
end
section
namespace GF
open PySem
noncomputable def TrD(h base:Az)(e:AK)(cls:AN)(dd:Option AK)(fl:AN):Prop:=
 ∃ vs sl T oT ts,h.get? e=some ⟨cls,dd,.fields vs,sl⟩/\vs[1]?=some (.ref T)/\base.get? T=none/\T≠e/\
  h.get? T=some oT/\oT.data= .fields ts/\ts[3]?=some fl
structure Nd(base:Az)(l:List Env)(e:AK)(cls:AN)(dd:Option AK)(fl:AN)(h:Az):Prop where
 Pl:base.StaysIn h
 new:base.get? e=none
 CL:h.FunFrames base l
 tr:TrD h base e cls dd fl
def vw{h:Az}(f:Array AN->Array AN)(e:h.get? a=some ⟨c,d,.fields vs,sl⟩):
  (h.update a<|WK f).get? a=some ⟨c,d,.fields<|f vs,sl⟩:=by
 have q:=Wq (WK f) e<|mU<|Obj.data_mapFields rfl f
 exact q
def GG{h:Az}(f:Array AN->Array AN)(n:b≠a):(h.update a<|WK f).get? b=h.get? b:=XH _ _ (Ea n)
section
variable{M:Model}{A:Dh}{E:AN->Ay->Prop}{s:Ay}
def xJ
  (hA:A.frames=some (env::outer)) (hF:s.heap.FunFrames base (env::outer)) (hL:env.frame=some L) (he:s.heap.get? e=some ⟨cls,dd,.fields vs,sl⟩)
  (st:base.StaysIn s.heap) (nw:base.get? e=none) (sz:1<vs.size)
  (k: ∀ h',Nd base (env::outer) e cls dd (rawInt L) h'->s.heap.UpToSlots h'->Q () {s with heap:=h'}):
  Aw M A (do let a <-frameOf env;let pl <-entryPlaceOf L hn;let b <-ny head a .none (rawInt L) .none pl;setField (.ref e) 1 b) Q E s:=by
 have hne:e∉(env::outer).filterMap (·.frame):=fun z=>by
  obtain⟨_,o,q,nf⟩:=hF.mem z
  rw[he]at q
  cases q
  exact nf vs rfl
 refine BP<|wpAny_frameOf_fun hA hF hL fun h1 so=>BP<|wpAny_entryPlaceOf fun pl ip=>?_
 unfold ny newFields
 refine BP<|qX ?_<|ip.sizeOk5 _ _ _ _ _
 generalize hcells:([head,.ref L,.none,rawInt L,.none]++(if pl.isEmpty then Ek 6 Rt else pl)).toArray=ts
 have t3:ts[3]?=some (rawInt L):=by rw[<-hcells];simp
 have e1:=(so.2.1 e hne).trans he
 have b1:base.StaysIn h1:=fun b o q=>(so.2.1 b fun z=>by rw[(hF.mem z).1]at q;cases q).trans<|st b o q
 have nT:=WG<|Bz e1
 have e2:=CP {cls:= .type "traceback",dict:=none,data:= .fields ts} e1
 refine bU e2 rfl sz<|k _ ?_ ?_
 ·have keep: ∀ b o,b≠e->h1.get? b=some o->((h1.push {cls:= .type "traceback",dict:=none,data:= .fields ts}).update e<|WK (·.setIfInBounds 1 (CY h1.objs.size))).get? b=some o:=
   fun b o n q=>(GG _ n).trans<|CP _ q
  refine⟨fun b o q=>keep b o (fun z=>by rw[z,nw]at q;cases q)<|b1 b o q,nw,hF.of_keeps fun b o q nf=>?_,_,sl,h1.objs.size,_,ts,vw _ e2,by simp[sz],b1.fresh,nT,(GG _ nT).trans<|IF h1 rfl,rfl,t3⟩
  ·obtain⟨sl',q'⟩:=so.2.2 b o q
   exact⟨_,keep b _ (fun z=>by rw[z,he]at q;cases q;exact nf vs rfl) q',rfl⟩
 ·intro b o q nf
  obtain⟨sl',q'⟩:=so.2.2 b o q
  exact⟨sl',(GG _ fun z=>by rw[z,he]at q;cases q;exact nf vs rfl).trans<|CP _ q'⟩
def gk
  (hA:A.frames=some (env::outer)) (hF:s.heap.FunFrames base (env::outer)) (hL:env.frame=some L) (he:s.heap.get? e=some ⟨cls,dd,.fields vs,sl⟩) (h1:vs[1]?=some .none)
  (st:base.StaysIn s.heap) (nw:base.get? e=none)
  (k: ∀ h',Nd base (env::outer) e cls dd (rawInt L) h'->s.heap.UpToSlots h'->Q () {s with heap:=h'}):Aw M A (V7 (.ref e) env) Q E s:=by
 unfold V7
 simp only[hL]
 refine BP<|RP he rfl h1 ?_
 rw[AG<|by decide]
 exact xJ hA hF hL he st nw (Vs.mp h1).1 k
def XJ
  (hA:A.frames=some (env::outer)) (hL:env.frame=some L) (F:Nd base (env::outer) e cls dd .none s.heap)
  (k: ∀ h',Nd base (env::outer) e cls dd (rawInt L) h'->s.heap.UpToSlots h'->Q () {s with heap:=h'}):Aw M A (V7 (.ref e) env) Q E s:=by
 obtain⟨st,nw,hF,vs,sl,T,oT,ts,he,h1,hT,ne,oTe,dT,t3⟩:=F
 unfold V7
 simp only[hL]
 refine BP<|RP he rfl h1 ?_
 rw[AI<|by simp]
 refine BP<|RP oTe dT t3 ?_
 rw[AG<|by simp[rawInt]]
 refine BP<|bU oTe dT (Vs.mp t3).1 ?_
 have nf: ∀ b o,s.heap.get? b=some o->(∀ ws,o.data≠ .fields ws)->b≠T:=fun b o q n z=>by rw[z,oTe]at q;cases q;exact n ts dT
 refine xJ hA (hF.of_keeps fun b o q n=>⟨o,(GG _<|nf b o q n).trans q,rfl⟩) hL ((GG _<|Ea ne).trans he)
  (fun b o q=>(GG _ fun z=>by rw[z,hT]at q;cases q).trans<|st b o q) nw (Vs.mp h1).1 fun h' F' U=>k h' F' fun b o q n=>U b o ((GG _<|nf b o q n).trans q) n
def nE(F:Nd base l e cls dd fl s.heap)
  (k: ∀ h',Nd base l e cls dd .none h'->s.heap.UpToSlots h'->Q () {s with heap:=h'}):Aw M A (setFlight (.ref e) none) Q E s:=by
 obtain⟨st,nw,hF,vs,sl,T,oT,ts,he,h1,hT,ne,oTe,dT,t3⟩:=F
 have s3:=(Vs.mp t3).1
 have nf: ∀ b o,s.heap.get? b=some o->(∀ ws,o.data≠ .fields ws)->b≠T:=fun b o q n z=>by rw[z,oTe]at q;cases q;exact n ts dT
 unfold setFlight
 refine BP<|RP he rfl h1 ?_
 rw[AI<|by simp]
 refine bU oTe dT s3<|k _ ⟨fun b o q=>(GG _ fun z=>by rw[z,hT]at q;cases q).trans<|st b o q,nw,hF.of_keeps fun b o q n=>⟨o,(GG _<|nf b o q n).trans q,rfl⟩,?_⟩ fun b o q n=>⟨o.slots,(GG _<|nf b o q n).trans q⟩
 ·obtain⟨cT,dT',daT,slT⟩:=oT
  obtain rfl:daT= .fields ts:=dT
  exact⟨vs,sl,T,_,_,(GG _<|Ea ne).trans he,h1,hT,ne,vw _ oTe,rfl,by simp[s3]⟩
def Nd.out(F:Nd base (env::outer) e cls dd fl h):Nd base outer e cls dd fl h:=
 ⟨F.Pl,F.new,F.CL.2.2,F.tr⟩
def bc
  (hA:A.frames=some (env::outer)) (hF:s.heap.FunFrames base (env::outer)) (hL:env.frame=some L) (he:s.heap.get? e=some ⟨cls,dd,.fields vs,sl⟩) (h1:vs[1]?=some .none)
  (st:base.StaysIn s.heap) (nw:base.get? e=none)
  (k: ∀ h',Nd base outer e cls dd .none h'->s.heap.UpToSlots h'->Q () {s with heap:=h'}):Aw M A («leaving» env<|.ref e) Q E s:=by
 unfold «leaving»
 exact BP<|gk hA hF hL he h1 st nw fun h' F U=>nE F fun h'' F' U'=>k h'' F'.out<|U.trans U'
def gG
  (hA:A.frames=some (env::outer)) (hL:env.frame=some L) (F:Nd base (env::outer) e cls dd .none s.heap)
  (k: ∀ h',Nd base outer e cls dd .none h'->s.heap.UpToSlots h'->Q () {s with heap:=h'}):Aw M A («leaving» env<|.ref e) Q E s:=by
 unfold «leaving»
 exact BP<|XJ hA hL F fun h' F1 U=>nE F1 fun h'' F' U'=>k h'' F'.out<|U.trans U'
end
end GF
end
section
namespace GF
section
open PySem PySem.W
noncomputable abbrev Vi:List AN:= [.type "Exception",.type "BaseException",.type "object"]
noncomputable def E7(K:AS)(C:AK):Bool:=match K.lookup C with
 | some ⟨.type "type",_,.cls cd,sl⟩=>(match cd.mro,sl.toList,K.lookup cd.ns with
  | .ref C'::bm,[_,_,_,_,some<|.builtin n,_],some ⟨_,_,.dict es _,_⟩=>C'==C&&!cd.hasDel&&bm==Vi&&n=="Exception.__new__"&&cd.hasDict&&
    es.toList.all (fun e=>match e.key with | .str _ _=>true | _=>false)&&(Oc es "__setattr__"==none)&&(Oc es "number"==none)&&(Oc es "__getattribute__"==none)&&(Oc es "__getattr__"==none)
  | _,_,_=>false)
 | _=>false
def Iu(X:K.In h)(q:E7 K C=true): ∃ nm qn N bs sn sub ab col dd k0 k1 k2 k3 k5 mN,
  h.get? C=some (PY nm qn C N bs Vi true sn sub ab col dd k0 k1 k2 k3 k5 "Exception.__new__")/\h.Ns N mN/\mN "__setattr__"=none/\mN "number"=none/\mN "__getattribute__"=none/\mN "__getattr__"=none:=by
 unfold E7 at q
 split at q
 ·rename_i dd cd sl ho
  split at q
  ·rename_i C' bm k0 k1 k2 k3 n k5 oc od es ep osl hm hs hk
   simp only[PQ,Fn,LV]at q
   obtain⟨⟨⟨⟨⟨⟨⟨⟨⟨rfl,hdel⟩,hb⟩,hn⟩,hdc⟩,hstr⟩,n1⟩,n2⟩,n3⟩,n4⟩:=q
   obtain⟨nm,bs,mro,ns,qn,hd,sn,sub,ab,col,del⟩:=cd
   dsimp only at hm hdel hdc hk
   subst hm hdel hdc hn hb
   obtain⟨l⟩:=sl
   simp only at hs
   subst hs
   refine⟨nm,qn,ns,bs,sn,sub,ab,col,dd,k0,k1,k2,k3,k5,Oc es,X _ _ ho,⟨_,es,ep,X _ _ hk,rfl,fun e he=>?_,fun _=>rfl⟩,n1,n2,n3,n4⟩
   have z:=GB.mp hstr e<|mK.mpr he
   cases q:e.key with
   | str a b=>exact⟨a,b,rfl⟩
   | _=>rw[q]at z;cases z
  ·cases q
 ·cases q
noncomputable abbrev Eu(C t:AK):Obj:={cls:= .ref C,data:= .fields #[.ref t,.none,.none,.none,.bool false,.none]}
noncomputable abbrev QS(vs:List AN):Obj:={cls:= .type "tuple",data:= .seq vs.toArray}
section
variable{prog:BH}{w:Ao}{A:Dh}{K:AS}{C fI:AK}{R:Result->Ay->Prop}{h:Az}{g:Array O7}{d:Drawn}{t:Nat}{os:C_}
def kq(X:K.In h)(hc:E7 K C=true)(hi:C9 K (.ref C) "__init__"=some (some<|.ref fI))(hf:cG K (.ref fI)=some (.type "function"))(hr:rest.length<=sizeLine)
  (hq:GN (Ai prog w) (A.under<|.builtin "type.__call__" ⟨.ref C::rest,[]⟩) (.call (.ref fI) ⟨.ref (h.objs.size+1)::rest,[]⟩) (rJ (h.objs.size+1) R) ⟨(h.push<|QS rest).push<|Eu C h.objs.size,g,d,t,os⟩):
  GN (Ai prog w) A (.call (.ref C) ⟨rest,[]⟩) R ⟨h,g,d,t,os⟩:=by
 obtain⟨nm,qn,N,bs,sn,sub,ab,col,dd,k0,k1,k2,k3,k5,mN,hC,-⟩:=Iu X hc
 have FB:=WR
 have f1:=tc_lookup
 have f2:=tc_bind<|.ref C
 have hT:(⟨h,g,d,t,os⟩:Ay).TypeIs (.ref C) "type":=⟨_,hC,rfl⟩
 refine codeAny_of_tree ?_
 repeat(any_goals (first | assumption | with_reducible refine Ih hC ?_ | wp_step))
 refine Vw rfl<|codeAny_call_builtin_at (mZ _<|by decide+kernel) entry_typeCall<|wpAny_check_type_call_sub hC ?_
 repeat(first | with_reducible refine Ih hC ?_ | with_reducible refine wpAny_madeBy_exc hC ?_ | wp_step)
 refine codeAny_call_builtin_code (mZ _ FB.quiet)<|wpAny_check_new_sub FB hC<|codeAny_exc_new_sub FB hC ?_ hr
 have kp: ∀ b o,h.get? b=some o->((h.push<|QS rest).push<|Eu C h.objs.size).get? b=some o:=fun b o e=>CP _<|CP _ e
 have hC1:=kp _ _ hC
 have X1:=X.keeps kp
 have hx:((h.push<|QS rest).push<|Eu C h.objs.size).get? (h.objs.size+1)=some (Eu C h.objs.size):=by heap_get
 have hcC:(CY C::Vi).contains (.ref C)=true:=by simp
 unfold isInstance
 repeat(first |(with_reducible refine Ih hx ?_) |(show Aw _ _ (isSubtype (.ref C)<|.ref C) _ _ _;refine nj hC1 ?_;rw[hcC]) | wp_step)
 refine(rE X1 hi).here ?_
 refine V9<|BP<|(qa X1 _ hf).here ?_
 refine BP<|Of<|La hq fun r s' z=>?_
 rcases r with e |(v | _ | _ | _)<;>first | exact z | exact z.elim | skip
 obtain⟨rfl,z⟩:=z
 exact Cp<|Cp z
end
end
section
open PySem PySem.W
section
variable{prog:BH}{w:Ao}{A:Dh}{K:AS}{E:AN->Ay->Prop}{C e:AK}{h:Az}{g:Array O7}{d:Drawn}{t:Nat}{os:C_}
def eY(X:K.In h)(hc:E7 K C=true)(he:h.get? e=some (Eu C u))
  (k: ∀ h',(∀ b o,b≠e->h.get? b=some o->h'.get? b=some o)->h'.get? e=some (Eu C h.objs.size)->Q .none ⟨h',g,d,t,os⟩):
  Aw (Ai prog w) A (call (.builtin "Exception.__init__") [.ref e,v]) Q E ⟨h,g,d,t,os⟩:=by
 obtain⟨nm,qn,N,bs,sn,sub,ab,col,dd,k0,k1,k2,k3,k5,mN,hC,-⟩:=Iu X hc
 have FB:=WR
 refine Of<|eA FB.init.plain FB.initEntry<|wpAny_check_init_sub FB hC he rfl ?_
 wp_walk
 refine k _ (fun b o n q=>(XH _ _<|Ea n).trans<|CP _ q) ?_
 rw[Wq _ (CP _ he) rfl]
 rfl
def yZ{sub:List AN}{mN:Str->Option AN}
  (hC:h.get? C=some (PY nm qn C N bs Vi true sn sub ab col dd k0 k1 k2 k3 k5 "Exception.__new__")) (hN:h.Ns N mN) (n2:mN "number"=none) (he:h.get? e=some oe) (hc:oe.cls= .ref C) (hd:oe.dict=none) (hf:oe.data= .fields vs)
  (k: ∀ h' tk,(∀ b o,b≠e->h.get? b=some o->h'.get? b=some o)->h'.get? e=some {oe with dict:=some h.objs.size}->h'.Ns1 h.objs.size (fun y=>if y=("number":Str)then some v else none)->Q (.done<|.ret .none) ⟨h',g,d,tk,os⟩):
  Aw (Ai prog w) A (Builtin.«object.__setattr__» ⟨[.ref e,.str "number" tk,v],[]⟩) Q E ⟨h,g,d,t,os⟩:=by
 have SF:=cO
 have hB:V1 (.type "Exception") "number"=CB none:=by rw[my,mI];kernel_rfl
 have pas:=SF.passes<|.ref e
 have es:=DN<|Bz he
 unfold Builtin.«object.__setattr__»
 repeat(first | rw[refuse_eq] |(rw[refuseLoop_ref,pas]) |(with_reducible refine Ih he ?_;rw[hc]) |(with_reducible refine wpAny_mroOf_exc hC ?_) |(with_reducible refine WV hC hN SF.mro hB ?_;rw[n2]) | wp_step)
 rw[hd,AG<|by simp[typeHasDict]]
 dsimp only
 rw[hf]
 dsimp only
 have q1:(h.push {cls:= .type "dict",data:= .dict #[]}).get? e=some oe:=CP _ he
 have fr: ∀ o:Obj,o.data= .fields vs->o.isFreed=false:=fun o z=>mU z
 refine BP<|wpAny_alloc'<|BP<|wpAny_update' q1<|Cp ?_
 generalize hh:((h.push {cls:= .type "dict",data:= .dict #[]}).update e fun o=>{cls:=o.cls,dict:=some h.objs.size,data:=o.data,slots:=o.slots})=h2
 have g1:h2.get? h.objs.size=some {cls:= .type "dict",data:= .dict #[]}:=by
  rw[<-hh,oj _ _ _ _ es.symm]
  exact Heap.get?_push_at rfl rfl
 have g2:h2.get? e=some {oe with dict:=some h.objs.size}:=by
  rw[<-hh]
  exact Wq _ q1<|fr _ hf
 have g3: ∀ b o,b≠e->h.get? b=some o->h2.get? b=some o:=fun b o n q=>by
  rw[<-hh,oj _ _ _ _ n]
  exact CP _ q
 have g4:h2.Ns h.objs.size (fun _=>none):=⟨_,#[],_,g1,rfl,fun x hx=>absurd hx<|by simp,fun _=>rfl⟩
 unfold AAU yR
 refine BP<|Cp<|BP<|qD (p7 g4) fun h3 n3 s3=>?_
 obtain⟨oD,eD,pD,a1,a2,a3⟩:=n3.count<|qz "number" v Within.nil
 refine BP<|o5 a1 (by rw[a2];exact pR<|CC a3<|by rw[G4,Wo,dC];lia) ?_
 wp_walk
 exact k h3 _ (fun b o n q=>(s3.2 b<|DN<|Bz q).trans<|g3 b o n q) ((s3.2 e es).trans g2) n3
def y9{sub:List AN}{mN:Str->Option AN}
  {B sa owner:String} (SF:StoreFacts B Vi sa owner) (hC:h.get? C=some (PY nm qn C N bs Vi true sn sub ab col dd k0 k1 k2 k3 k5 "Exception.__new__")) (hN:h.Ns N mN) (n2:mN "number"=none) (he:h.get? e=some oe) (hc:oe.cls= .ref C) (hd:oe.dict=none) (hf:oe.data= .fields vs)
  (k: ∀ h' tk,(∀ b o,b≠e->h.get? b=some o->h'.get? b=some o)->h'.get? e=some {oe with dict:=some h.objs.size}->h'.Ns1 h.objs.size (fun y=>if y=("number":Str)then some v else none)->R (.ok<|.ret .none) ⟨h',g,d,tk,os⟩):
  GN (Ai prog w) A (.call (.builtin sa) ⟨[.ref e,.str "number" tk,v],[]⟩) R ⟨h,g,d,t,os⟩:=
 eA SF.slot.plain SF.entry (wpAny_check_sa SF hC he hc<|yZ hC hN n2 he hc hd hf fun h' tk' a b c=>k h' tk' a b c)
def ACu(X:K.In h)(hk:E7 K C=true)(hs:C9 K (.ref C) "__setattr__"=some (some<|.builtin "object.__setattr__"))
  (he:h.get? e=some oe) (hc:oe.cls= .ref C) (hd:oe.dict=none) (hf:oe.data= .fields vs)
  (k: ∀ h' tk,(∀ b o,b≠e->h.get? b=some o->h'.get? b=some o)->h'.get? e=some {oe with dict:=some h.objs.size}->h'.Ns1 h.objs.size (fun y=>if y=("number":Str)then some v else none)->Q () ⟨h',g,d,tk,os⟩):
  Aw (Ai prog w) A (fP (.ref e) "number" v) Q E ⟨h,g,d,t,os⟩:=by
 obtain⟨nm,qn,N,bs,sn,sub,ab,col,dd,k0,k1,k2,k3,k5,mN,hC,hN,n1,n2,n3,n4⟩:=Iu X hk
 refine set_plain (s:=⟨h,g,d,t,os⟩) (od:=none) X ⟨he,hc,?_,?_⟩ hs ?_
 ·unfold notCls
  rw[hf]
 ·rw[hd]
  trivial
 ·exact y9 cO hC hN n2 he hc hd hf k
end
end
def wQ(x:Int):0<=x*x:=by
 rw[<-bY]
 exact FP _
def AEo(p:Int):32768*p*(32768*p)=1073741824*(p*p):=by
 rw[lW,Int.mul_left_comm p 32768 p,<-lW]
 rfl
def mi{x:Int}(h:x*x=0):x=0:=by
 rcases Int.mul_eq_zero.mp h with h | h<;>exact h
def zr(a b:Int)(hb:b≠0):BN (2*a+b) (2*b)=Ht.near a b:=by
 unfold Ht.near
 split
 ·have e1:2* -a+ -b= -(2*a+b):=by lia
  have e2:2* -b= -(2*b):=by lia
  rw[e1,e2,Int.neg_fdiv_neg]
 ·rfl
noncomputable def Gj(s:Int):Nat->Int->Int
 | 0,f=>f
 | n+1,f=>if(f+2^n)*(f+2^n)<=s then Gj s n (f+2^n)else Gj s n f
theorem Qm(s:Int): ∀ n f,0<=f->f*f<=s->s<(f+2^n)*(f+2^n)->
  0<=Gj s n f/\Gj s n f*Gj s n f<=s/\s<(Gj s n f+1)*(Gj s n f+1)
 | 0,f,h0,h1,h2=>⟨h0,h1,by simpa[Gj]using h2⟩
 | n+1,f,h0,h1,h2=>by
  have hp:(0:Int)<2^n:=bP<|by decide
  have e:(2:Int)^(n+1)=2^n+2^n:=by rw[rK];lia
  unfold Gj
  split
  ·rename_i h
   refine Qm s n _ (by lia) h ?_
   have e2:f+2^(n+1)=f+2^n+2^n:=by rw[e];lia
   rw[<-e2]
   exact h2
  ·rename_i h
   exact Qm s n f h0 h1<|by lia
def AEs{a b:Int}(ha:0<=a)(hb:0<=b)(h:a*a<b*b):a<b:=by
 by_cases c:a<b
 ·exact c
 ·have c':b<=a:=by lia
  have:=Int.mul_le_mul c' c' hb ha
  lia
noncomputable def SN(a ss:Nat)(n i:Nat):Nat:=
 if(2*(n+2^(14-i))-1)*(2*(n+2^(14-i))-1)*ss<=32768*a*(32768*a)then n+2^(14-i)else n
def rL(a ss:Nat):Ht.part a ss=(BO 15).foldl (SN a ss) 0:=rfl
noncomputable def good(a ss n:Nat):Prop:=n=0\/(2*n-1)*(2*n-1)*ss<=32768*a*(32768*a)
def good_mono(h:good a ss n)(hm:m<=n):good a ss m:=by
 rcases h with rfl | h
 ·exact .inl<|by lia
 ·by_cases z:m=0
  ·exact .inl z
  ·refine .inr (CC ?_ h)
   exact bh _<|Lq (by lia)<|by lia
theorem Tn(a ss:Nat): ∀ k n,k<=15->good a ss n-> ¬ good a ss (n+2^k)->
  good a ss (((ng (15-k) k)).foldl (SN a ss) n)/\ ¬ good a ss ((((ng (15-k) k)).foldl (SN a ss) n)+1)
 | 0,n,_,h1,h2=>⟨h1,by simpa using h2⟩
 | k+1,n,hk,h1,h2=>by
  rw[List.range'_succ]
  have e1:14- (15- (k+1))=k:=by lia
  have e2:15- (k+1)+1=15-k:=by lia
  have hp:0<2^k:=Nat.pow_pos<|by decide
  have e3:2^(k+1)=2^k+2^k:=by rw[qg];lia
  rw[Ww,e2]
  unfold SN
  rw[e1]
  split
  ·rename_i h
   refine Tn a ss k _ (by lia) (.inr h) ?_
   rw[Nat.add_assoc,<-e3]
   exact h2
  ·rename_i h
   refine Tn a ss k n (by lia) h1 ?_
   intro g
   rcases g with g | g
   ·lia
   ·exact h g
def rN(hs:0<ss)(ha:a*a<=ss):good a ss (Ht.part a ss)/\ ¬ good a ss (Ht.part a ss+1):=by
 have h:=Tn a ss 15 0 (by decide) (.inl rfl) (by
  intro g
  rcases g with g | g
  ·simp at g
  ·have b:(2*(0+2^15)-1)=65535:=by decide
   rw[b]at g
   have c:32768*a*(32768*a)=1073741824*(a*a):=by
    have:32768*a*(32768*a)=(32768*32768)*(a*a):=Nat.mul_mul_mul_comm _ _ _ _
    rw[this]
   lia)
 rw[rL,List.range_eq_range']
 exact h
def uo(h1:good a ss n)(h2: ¬ good a ss (n+1))(h3:good a ss m)(h4: ¬ good a ss (m+1)):n=m:=by
 by_cases c:n<m
 ·exact absurd (good_mono h3<|by lia) h2
 ·by_cases d:m<n
  ·exact absurd (good_mono h1<|by lia) h4
  ·lia
def rO(a ss t:Nat)(hs:0<ss)(h1:t*t<=32768*a*(32768*a)/ss)(h2:32768*a*(32768*a)/ss<(t+1)*(t+1)):good a ss ((t+1)/2)/\ ¬ good a ss ((t+1)/2+1):=by
 generalize hN:32768*a*(32768*a)=N at*
 have d2:N<(N/ss+1)*ss:=by
  have h:=Nat.div_add_mod N ss
  have g:=E9 N hs
  rw[Nat.add_mul,ql,Nat.mul_comm<|N/ss]
  lia
 refine⟨?_,?_⟩
 ·by_cases z:(t+1)/2=0
  ·exact .inl z
  ·refine .inr ?_
   rw[hN]
   have e:2*((t+1)/2)-1<=t:=by lia
   exact CC (bh _<|CC (Lq e e) h1)<|Nat.div_mul_le_self N ss
 ·rintro(z | z)
  ·lia
  ·rw[hN]at z
   have e:t+1<=2*((t+1)/2+1)-1:=by lia
   have f:=CC h2<|Lq e e
   have g:=bh ss f
   lia
def rV(p ss t:Int)(hs:0<ss)(hp:p*p<=ss)(ht:0<=t)(h1:t*t<=BN (32768*p*(32768*p)) ss)(h2:BN (32768*p*(32768*p)) ss<(t+1)*(t+1)):
  BN (t+1) 2=AD (Ht.part p.natAbs ss.toNat):=by
 obtain⟨s,rfl⟩:=OY<|Wz hs
 obtain⟨r,rfl⟩:=OY ht
 have sq: ∀ x:Int,x*x=((x.natAbs*x.natAbs:Nat):Int):=fun x=>(bY).symm
 have hn:(32768*p).natAbs=32768*p.natAbs:=Wu _ _
 have hs':0<s:=by lia
 have e1:BN (32768*p*(32768*p)) (s:Int)=((32768*p.natAbs*(32768*p.natAbs)/s:Nat):Int):=by
  rw[sq<|32768*p,hn,GD _<|by lia]
  exact(Int.natCast_ediv _ _).symm
 rw[e1]at h1 h2
 have hp':p.natAbs*p.natAbs<=s:=by
  rw[sq p]at hp
  exact Bf.mp hp
 have k:=rO p.natAbs s r hs' (by exact_mod_cast h1)<|by exact_mod_cast h2
 have q:=rN hs' hp'
 rw[GD _<|by decide]
 show((r:Int)+1)/2=((Ht.part p.natAbs s:Nat):Int)
 rw[<-(uo k.1 k.2 q.1 q.2)]
 lia
def xh(h:x<8):x=0\/x=1\/x=2\/x=3\/x=4\/x=5\/x=6\/x=7:=(show ∀ x:Fin 8,x.val=0\/x.val=1\/x.val=2\/x.val=3\/x.val=4\/x.val=5\/x.val=6\/x.val=7 by decide) ⟨x,h⟩
end GF
end
section
namespace GF
open PySem PySem.Spec PyProof.Rows L2
noncomputable def gn(n:Int):List (Str×V):= [("number",.int n)]
structure CXB(P:BH)(w:Ao)(C:AK)(outer:List Env)(H H':Hp)(s s':Ay)(B:Az)(a d:AK)(n:Int):Prop where
 os:s'.os=s.os
 bare:Jr s'.gens
 un:Un (CL outer) [] H H' s.heap s'.heap
 C0:NG P w H' s'.heap
 xd:H' d=some (.xd (gn n))
 zd:Nd B outer a (.ref C) (some d) .none s'.heap
 cov: ∀ b o,s'.heap.get? b=some o->b∉CL outer->((∃ o',s.heap.get? b=some o')\/(H' b).isSome=true)->B.get? b=some o
noncomputable def Xr(P:BH)(w:Ao)(C:AK):xa:=fun outer H s E e s'=> ∃ a d n H' B,e= .ref a/\CXB P w C outer H H' s s' B a d n/\E (.int n 0) none H'
theorem jA(x:EK P w H h a o): ∃ ob,h.get? a=some ob:=by
 cases o with
 | lst xs=>obtain⟨_,_,_,_,e⟩:=x;exact⟨_,e⟩
 | tup xs=>obtain⟨_,_,_,ob,e,_⟩:=x;exact⟨ob,e⟩
 | dK BU=>obtain⟨_,_,_,_,ob,_,_,e,_⟩:=x;exact⟨ob,e⟩
 | dT BU=>obtain⟨_,_,_,_,ob,_,_,e,_⟩:=x;exact⟨ob,e⟩
 | set S n=>obtain⟨ob,_,_,_,e,_⟩:=x;exact⟨ob,e⟩
 | ins C dx fs=>obtain⟨_,_,_,e,_⟩:=x;exact⟨_,e⟩
 | own y=>exact x
 | xd fs=>obtain⟨_,⟨ob,_,_,e,_⟩,_⟩:=x;exact⟨ob,e⟩
 | rng lo hi=>obtain⟨_,_,_,e⟩:=x;exact⟨_,e⟩
 | frz ob u=>exact⟨_,x.1⟩
 | tbl ps=>exact⟨_,x⟩
 | met f y=>exact⟨_,x⟩
 | ext φ=>exact x.2.1
def b8{σ:L2.St}(I:Inv X pins σ H s)(hx:X.ex= [])(hs:X.stack=X.env::X.outer)(hL:X.env.frame=some X.env.locals)
  (hB: ∀ b o,s.heap.get? b=some o->b∉CL X.stack->((∃ o',X.P8.heap.get? b=some o')\/(H b).isSome=true)->B.get? b=some o)
  (F:Nd B X.outer a (.ref C) (some d) .none h') (U:s.heap.UpToSlots h') (hd:H d=some (.xd<|gn n)):CXB X.prog X.w C X.outer X.H_0 H X.P8 {s with heap:=h'} B a d n:=by
 have nx: ∀ b:AK,b∉X.ex:=fun b z=>by rw[hx]at z;cases z
 have neL: ∀ b o,X.P8.heap.get? b=some o->b≠X.env.locals:=fun b o e=>DN<|DO (Bz e) I.ok.above
 have C1: ∀ b,b∈CL X.stack->b=X.env.locals\/b∈CL X.outer:=fun b hb=>by
  rw[hs]at hb
  unfold CL at hb
  rw[TF,hL]at hb
  exact Ce.mp hb
 have nos: ∀ b o,X.P8.heap.get? b=some o->b∉CL X.outer->b∉CL X.stack:=fun b o e nb z=>(C1 b z).elim (neL b o e) nb
 have trk: ∀ b,(H b).isSome=true->b∉CL X.stack:=fun b hb z=>by rw[I.We b z]at hb;cases hb
 have old: ∀ b o,X.P8.heap.get? b=some o->b∉CL X.outer-> ∀ o',s.heap.get? b=some o'->h'.get? b=some o':=fun b o e nb o' q=>F.Pl b o'<|hB b o' q (nos b o e nb)<|.inl ⟨o,e⟩
 have frm: ∀ b,b∈CL X.outer-> ∀ o,s.heap.get? b=some o-> ∃ sl,h'.get? b=some {o with slots:=sl}:=fun b hb o q=>by
  obtain⟨_,o2,q2,nf⟩:=I.funs.mem hb
  rw[q]at q2
  cases q2
  exact U b o q nf
 have kt: ∀ b o,s.heap.get? b=some o->(H b).isSome=true->h'.get? b=some o:=fun b o q hb=>F.Pl b o<|hB b o q (trk b hb)<|.inr hb
 refine⟨I.os,I.bare,⟨fun b o e nH nf _=>(old b o e nf o<|I.base.keep b o e nH nf<|nx b),fun b o e nH hf _=>?_,fun b o e nH _=>I.base.free b o e nH<|nx b,fun b o e _=>?_,I.base.VP,I.base.Tf,I.base.VH⟩,?_,hd,F,?_⟩
 ·obtain⟨sl,q⟩:=I.base.slot b o e nH hf (nx b)
  obtain⟨sl',q'⟩:=frm b hf _ q
  exact⟨sl',q'⟩
 ·obtain⟨o',q⟩:=I.base.there b o e (nx b)
  by_cases hf:b∈CL X.outer
  ·obtain⟨sl,q'⟩:=frm b hf _ q
   exact⟨_,q'⟩
  ·exact⟨o',old b o e hf o' q⟩
 ·intro b u q
  refine(I.C0 b u q).Pl (fun c v hc qc=>kt c v qc ?_) (fun _ z=>z) fun _ _ z=>z
  rcases hc with rfl | hc
  ·rw[q];rfl
  ·rw[hc];rfl
 ·intro b o q nf hb
  have key: ∃ o',s.heap.get? b=some o'/\h'.get? b=some o'/\B.get? b=some o':=by
   rcases hb with⟨o0,e⟩ | hb
   ·obtain⟨o',q1⟩:=I.base.there b o0 e (nx b)
    exact⟨o',q1,old b o0 e nf o' q1,hB b o' q1 (nos b o0 e nf)<|.inl ⟨o0,e⟩⟩
   ·obtain⟨u,hu⟩:=dH.mp hb
    obtain⟨o',q1⟩:=jA<|I.C0 b u hu
    exact⟨o',q1,kt b o' q1 hb,hB b o' q1 (trk b hb)<|.inr hb⟩
  obtain⟨o',_,q2,q3⟩:=key
  have q:=q
  rw[q2]at q
  cases q
  exact q3
section
variable{P:BH}{w:Ao}{K:AS}{mg:Str->Option AN}{base:Az}{N:List Str}{qual:Str}{scope:Fd}{f C:AK}{cd:AN}{A:Dh}{outer:List Env}{s0:Ay}{H0:Hp}{E:XK}
def jD:Passes (Xr P w C) (M6 (Xr P w C) P w K mg base N qual scope f cd A outer s0 H0 E) E:=by
 rintro pins σ H s e s' I ⟨a,d,n,H',B,rfl,c,q⟩
 have I':=I.xM c.os c.un c.C0 c.bare fun b z=>nomatch z
 exact gG I'.ok.frames rfl c.zd fun h' F U=>⟨a,d,n,H',B,rfl,b8 I' rfl rfl rfl (fun b o q nf hb=>c.cov b o q nf<|hb.imp (fun z=>I.base.there b _ z.choose_spec fun y=>nomatch y) id) F U c.xd,q⟩
def AA9{σ:L2.St}(I:Inv (M6 (Xr P w C) P w K mg base N qual scope f cd A outer s0 H0 E) pins σ H s)
  (he:s.heap.get? a=some ⟨.ref C,some d,.fields vs,sl⟩) (h1:vs[1]?=some .none) (ha:H a=none) (nw:s0.heap.objs.size<=a) (hd:H d=some (.xd<|gn n)) (q:E (.int n 0) none H):
  (M6 (Xr P w C) P w K mg base N qual scope f cd A outer s0 H0 E).xe (.ref a) s:=by
 have nfr:a∉CL (M6 (Xr P w C) P w K mg base N qual scope f cd A outer s0 H0 E).stack:=fun z=>by
  obtain⟨_,o,e,nf⟩:=I.stack.mem z
  rw[he]at e
  cases e
  exact nf vs rfl
 have hid: ∀ b o,s.heap.get? b=some o->b∉CL (M6 (Xr P w C) P w K mg base N qual scope f cd A outer s0 H0 E).stack->b≠a->
   (qh s.heap<|a::CL (M6 (Xr P w C) P w K mg base N qual scope f cd A outer s0 H0 E).stack).get? b=some o:=fun b o e nf ne=>lg _ e fun z=>(Ce.mp z).elim ne nf
 refine bc I.ok.frames
  (PySem.W.funFrames_hide I.stack fun env he b hb=>Cz _<|d_.mpr ⟨env,he,hb⟩) rfl he h1 (fun b o e=>n8 _ e) (oQ _ Dx) fun h' F U=>?_
 refine⟨a,d,n,H,_,rfl,b8 I rfl rfl rfl (fun b o e nf hb=>hid b o e nf fun z=>?_) F U hd,q⟩
 subst z
 rcases hb with⟨o',e'⟩ | hb
 ·exact absurd (DO (Bz e') nw)<|Fo _
 ·rw[ha]at hb
  cases hb
end
noncomputable def Mz(C e:AK):HO:= .ext fun h=> ∃ u,h.get? e=some (Eu C u)
def vq(q:h.get? e=some (Eu C u)):EK P w H h e (Mz C e):=
 ⟨⟨u,q⟩,⟨_,q⟩,fun h1 h2 ⟨u',q'⟩ k=>⟨u',k _ q'⟩⟩
def z5{σ:L2.St}{x d:AK}(I:Inv X pins σ H s)(mu:Mut (H x))(hd:s.heap.objs.size<=d)
  (k: ∀ b u,b≠x->s.heap.get? b=some u->h'.get? b=some u) (hx: ∃ u,h'.get? x=some u) (nx:EK X.prog X.w (upd (upd H d od) x o') h' x o') (nd:EK X.prog X.w (upd (upd H d od) x o') h' d od):
  Inv X pins σ (upd (upd H d od) x o') {s with heap:=h',toks:=t'}:=by
 have fd:=I.C0.fresh hd
 have xd:d≠x:=fun z=>by subst z;rw[fd]at mu;exact mu
 have ux: ∀ b,b≠x->b≠d->upd (upd H d od) x o' b=H b:=fun b n1 n2=>by rw[AQ n1,AQ n2]
 have nm: ∀ b u,H b=some u-> ¬ Mut (some u)->b≠x:=fun b u q n z=>by subst z;rw[q]at mu;exact n mu
 have nD: ∀ b u,H b=some u->b≠d:=fun b u q=>Ac q fd
 have nN: ∀ b,H b=none->b≠x:=fun b q z=>by subst z;rw[q]at mu;exact mu
 have nh: ∀ b o,s.heap.get? b=some o->b≠d:=fun b o q=>DN<|DO (Bz q) hd
 refine I.un ⟨fun b o q n _ _=>k b o (nN b n) q,fun b o q n _ _=>⟨o.slots,k b o (nN b n) q⟩,fun b o q n _=>by rw[ux b (nN b n)<|nh b o q];exact n,fun b o q _=>?_,
  fun b xs q=>by rw[ux b (nm b _ q fun z=>z)<|nD b _ q];exact q,fun b u xs q=>by rw[ux b (nm b _ q fun z=>z)<|nD b _ q];exact q,fun b ps q=>⟨#[],by rw[ux b (nm b _ q fun z=>z)<|nD b _ q,q];simp⟩⟩ ?_
 ·by_cases hb:b=x
  ·subst hb
   exact hx
  ·exact⟨o,k b o hb q⟩
 ·intro b u q
  by_cases hb:b=x
  ·subst hb
   rw[AJ]at q
   cases q
   exact nx
  ·by_cases hbd:b=d
   ·subst hbd
    rw[AQ hb,AJ]at q
    cases q
    exact nd
   ·rw[ux b hb hbd]at q
    refine(I.C0 b u q).Pl (fun c v hc r=>k c v ?_ r) (fun c r=>?_) fun c xs r=>?_
    ·rcases hc with rfl | hc
     ·exact hb
     ·exact nm c _ hc fun z=>z
    ·rw[ux c (nm c _ r fun z=>z)<|nD c _ r]
     exact r
    ·rw[ux c (nm c _ r fun z=>z)<|nD c _ r]
     exact r
section
variable{X:Cx}{C:AK}{p1 p2 p3:Pos}{e1:Expr}{es:List Expr}{ta:TA}
noncomputable def ACk(C:AK)(ta:TA):TE:=fun σ H Q=>ta σ H fun vs H1=> ∃ e v,vs= [.ref e,v]/\H1 e=some (Mz C e)/\Q .non (upd H1 e<|Mz C e)
def wR(hc:E7 X.K C=true)(hg:Gl X "Exception")(hm:X.mg "Exception"=none)(ha:PA X (e1::es) ta)
  (ht:eval (.Call (.Attribute (.Name "Exception" p1) "__init__" p2) (e1::es) [] p3) X.env=(do
   let ov <-eval (.Name "Exception" p1) X.env
   Jv p2.atName
   let(f,first) <-HY [ov] (KG ov "__init__" pl)
   MU p3 f first (Cn p3<|Au (e1::es) X.env) (Ii p3<|IW [] X.env)):=by rfl)
  (he:Au (e1::es) X.env=(false,eval e1 X.env)::Au es X.env:=by rfl) (hpl:(Cn p3<|Au es X.env).any (·.1)=false:=by rfl):
  PE X (.Call (.Attribute (.Name "Exception" p1) "__init__" p2) (e1::es) [] p3) (ACk C ta):=by
 intro pins s σ H Q I h
 obtain⟨m,fr⟩:=I.fr
 refine XF (pl:=pl) (Qb I hg hm (u:= .type "Exception") (by decide+kernel) ?_ (by decide)<|by decide) ht
 refine PySem.W.method_type (v:= .builtin "Exception.__init__") fr I.ok.mod.xg (by kernel_rfl) (by decide+kernel) (by kernel_rfl) rfl ?_
 refine nr (QO (ha p3 pins _ σ H _ (I.tok _) h) fun us s1 q=>?_) he hpl
 obtain⟨vs,H1,I1,r1,e,v,rfl,hx,q⟩:=q
 obtain _ |⟨ra,_ |⟨_,_ | _⟩⟩:=r1
 obtain rfl:_=CY e:=ra
 obtain⟨u,hu⟩:=(I1.C0 e _ hx).1
 obtain⟨hh,g,d,t,os⟩:=s1
 refine eY I1.QQ hc hu fun h' k1 k2=>⟨.non,upd H1 e<|Mz C e,?_,rfl,q⟩
 exact I1.write (by rw[hx];trivial) (.inl rfl) k1 ⟨_,k2⟩<|vq k2
noncomputable def ABE(C:AK)(ta tv:TE):TS:=fun D σ H=>tv σ H fun y H1=>ta σ H1 fun x H2=> ∃ e n,x= .ref e/\y= .int n/\H2 e=some (Mz C e)/\
 ∀ d,H2 d=none->d≠e->D.nx σ (upd (upd H2 d<|.xd<|gn n) e (.ext fun h=> ∃ u,h.get? e=some {Eu C u with dict:=some d}))
def vE{ta tv:TE}(hc:E7 X.K C=true)(hsa:C9 X.K (.ref C) "__setattr__"=some (some<|.builtin "object.__setattr__"))(ha:PE X o ta)(hv:PE X value tv)
  (hs:Fp value (some<|.Attribute o "number" pos') pos.line X.env=CB false:=by rfl):PS X (.Assign [.Attribute o "number" pos'] value pos) (ABE C ta tv):=by
 intro pins s σ H D I h
 refine nR (HI (hv pins s σ H _ I h) fun u s1 y H1 I1 ry q=>HI (ha pins s1 σ H1 _ I1 q) fun ov s2 x H2 I2 rx q2=>?_) hs
 obtain⟨e,n,rfl,rfl,hx,q3⟩:=q2
 obtain rfl:ov=CY e:=rx
 obtain⟨tk,rfl⟩:=ry
 obtain⟨w0,hu⟩:=(I2.C0 e _ hx).1
 obtain⟨hh,g,d,t,os⟩:=s2
 refine ACu I2.QQ hc hsa hu rfl rfl rfl fun h' tk' k1 k2 k3=>⟨σ,_,?_,q3 _ (I2.C0.fresh<|BS _)<|WG<|Bz hu⟩
 refine z5 I2 (by rw[hx];trivial) (BS _) k1 ⟨_,k2⟩ ⟨⟨w0,k2⟩,⟨_,k2⟩,fun h1 h2 ⟨u',q'⟩ k=>⟨u',k _ q'⟩⟩ ⟨_,k3,fun f=>?_⟩
 unfold gn
 by_cases hf:f="number"
 ·subst hf
  rw[AI rfl]
  exact⟨tk,rfl⟩
 ·rw[AG hf]
  have z:(IZ f [(("number":Str),V.int n)])=none:=by
   rw[J1,Jt.mpr hf]
   rfl
  rw[z]
  trivial
end
def kc{K:AS}(hk:E7 K C=true)(hh:A.handled=none)
  (h:Aw M A x (fun v s1=> ∃ e oe t,v= .ref e/\K.In s1.heap/\s1.heap.get? e=some oe/\oe.cls= .ref C/\oe.data= .fields #[.ref t,.none,.none,.none,.bool false,.none]/\E (.ref e) s1) E s):
  Aw M A (raiseStmt env (some x) none) Q E s:=by
 unfold raiseStmt
 refine BP<|Et h (fun v s1 h1=>?_) fun _ _ z=>z
 obtain⟨e,oe,t,rfl,X,he,hc,hf,hE⟩:=h1
 obtain⟨nm,qn,N,bs,sn,sub,ab,col,dd,k0,k1,k2,k3,k5,mN,hC,-⟩:=Iu X hk
 have hcB:(CY C::Vi).contains (.type "BaseException")=true:=by rw[List.contains_cons,WR.hasBase,eJ]
 obtain⟨hp,g,d,tk,os⟩:=s1
 repeat(first |(with_reducible refine RP he hf rfl ?_) |(with_reducible refine Ih he ?_;rw[hc]) | with_reducible refine Ih hC ?_ |(with_reducible refine nj hC ?_;rw[hcB]) | wp_step)
 exact wpAny_raiseNew_none hh hE
def wj{σ:L2.St}(I:Inv X pins σ H s)(he:H e=some (.ext φ)):Inv X pins σ (fun b=>if b=e then none else H b) s:=by
 have ne: ∀ b u,H b=some u->(∀ ψ,u≠ .ext ψ)->b≠e:=fun b u q n z=>by subst z;rw[q]at he;cases he;exact n φ rfl
 have no: ∀ b,H b=none->(if b=e then none else H b)=none:=fun b q=>by
  by_cases z:b=e
  ·rw[AI z]
  ·rw[AG z]
   exact q
 refine⟨I.ok,I.os,I.bare,⟨I.base.keep,I.base.slot,fun b o q n hx=>no b<|I.base.free b o q n hx,I.base.there,fun b xs q=>?_,fun b o u q=>?_,fun b ps q=>?_⟩,I.loc,I.cell,no _ I.free,fun x c q=>no _<|I.Jq x c q,
  fun p hp=>⟨(I.pin p hp).1,no _ (I.pin p hp).2.1,(I.pin p hp).2.2⟩,fun b u q=>?_,I.len⟩
 ·have z:=I.base.VP b xs q
  rw[AG<|ne b _ z fun _ y=>by cases y]
  exact z
 ·have z:=I.base.Tf b o u q
  rw[AG<|ne b _ z fun _ y=>by cases y]
  exact z
 ·obtain⟨m,z⟩:=I.base.VH b ps q
  refine⟨m,?_⟩
  rw[AG<|ne b _ z fun _ y=>by cases y]
  exact z
 ·have hb:b≠e:=fun z=>by rw[AI z]at q;cases q
  rw[AG hb]at q
  refine(I.C0 b u q).Pl (fun c v _ r=>r) (fun c r=>?_) fun c xs r=>?_
  ·rw[AG<|ne c _ r fun _ y=>by cases y]
   exact r
  ·rw[AG<|ne c _ r fun _ y=>by cases y]
   exact r
inductive yc(C:AK)(vs:List V)(H:Hp)(Q:VK)(E_:XK):Prop
 | mk: ∀ e n,vs= [.ref e,.int n]->H e=some (Mz C e)->(∀ d,H d=none->d≠e->Q .non (upd (upd (upd H e (Mz C e)) d (.xd (gn n))) e (.ext fun h=> ∃ u,h.get? e=some {Eu C u with dict:=some d})))->yc C vs H Q E_
noncomputable def AEM(C:AK)(X:Cx)(E:XK):Prop:= ∀ pins (σ:L2.St) H s a d n vs sl,Inv X pins σ H s->s.heap.get? a=some ⟨.ref C,some d,.fields vs,sl⟩->
 vs[1]?=some .none->H a=none->X.P8.heap.objs.size<=a->H d=some (.xd<|gn n)->E (.int n 0) none H->X.xe (.ref a) s
structure FC(K:AS)(mg:Str->Option AN)(C fI:AK)(fd:FU):Prop where
 cls:E7 K C=true
 init:C9 K (.ref C) "__init__"=some (some (.ref fI))
 fn:cG K (.ref fI)=some (.type "function")
 kp:FW K (.ref C)=true
 sa:C9 K (.ref C) "__setattr__"=some (some (.builtin "object.__setattr__"))
 g:mg "Fault"=some (.ref C)
 b:Binds K fd ["self","number"] []
section
variable{X:Cx}{C fI:AK}{fd:FU}{k:Nat}{pins:List (AK×Obj)}{σ:L2.St}{H:Hp}{s:Ay}
def sf(T:FC X.K X.mg C fI fd)(F:ET X.prog X.w X.K X.mg X.base eT k fI fd ["self","number"] (yc C))(hr:D_ (k+1) X.A)(I:Inv X pins σ H s)(ru:RelV (.int n) u)
  (q: ∀ e d w0 s',Inv X pins σ (upd H d<|.xd<|gn n) s'->s'.heap.get? e=some {Eu C w0 with dict:=some d}->H e=none->H d=none->d≠e->X.P8.heap.objs.size<=e->Q (.ref e) s'):
  Aw (Ai X.prog X.w) X.A (call (.ref C) [u]) Q X.xe s:=by
 obtain⟨hh,g,d0,t,os⟩:=s
 refine Of<|kq I.QQ T.cls T.init T.fn (by show 1<=sizeLine;decide) ?_
 have I0:Inv X pins σ H ⟨hh.push<|QS [u],g,d0,t,os⟩:=I.kept (t':=t) fun b o e=>CP _ e
 have fe:=I.C0.fresh<|Vo _
 have hx:((hh.push<|QS [u]).push<|Eu C hh.objs.size).get? (hh.objs.size+1)=some (Eu C hh.objs.size):=by heap_get
 have I1:Inv X pins σ (upd H (hh.objs.size+1)<|Mz C<|hh.objs.size+1) ⟨(hh.push<|QS [u]).push<|Eu C hh.objs.size,g,d0,t,os⟩:=
  I0.laid (fun b o e=>CP _ e) (by show(hh.push<|QS [u]).objs.size<=_;rw[HD];exact BS _) (vq hx)
 refine La (F.run _ X.stack _ _ ⟨[.ref<|hh.objs.size+1,u],[]⟩ [.ref<|hh.objs.size+1,u] [.ref<|hh.objs.size+1,.int n]
  (fun v H2=>v= .non/\ ∃ d,H d=none/\d≠hh.objs.size+1/\H2=upd (upd (upd (upd H (hh.objs.size+1)<|Mz C<|hh.objs.size+1) (hh.objs.size+1)<|Mz C<|hh.objs.size+1) d<|.xd<|gn n) (hh.objs.size+1) (.ext fun h=> ∃ u,h.get? (hh.objs.size+1)=some {Eu C u with dict:=some d}))
  (fun _ _ _=>False) (hr.make C [u] []) (I1.y8.make C [u] []) (T.b _ [.ref<|hh.objs.size+1,u] I1.QQ rfl) (.cons rfl<|.cons ru .nil) ⟨_,n,rfl,AJ,fun d hd ne=>⟨rfl,d,?_,ne,rfl⟩⟩) fun r s' hq=>?_
 ·rw[AQ ne]at hd
  exact hd
 ·cases r with
  | error e=>exact DM hq
  | ok fl=>
   cases fl with
   | next=>exact DM hq
   | brk=>exact DM hq
   | cont=>exact DM hq
   | ret v=>
    obtain⟨y,H2,I2,ry,rfl,d,fd',ne,rfl⟩:=I1.after hq
    obtain⟨w0,hw⟩:=(I2.C0 _ _ AJ).1
    refine⟨ry,q _ d w0 s' ?_ hw fe fd' ne<|CC I.sz<|Vo _⟩
    have I3:=wj I2 AJ
    have e:(fun b=>if b=hh.objs.size+1 then none else upd (upd (upd (upd H (hh.objs.size+1)<|Mz C<|hh.objs.size+1) (hh.objs.size+1)<|Mz C<|hh.objs.size+1) d<|.xd<|gn n) (hh.objs.size+1)
      (.ext fun h=> ∃ u,h.get? (hh.objs.size+1)=some {Eu C u with dict:=some d}) b)=upd H d (.xd<|gn n):=by
     funext b
     by_cases hb:b=hh.objs.size+1
     ·rw[AI hb,hb,AQ<|Ea ne,fe]
     ·rw[AG hb,AQ hb]
      unfold upd
      split
      ·rfl
      ·rfl
    rw[e]at I3
    exact I3
noncomputable def ABy(E:XK)(t:TA):TS:=fun _ σ H=>t σ H fun vs H1=> ∃ n,vs= [.int n]/\ ∀ d,H1 d=none->E (.int n 0) none (upd H1 d<|.xd<|gn n)
def CJ{np cpos pos:Pos}(T:FC X.K X.mg C fI fd)(F:ET X.prog X.w X.K X.mg X.base eT k fI fd ["self","number"] (yc C))(hr:D_ (k+1) X.A)(hx:AEM C X E)(hg:Gl X "Fault")(ha:PA X (e1::es) t)
  (he:Au (e1::es) X.env=(false,eval e1 X.env)::Au es X.env:=by rfl) (hpl:(Cn cpos<|Au es X.env).any (·.1)=false:=by rfl):
  PS X (.Raise (some<|.Call (.Name "Fault" np) (e1::es) [] cpos) none pos) (ABy E t):=by
 intro pins s σ H D I h
 rw[arm_exec_Raise]
 refine BP<|R0<|kc T.cls hr.hd<|BP<|Jk<|Lw I hg T.g ?_<|by decide
 refine MB I.ok.mod.xg T.kp (j_ (ha cpos pins s σ H _ I h) fun us s1 vs H1 I1 r q=>⟨I1.QQ,?_⟩) he hpl
 obtain⟨n,rfl,q⟩:=q
 obtain⟨u,rfl,ru⟩:=vals1 r
 exact sf T F hr I1 ru fun e d w0 s' I2 he2 fe fd' ne sz=>BP<|R0<|Cp<|⟨e,_,w0,rfl,I2.QQ,he2,rfl,rfl,hx pins σ _ s' e d n _ _ I2 he2 rfl (by rw[AQ<|Ea ne];exact fe) sz AJ<|q d fd'⟩
end
def outF{K:AS}{E:XK}:
  AEM C (M6 (Xr P w C) P w K mg base N qual scope f cd A outer s0 H0 E) E:=fun pins σ H s a d n vs sl I he h1 ha nw hd q=>AA9 I he h1 ha nw hd q
end GF
end
section
namespace GF
section
open PySem PySem.W
section
variable{prog:BH}{w:Ao}{A:Dh}{E:AN->Ay->Prop}{K:AS}{C N e dx:AK}{h:Az}{g:Array O7}{d:Drawn}{t:Nat}{os:C_}{oe:Obj}{vs:Array AN}{m mN:Str->Option AN}{v:AN}
variable{nm qn:Str}{bs:List AN}{sn:List Str}{sub:List AN}{ab:Bool}{col:Option Bool}{dd:Option AK}{k0 k1 k2 k3 k5:Option AN}
def sE(hC:h.get? C=some (PY nm qn C N bs Vi true sn sub ab col dd k0 k1 k2 k3 k5 "Exception.__new__"))(hN:h.Ns N mN)(n2:mN "number"=none)
  (he:h.get? e=some oe) (hc:oe.cls= .ref C) (hd:oe.dict=some dx) (hf:oe.data= .fields vs) (hx:h.Ns dx m) (hv:m "number"=some v) (hh:O2 v=true) (hq:Q (.done<|.ret v) ⟨h,g,d,t,os⟩):
  Aw (Ai prog w) A (Builtin.«object.__getattribute__» ⟨[.ref e,.str "number" tk],[]⟩) Q E ⟨h,g,d,t,os⟩:=by
 have SF:=cO
 have hB:V1 (.type "Exception") "number"=CB none:=by rw[my,mI];kernel_rfl
 repeat(any_goals (first | assumption |(with_reducible refine Ih he ?_;rw[hc]) |(with_reducible refine WV hC hN SF.mro hB ?_;rw[n2]) | wp_step))
 rw[hf]
 dsimp only
 unfold instanceDict
 refine BP<|Ih he ?_
 rw[hc]
 dsimp only
 refine BP ?_
 unfold classData
 refine BP<|wpAny_load hC<|Cp ?_
 rw[AG (by intro z;cases z),hd]
 refine Cp ?_
 refine wpAny_nsGet hx ?_
 rw[hv]
 wp_walk
 exact hq
def u6(FB:ExcAttrBase B Vi)(hC:h.get? C=some (PY nm qn C N bs Vi true sn sub ab col dd k0 k1 k2 k3 k5 "Exception.__new__"))(hN:h.Ns N mN)(n2:mN "number"=none)
  (he:h.get? e=some oe) (hc:oe.cls= .ref C) (hd:oe.dict=some dx) (hf:oe.data= .fields vs) (hx:h.Ns dx m) (hv:m "number"=some v) (hh:O2 v=true) (hq:R (.ok<|.ret v) ⟨h,g,d,t,os⟩):
  GN (Ai prog w) A (.call (.builtin "BaseException.__getattribute__") ⟨[.ref e,.str "number" tk],[]⟩) R ⟨h,g,d,t,os⟩:=
 eA FB.ga.plain PySem.F.entry_bexc_ga (wpAny_check_ga_own FB hC .base he hc<|sE hC hN n2 he hc hd hf hx hv hh hq)
def ABt(FB:ExcAttrBase B Vi)(hC:h.get? C=some (PY nm qn C N bs Vi true sn sub ab col dd k0 k1 k2 k3 k5 "Exception.__new__"))(hN:h.Ns N mN)(n2:mN "number"=none)
  (n3:mN "__getattribute__"=none) (n4:mN "__getattr__"=none) (he:h.get? e=some oe) (hc:oe.cls= .ref C) (hd:oe.dict=some dx) (hf:oe.data= .fields vs) (hx:h.Ns dx m) (hv:m "number"=some v) (hh:O2 v=true) (hq:Q v ⟨h,g,d,t,os⟩):
  Aw (Ai prog w) A (getAttrBy (.ref e) (.str "number" tk) fill expr) Q E ⟨h,g,d,t,os⟩:=by
 have f3:=FB.ga.bind<|.ref e
 have x0:(expr&&onTheHeap (S3 "BaseException.__getattribute__"))=false:=by cases expr<;>rfl
 have x2:(S3 "BaseException.__getattribute__"==S3 "object.__getattribute__")=false:=by decide+kernel
 have x1:(onTheHeap (CY C)&&S3 "BaseException.__getattribute__"==S3 "object.__getattribute__")=false:=by rw[x2];rfl
 repeat(any_goals (first | assumption |(with_reducible refine Ih he ?_;rw[hc]) |(with_reducible refine WV hC hN FB.mro FB.ga.lookup ?_;rw[n3]) |(with_reducible refine WV hC hN FB.mro FB.noGetattr ?_;rw[n4]) | wp_step))
 refine u6 FB hC hN n2 he hc hd hf hx hv hh ?_
 repeat(any_goals (first | assumption | wp_step))
 show Aw _ _ (handedOut v) _ _ _
 rw[handedOut_of hh]
 exact Cp hq
def yG(X:K.In h)(hk:E7 K C=true)(he:h.get? e=some oe)(hc:oe.cls= .ref C)(hd:oe.dict=some dx)(hf:oe.data= .fields vs)(hx:h.Ns dx m)(hv:m "number"=some v)(hh:O2 v=true)
  (hq:Q v ⟨h,g,d,t+1,os⟩):Aw (Ai prog w) A (TX (.ref e) "number" expr) Q E ⟨h,g,d,t,os⟩:=by
 obtain⟨nm,qn,N,bs,sn,sub,ab,col,dd,k0,k1,k2,k3,k5,mN,hC,hN,n1,n2,n3,n4⟩:=Iu X hk
 unfold TX
 repeat(any_goals (first | assumption | with_reducible apply ABt PySem.F.attrBase_Exception hC hN n2 n3 n4 he hc hd hf hx hv hh | wp_step))
end
end
end GF
end
section
namespace GF
open PySem PySem.Spec PyProof.Rows L2
noncomputable def XHO(C a d:AK):HO:= .ext fun h=> ∃ vs sl,h.get? a=some ⟨.ref C,some d,.fields vs,sl⟩
noncomputable def AER(C:AK)(ta:TE):TE:=fun σ H Q=>ta σ H fun x H1=> ∃ a d n,x= .ref a/\H1 a=some (XHO C a d)/\H1 d=some (.xd<|gn n)/\Q (.int n) H1
theorem yQ(hk:E7 X.K C=true)(he:PE X e ta)(hb:KQ e "number" X.env (eval e X.env)=eval e X.env:=by rfl):PE X (.Attribute e "number" pos) (AER C ta):=by
 intro pins s σ H Q I h
 refine pA hb<|HI (he pins s σ H _ I h) fun u s1 x H1 I1 rx q_=>?_
 obtain⟨a,d,n,ex,ea,ed,q⟩:=q_
 subst ex
 obtain rfl:u=CY a:=rx
 obtain⟨vs,sl,hu⟩:=(I1.C0 a _ ea).1
 obtain⟨mA,⟨o,es,ep,n1,n2,n3,_,n5⟩,hr⟩:=I1.C0 d _ ed
 have z:=hr "number"
 have e0:(gn n).lookup ("number":Str)=some (.int n):=rfl
 rw[e0]at z
 cases em:mA "number"with
 | none=>rw[em]at z;exact z.elim
 | some v=>
  rw[em]at z
  obtain⟨tk,rfl⟩:=z
  obtain⟨hh,g,dr,t,os⟩:=s1
  exact yG I1.QQ hk hu rfl rfl rfl ⟨o,es,ep,n1,n2,n3,n5⟩ em rfl ⟨.int n,H1,I1.tok _,⟨tk,rfl⟩,q⟩
noncomputable def inH(X:Cx)(a:AK):Cx:={X with A:=X.A.mark<|some<|.ref a,calm:=false,xe:=fun _ _=>False}
def Inv.inH{σ:L2.St}(I:L2.Inv X pins σ H s)(a:AK):L2.Inv (inH X a) pins σ H s:=
 ⟨⟨I.ok.mod,I.ok.kind,I.ok.glob,I.ok.blt,I.ok.above,I.ok.inj,I.ok.has,I.ok.cab,(fun z=>by cases z),I.ok.frames,I.ok.C1,I.ok.exf,I.ok.bs,I.ok.t8,I.ok.kf,I.ok.ja,I.ok.funs,I.ok.zJ,I.ok.nd⟩,I.os,I.bare,I.base,I.loc,I.cell,I.free,I.Jq,I.pin,I.C0,I.len⟩
def Inv.AFQ{σ:L2.St}(hd:X.calm=true->X.A.handled=none)(I:L2.Inv (GF.inH X a) pins σ H s):L2.Inv X pins σ H s:=
 ⟨⟨I.ok.mod,I.ok.kind,I.ok.glob,I.ok.blt,I.ok.above,I.ok.inj,I.ok.has,I.ok.cab,hd,I.ok.frames,I.ok.C1,I.ok.exf,I.ok.bs,I.ok.t8,I.ok.kf,I.ok.ja,I.ok.funs,I.ok.zJ,I.ok.nd⟩,I.os,I.bare,I.base,I.loc,I.cell,I.free,I.Jq,I.pin,I.C0,I.len⟩
structure Plain(X:Cx):Prop where
 ex:X.ex= []
 C1:X.stack=X.env::X.outer
 fr:X.env.frame=some X.env.locals
 cells:X.env.cells= []
 pn:X.pn= []
section
variable{X:Cx}{pins:List (AK×Obj)}{σ:L2.St}{H:Hp}{s:Ay}
def Oi(p:Plain X)(e:X.env.cells.lookup x=some c):False:=by
 rw[p.cells]at e
 cases e
def jS{fl:AN}(p:Plain X)(I:L2.Inv X pins σ H s)(hB: ∀ b o,s.heap.get? b=some o->b∉CL X.stack->((∃ o',X.P8.heap.get? b=some o')\/(H b).isSome=true)->B.get? b=some o)
  (hp: ∀ q∈pins,B.get? q.1=some q.2) (F:Nd B X.stack a (.ref C) (some d) .none h') (U:s.heap.UpToSlots h') (hd:H d=some (.xd<|gn n)):L2.Inv X pins σ H {s with heap:=h'}:=by
 have F':Nd B (X.env::X.outer) a (.ref C) (some d) .none h':=by rw[<-p.C1];exact F
 have c:=b8 I p.ex p.C1 p.fr hB F'.out U hd
 obtain⟨m,hn,hl⟩:=I.loc
 refine⟨I.ok,c.os,c.bare,?_,⟨m,U.ns hn,fun i x v h1 h2 h3=>?_⟩,fun x c e=>(Oi p e).elim,I.free,fun x c e=>(Oi p e).elim,fun q hq=>?_,c.C0,I.len⟩
 ·rw[p.ex]
  exact c.un
 ·obtain⟨u,r,l⟩:=hl i x v h1 h2 h3
  refine⟨u,r,?_⟩
  rcases l with l |⟨k,c,e,z⟩
  ·exact .inl l
  ·exact(Oi p e).elim
 ·have z:=I.pin q hq
  rw[p.pn]at hq
  exact⟨F.Pl _ _<|hp q hq,z.2⟩
def r6(p:Plain X)(I:L2.Inv X pins σ H s)(ha:H a=none)(h0:X.P8.heap.get? a=none)(nl:a≠X.env.locals)(np: ∀ q∈pins,q.1≠a)(ok:EK X.prog X.w (upd H a<|.ext φ) s.heap a (.ext φ)):L2.Inv X pins σ (upd H a<|.ext φ) s:=by
 refine⟨I.ok,I.os,I.bare,⟨I.base.keep,I.base.slot,fun b o q n hx=>?_,I.base.there,fun b xs q=>?_,fun b o u q=>?_,fun b ps q=>?_⟩,I.loc,I.cell,?_,fun x c e=>(Oi p e).elim,fun q hq=>?_,fun b u q=>?_,I.len⟩
 ·rw[AQ fun z=>by rw[z,h0]at q;cases q]
  exact I.base.free b o q n hx
 ·have z:=I.base.VP b xs q
  rw[AQ<|Ac z ha]
  exact z
 ·have z:=I.base.Tf b o u q
  rw[AQ<|Ac z ha]
  exact z
 ·obtain⟨m,z⟩:=I.base.VH b ps q
  exact⟨m,by rw[AQ<|Ac z ha];exact z⟩
 ·rw[AQ nl.symm]
  exact I.free
 ·have z:=I.pin q hq
  rw[p.pn]at hq
  exact⟨z.1,by rw[AQ<|np q hq];exact z.2.1,z.2.2⟩
 ·by_cases hb:b=a
  ·subst hb
   rw[AJ]at q
   cases q
   exact ok
  ·rw[AQ hb]at q
   exact(I.C0 b u q).Pl (fun c v _ r=>r) (fun c r=>by rw[AQ<|Ac r ha];exact r) fun c xs r=>by rw[AQ<|Ac r ha];exact r
def lL(p:Plain X)(I:L2.Inv X pins σ H s)(hn:h'.Ns X.env.locals m')(sb:SD X.env.locals s.heap h'):L2.Inv X pins (Ek X.N.length none) H {s with heap:=h',toks:=t'}:=by
 have neL: ∀ b o,X.P8.heap.get? b=some o->b≠X.env.locals:=fun b o e=>DN<|DO (Bz e) I.ok.above
 refine⟨I.ok,I.os,I.bare,⟨fun b o q n hb hx=>(sb.2 b<|neL b o q).trans<|I.base.keep b o q n hb hx,fun b o q n hb hx=>?_,I.base.free,fun b o q hx=>?_,I.base.VP,I.base.Tf,I.base.VH⟩,⟨m',hn,fun i x v h1 h2 h3=>?_⟩,fun x c e=>(Oi p e).elim,I.free,fun x c e=>(Oi p e).elim,
  fun q hq=>?_,fun b u q=>?_,by rw[IY]⟩
 ·obtain⟨sl,z⟩:=I.base.slot b o q n hb hx
  exact⟨sl,(sb.2 b<|neL b o q).trans z⟩
 ·obtain⟨o',z⟩:=I.base.there b o q hx
  exact⟨o',(sb.2 b<|neL b o q).trans z⟩
 ·rw[dw]at h2
  split at h2<;>cases h2
 ·have z:=I.pin q hq
  exact⟨(sb.2 _ z.2.2.1).trans z.1,z.2⟩
 ·refine(I.C0 b u q).Pl (fun c v hc r=>(sb.2 c ?_).trans r) (fun _ r=>r) fun _ _ r=>r
  rintro rfl
  rcases hc with rfl | hc
  ·rw[I.free]at q
   cases q
  ·rw[I.free]at hc
   cases hc
noncomputable def AFq(C:AK)(sp:Sp)(t:TA)(ts:TS)(i:Nat):TS:=fun D σ H=>t σ H fun vs H1=>sp vs H1 (fun _ H2=>D.nx σ H2) fun c _ H'=> ∃ k,c= .int k 0/\
 ∀ a d,H' a=none->H' d=some (.xd<|gn k)->ts {nx:=fun _ _=>False,rt:=D.rt} (σ.set i<|some<|.ref a) (upd H' a<|XHO C a d)
theorem kL{p1 cpos epos np hpos pos:Pos}(p:Plain X)
  (F:ET X.prog X.w X.K X.mg X.base (Xr X.prog X.w C) kk f fd ps sp) (hr:D_ kk X.A) (hg:Gl X x) (hm:X.mg x=some (.ref f)) (hkf:FW X.K (.ref f)=true) (hb:Binds X.K fd ps []) (ha:PA X.nox (e1::es) t)
  (hk:E7 X.K C=true) (hgF:Gl X "Fault") (hmF:X.mg "Fault"=some (.ref C)) (hN:X.N.Nodup) (hi:X.N[i]?=some n) (hl:X.env.scope.names.lookup n=some .local) (hs: ∀ a,eC (inH X a) (b0::suite) ts)
  (hdb:(x==("__debug__":Str))=false:=by decide) (he:Au (e1::es) X.env=(false,eval e1 X.env)::Au es X.env:=by rfl) (hpl:(Cn cpos<|Au es X.env).any (·.1)=false:=by rfl)
  (hsw:Fp (.Call (.Name x p1) (e1::es) [] cpos) none epos.line X.env=CB false:=by rfl):
  PS X (.Try [.Expr (.Call (.Name x p1) (e1::es) [] cpos) epos] [.ExceptHandler (some<|.Name "Fault" np) (some n) (b0::suite) hpos] [] [] pos) (AFq C sp t ts i):=by
 intro pins s σ H D I h
 refine wpAny_Try_except<|du<|qY ?_ I.quiet hsw
 refine Jk<|Lw I hg hm ?_ hdb
 refine MB I.ok.mod.xg hkf (Et (ha cpos pins s σ H _ (I.Xj _) h) (fun us s1 ⟨vs,H1,I1',r,q⟩=>?_) fun _ _ z=>z.elim) he hpl
 have I1:=I1'.Md
 have hlen:us.length=ps.length:=by rw[<-r.length];exact F.len _ _ _ _ q
 refine⟨I1.QQ,Of<|La (F.run X.A X.stack s1 H1 ⟨us,[]⟩ us vs _ _ hr I1.y8 ?_ r q) fun rr s' hq=>?_⟩
 ·have z:=hb s1 us I1.QQ (by rw[OX];exact hlen)
  rw[OX]at z
  exact z
 cases rr with
 | ok fl=>
  cases fl with
  | next=>exact DM hq
  | brk=>exact DM hq
  | cont=>exact DM hq
  | ret u=>
   obtain⟨v,H2,I2,_,q2⟩:=I1.after hq
   exact Oo<|Oo ⟨σ,H2,I2,q2⟩
 | error ev=>
  obtain⟨a,d,n',H',B,rfl,c,k,ek,q2⟩:=hq
  have ek:n'=k:=by cases ek;rfl
  subst ek
  have I':=I1.xM c.os c.un c.C0 c.bare fun b z=>nomatch z
  have st:=p.C1
  have fr0:X.A.frames=some (X.env::X.outer):=by rw[<-st];exact I'.ok.frames
  have cov: ∀ b o,s'.heap.get? b=some o->b∉CL X.stack->((∃ o',X.P8.heap.get? b=some o')\/(H' b).isSome=true)->B.get? b=some o:=fun b o q nf hb=>c.cov b o q nf<|hb.imp (fun z=>I1.base.there b _ z.choose_spec fun y=>by rw[p.ex]at y;cases y) id
  have pinB: ∀ q∈pins,B.get? q.1=some q.2:=fun q hq=>by
   have z:=I1.pin q<|by rw[p.pn];exact hq
   refine c.cov _ _ (I'.pin q<|by rw[p.pn];exact hq).1 (fun y=>?_)<|.inl ⟨_,z.1⟩
   rw[st]at y
   unfold CL at y
   rw[TF,p.fr]at y
   rcases Ce.mp y with y | y
   ·exact z.2.2.1 y
   ·exact z.2.2.2.1 y
  have zd:Nd B (X.env::X.outer) a (.ref C) (some d) .none s'.heap:=by rw[<-st];exact c.zd
  have aH:H' a=none:=by
   cases y:H' a with
   | none=>rfl
   | some u=>
    obtain⟨o,qo⟩:=jA<|I'.C0 a u y
    have nf:a∉CL X.stack:=fun z=>by rw[I'.We a z]at y;cases y
    have z:=c.cov a o qo nf<|.inr<|by rw[y];rfl
    rw[c.zd.new]at z
    cases z
  have a0:X.P8.heap.get? a=none:=by
   cases y:X.P8.heap.get? a with
   | none=>rfl
   | some o=>
    obtain⟨vs',sl,T,oT,ts',he,_⟩:=c.zd.tr
    have nf:a∉CL X.stack:=fun z=>by
     obtain⟨_,o2,q2,nf⟩:=I'.stack.mem z
     rw[he]at q2
     cases q2
     exact nf vs' rfl
    have z:=cov a _ he nf<|.inl ⟨o,y⟩
    rw[c.zd.new]at z
    cases z
  have aL:a≠X.env.locals:=fun z=>by
   obtain⟨vs',sl,T,oT,ts',he,_⟩:=c.zd.tr
   obtain⟨m,⟨o,es',ep,ho,hd,_⟩,_⟩:=I'.loc
   rw[<-z,he]at ho
   cases ho
   cases hd
  have aP: ∀ q∈pins,q.1≠a:=fun q hq z=>by
   have y:=pinB q hq
   rw[z,c.zd.new]at y
   cases y
  refine XJ fr0 p.fr zd fun h4 F4 U4=>nE F4 fun h5 F5 U5=>?_
  have I5:L2.Inv X pins σ H' {s' with heap:=h5}:=jS (fl:= .none) p I' cov pinB (by rw[st];exact F5) (U4.trans U5) c.xd
  have J5:=Inv.inH I5 a
  refine wpAny_handleBy_cons (codeAny_handlers_test<|Lw J5 hgF hmF ?_<|by decide)<|by intro q;cases q
  obtain⟨nm,qn,N',bs,sn,sub,ab,col,dd,k0,k1,k2,k3,k5,mN,hC,-⟩:=Iu J5.QQ hk
  obtain⟨vs5,sl5,T5,oT5,ts5,he5,_⟩:=id F5.tr
  obtain⟨hh,g,dr,tk,os⟩:=s'
  refine wpAny_excMatches_sub_self hC he5 rfl WR.hasBase<|codeAny_handlers_suite_as<|nE F5 fun h6 F6 U6=>?_
  have I6:L2.Inv X pins σ H' ⟨h6,g,dr,tk,os⟩:=jS (fl:= .none) p I' cov pinB (by rw[st];exact F6) ((U4.trans U5).trans U6) c.xd
  obtain⟨vs6,sl6,T6,oT6,ts6,he6,_⟩:=F6.tr
  have I7:=r6 (φ:=fun h=> ∃ vs sl,h.get? a=some ⟨.ref C,some d,.fields vs,sl⟩) p I6 aH a0 aL aP ⟨⟨vs6,sl6,he6⟩,⟨_,he6⟩,fun h1 h2 ⟨v',s',q'⟩ k=>⟨v',s',k _ q'⟩⟩
  refine RS I7 hN hi (.inl hl) (v:= .ref a) rfl (fun s8 I8=>?_)<|.inr hl
  refine Et (hs a pins s8 _ _ _ (Inv.inH I8 a)<|q2 a d aH c.xd) (fun f s9 h9=>?_) fun _ _ z=>z.elim
  cases f with
  | next=>obtain⟨_,_,_,z⟩:=h9;exact z.elim
  | brk=>obtain⟨_,_,_,z⟩:=h9;exact z.elim
  | cont=>obtain⟨_,_,_,z⟩:=h9;exact z.elim
  | ret u=>
   obtain⟨v,σ',H9,I9,rv,z⟩:=h9
   have I10:=Inv.AFQ I.ok.hd I9
   obtain⟨m9,hn9,_⟩:=I10.loc
   exact wpAny_nameGoes hl hn9 (by rw[I10.ok.kind];rfl) fun h' m' hn' sb=>⟨v,_,H9,lL p I10 hn' sb,rv,z⟩
end
section
structure B3 where
 ad:Nat->AK
 fd:Nat->FU
 cl:Nat->AK
 tg:Nat->AK
structure Df(K:AS)(mg:Str->Option AN)(x:Str)(st:Bi)(ps:List Str)(f:AK)(fd:FU):Prop where
 F:Fun K x x st f fd
 b:Binds K fd ps []
 g:mg x=some (.ref f)
structure Dm(K:AS)(C:AK)(m qual:Str)(st:Bi)(ps:List Str)(f:AK)(fd:FU):Prop where
 F:Fun K m qual st f fd
 b:Binds K fd ps []
 m:Meth K C m f
 c:ao K C
noncomputable def AEY:Bi->Str
 | .FunctionDef x _ _ _ _ _ _ _ _ _=>x
 | _=>Od
noncomputable def ABF(st:Bi):List Str:=(HG st).args.map (·.arg)
noncomputable abbrev Bo(K:AS)(mg:Str->Option AN)(A:B3)(n k:Nat):Prop:=Df K mg (AEY<|top k) (top k) (ABF<|top k) (A.ad n) (A.fd n)
noncomputable abbrev gA(K:AS)(A:B3)(c n i j:Nat)(q:String):Prop:=Dm K (A.cl c) (AEY<|inClass (top i) j) q (inClass (top i) j) (ABF<|inClass (top i) j) (A.ad n) (A.fd n)
noncomputable abbrev zP(K:AS)(A:B3)(n i j:Nat)(q:String):Prop:=Fun K "__init__" q (inClass (top i) j) (A.ad n) (A.fd n)/\Binds K (A.fd n) (ABF<|inClass (top i) j) []
def U2{K:AS}{l:List Str}(c:ao K C)(h:(l.all fun x=>C9 K (.ref C) x==some none)=true)(e:l.contains x=true):FA K C x:=⟨c,Fn.mp<|GB.mp h x<|by simpa using e⟩
variable(K:AS)(mg:Str->Option AN)(A:B3)
noncomputable def wD:List Str:= ["kind","ground","font","functions","code","whose","place","after","byte","done","frames","stack","projection","freedom","old_projection","references","pointers","loop","rounding","rounding_byte"]
noncomputable def g_:List Str:= ["code","whose","back","start","left"]
noncomputable def gi:List Str:= ["old","now","marks"]
noncomputable def pL:List Str:= ["zone_number","number","step"]
noncomputable def nI:List Str:= ["least","cut_in","width","width_cut_in","delta_base","delta_shift","flip"]
noncomputable def Zx:List Str:= ["units","dots","cells","controls","twilight","outline","ends","kept","still","plain"]
noncomputable def jE:List Str:= ["numbers","place"]
noncomputable def Yz:List Str:= ["units","point_count","cell_count","told_controls","font","functions","size","shape"]
structure TxC:Prop where
 iU:ao K (A.cl 1)
 uv:Mk K (A.cl 1) (A.ad 17)
 w_:mg "Run"=some (.ref (A.cl 1))
 ADT:(wD.all fun x=>C9 K (.ref (A.cl 1)) x==some none)=true
 RT:ao K (A.cl 2)
 AAO:Mk K (A.cl 2) (A.ad 28)
 zT:mg "Frame"=some (.ref (A.cl 2))
 AAC:(g_.all fun x=>C9 K (.ref (A.cl 2)) x==some none)=true
 Ra:ao K (A.cl 3)
 fB:Mk K (A.cl 3) (A.ad 45)
 cS:mg "Point"=some (.ref (A.cl 3))
 AAF:(gi.all fun x=>C9 K (.ref (A.cl 3)) x==some none)=true
 Yn:ao K (A.cl 4)
 AB9:Mk K (A.cl 4) (A.ad 89)
 ACY:mg "Lead"=some (.ref (A.cl 4))
 ABi:(pL.all fun x=>C9 K (.ref (A.cl 4)) x==some none)=true
 Xg:ao K (A.cl 5)
 u7:Mk K (A.cl 5) (A.ad 171)
 uf:mg "Kept"=some (.ref (A.cl 5))
 ACQ:(nI.all fun x=>C9 K (.ref (A.cl 5)) x==some none)=true
 NY:ao K (A.cl 6)
 gD:Mk K (A.cl 6) (A.ad 173)
 gP:mg "Ground"=some (.ref (A.cl 6))
 uL:(Zx.all fun x=>C9 K (.ref (A.cl 6)) x==some none)=true
 R1:ao K (A.cl 7)
 x9:Mk K (A.cl 7) (A.ad 176)
 yI:mg "Calls"=some (.ref (A.cl 7))
 zh:(jE.all fun x=>C9 K (.ref (A.cl 7)) x==some none)=true
 Kq:ao K (A.cl 8)
 rh:Mk K (A.cl 8) (A.ad 180)
 tJ:mg "Machine"=some (.ref (A.cl 8))
 tN:(Yz.all fun x=>C9 K (.ref (A.cl 8)) x==some none)=true
 fault:FC K mg (A.cl 0) (A.ad 0) (A.fd 0)
structure TxK:Prop where
 Up: ∃ t,mg "ONE"=some (.int 16384 t)
 AC0: ∃ t,mg "HALF"=some (.int 0 t)
 vk: ∃ t,mg "GRID"=some (.int 1 t)
 uU: ∃ t,mg "DOUBLE"=some (.int 2 t)
 ACT: ∃ t,mg "DOWN"=some (.int 3 t)
 AFY: ∃ t,mg "UP"=some (.int 4 t)
 AAb: ∃ t,mg "OFF"=some (.int 5 t)
 Z6: ∃ t,mg "BY_BYTE"=some (.int 6 t)
 LC: ∃ t,mg "BY_BYTE_ACROSS"=some (.int 7 t)
 jr: ∃ t,mg "FONT"=some (.int 0 t)
 wX: ∃ t,mg "SIZE"=some (.int 1 t)
 zK: ∃ t,mg "SHAPE"=some (.int 2 t)
 ZF: ∃ t,mg "STACK_LIMIT"=some (.int 128 t)
 Ri:mg "X_AXIS"=some (.ref (A.tg 0))
 Hj: ∀ H,Dd K H (A.tg 0) [.int 16384,.int 0]
 xQ:mg "Y_AXIS"=some (.ref (A.tg 1))
 NO: ∀ H,Dd K H (A.tg 1) [.int 0,.int 16384]
 AB7: ∃ t,mg "ELSE"=some (.int 27 t)
 ACG: ∃ t,mg "FDEF"=some (.int 44 t)
 ABT: ∃ t,mg "ENDF"=some (.int 45 t)
 AFk: ∃ t,mg "IF"=some (.int 88 t)
 AAq: ∃ t,mg "EIF"=some (.int 89 t)
 Vg: ∃ t,mg "NESTING_LIMIT"=some (.int 8 t)
 Kn: ∃ t,mg "FUNCTION_COUNT"=some (.int 256 t)
 jN:mg "ACTS_flow"=some (.ref (A.tg 2))
 QP: ∃ t,mg "ON_CURVE"=some (.int 1 t)
 OJ: ∃ t,mg "TOUCHED_X"=some (.int 2 t)
 NW: ∃ t,mg "TOUCHED_Y"=some (.int 4 t)
 Za:mg "ACTS_points"=some (.ref (A.tg 3))
 XM:mg "DELTA_STARTS"=some (.ref (A.tg 4))
 VW:mg "ACTS_shifting"=some (.ref (A.tg 5))
 dG:mg "ACTS_stack"=some (.ref (A.tg 6))
 cg: ∃ t,mg "LOOP_LIMIT"=some (.int 65535 t)
 ZT: ∃ t,mg "SHIFT_LIMIT"=some (.int 6 t)
 ACF:mg "WAYS"=some (.ref (A.tg 7))
 dI:mg "ACTS_state"=some (.ref (A.tg 8))
 Pz: ∃ t,mg "INSTRUCTION_LIMIT"=some (.int 5000 t)
 Lb: ∃ t,mg "CODE_LIMIT"=some (.int 2048 t)
 JW: ∃ t,mg "DONE"=some (.int 0 t)
 C6: ∃ t,mg "OUT_OF_BOUNDS"=some (.int (-1) t)
 Fu: ∃ t,mg "NOT_THE_TIME"=some (.int (-2) t)
 IH: ∃ t,mg "PROGRAM_FAULT"=some (.int (-5) t)
 oy: ∃ t,mg "CELLS"=some (.int 0 t)
 YZ: ∃ t,mg "CONTROLS"=some (.int 1 t)
 yA: ∃ t,mg "OLD_X"=some (.int 2 t)
 AAH: ∃ t,mg "OLD_Y"=some (.int 3 t)
 xo:mg "CALLS"=some (.ref (A.tg 9))
 VF:mg "abs"=none
 CD:mg "len"=none
 AD6:mg "max"=none
 AEV:mg "min"=none
 Y2:mg "list"=none
 Jw:mg "range"=none
 Hm:mg "enumerate"=none
 iC:mg "Exception"=none
class Txt (K:outParam AS) (mg:outParam (Str->Option AN)) (A:outParam B3):Prop where
 c:TxC K mg A
 k:TxK K mg A
 ke:zP K A 0 1 0 "Fault.__init__"
 cut:Bo K mg A 1 4
 Oe:Bo K mg A 2 5
 Gh:Bo K mg A 3 6
 near:Bo K mg A 4 7
 scaled:Bo K mg A 5 8
 bM:Bo K mg A 6 9
 Ti:Bo K mg A 7 10
 unit:Bo K mg A 8 11
 along:Bo K mg A 9 12
 way:Bo K mg A 10 13
 L5:Bo K mg A 11 14
 ag:Bo K mg A 12 24
 RM:Bo K mg A 13 25
 Rl:Bo K mg A 14 26
 Su:Bo K mg A 15 27
 rounded:Bo K mg A 16 28
 Ry:zP K A 17 36 0 "Run.__init__"
 AZ:gA K A 1 18 36 1 "Run.take"
 HL:gA K A 1 19 36 2 "Run.take_many"
 EL:gA K A 1 20 36 3 "Run.take_loop"
 BW:gA K A 1 21 36 4 "Run.give"
 Cj:gA K A 1 22 36 5 "Run.round_number"
 XI:gA K A 1 23 36 6 "Run.zone"
 GP:gA K A 1 24 36 7 "Run.point_of_zone"
 BV:gA K A 1 25 36 8 "Run.point"
 Cv:gA K A 1 26 36 9 "Run.reference"
 within:Bo K mg A 27 37
 Xx:zP K A 28 46 0 "Frame.__init__"
 YY:Bo K mg A 29 47
 behind:Bo K mg A 30 48
 Kb:Bo K mg A 31 49
 Mt:Bo K mg A 32 50
 SX:Bo K mg A 33 51
 LQ:Bo K mg A 34 52
 XU:Bo K mg A 35 53
 uu:Bo K mg A 36 54
 ADr:Bo K mg A 37 55
 ck:Bo K mg A 38 56
 define:Bo K mg A 39 57
 Rr:Bo K mg A 40 58
 enter:Bo K mg A 41 59
 aY:Bo K mg A 42 60
 Xd:Bo K mg A 43 61
 iq:Bo K mg A 44 63
 LW:zP K A 45 68 0 "Point.__init__"
 Yc:gA K A 3 46 68 1 "Point.twin"
 O_:gA K A 3 47 68 2 "Point.put"
 Nt:gA K A 3 48 68 3 "Point.shift"
 Mb:gA K A 3 49 68 4 "Point.mark"
 MP:gA K A 3 50 68 5 "Point.unmark"
 Nu:Bo K mg A 51 69
 AAo:Bo K mg A 52 70
 less:Bo K mg A 53 71
 X2:Bo K mg A 54 73
 vp:Bo K mg A 55 74
 D9:Bo K mg A 56 75
 Fi:Bo K mg A 57 76
 f9:Bo K mg A 58 77
 Qv:Bo K mg A 59 78
 EH:Bo K mg A 60 79
 move:Bo K mg A 61 80
 IG:Bo K mg A 62 82
 Nz:Bo K mg A 63 83
 KU:Bo K mg A 64 84
 JI:Bo K mg A 65 85
 Hv:Bo K mg A 66 86
 qG:Bo K mg A 67 87
 anchor:Bo K mg A 68 88
 JR:Bo K mg A 69 89
 Qq:Bo K mg A 70 90
 ID:Bo K mg A 71 91
 IK:Bo K mg A 72 92
 iL:Bo K mg A 73 93
 je:Bo K mg A 74 94
 Ls:Bo K mg A 75 95
 G8:Bo K mg A 76 96
 Uv:Bo K mg A 77 97
 Kg:Bo K mg A 78 98
 IA:Bo K mg A 79 99
 Gr:Bo K mg A 80 100
 Hd:Bo K mg A 81 101
 aa:Bo K mg A 82 102
 xU:Bo K mg A 83 103
 crossing:Bo K mg A 84 104
 K5:Bo K mg A 85 105
 ay:Bo K mg A 86 107
 P9:Bo K mg A 87 110
 Mq:Bo K mg A 88 111
 aW:zP K A 89 112 0 "Lead.__init__"
 V4:Bo K mg A 90 113
 MR:Bo K mg A 91 114
 Ki:Bo K mg A 92 115
 Kf:Bo K mg A 93 116
 Qz:Bo K mg A 94 117
 Mp:Bo K mg A 95 118
 a_:Bo K mg A 96 119
 U7:Bo K mg A 97 120
 Uk:Bo K mg A 98 121
 R5:Bo K mg A 99 122
 Q_:Bo K mg A 100 123
 RG:Bo K mg A 101 124
 NZ:Bo K mg A 102 125
 MH:Bo K mg A 103 126
 Ip:Bo K mg A 104 127
 GK:Bo K mg A 105 128
 bD:Bo K mg A 106 130
 LY:Bo K mg A 107 132
 MD:Bo K mg A 108 133
 aw:Bo K mg A 109 134
 drop:Bo K mg A 110 135
 empty:Bo K mg A 111 136
 swap:Bo K mg A 112 137
 X8:Bo K mg A 113 138
 Iz:Bo K mg A 114 139
 M0:Bo K mg A 115 140
 Mx:Bo K mg A 116 141
 roll:Bo K mg A 117 142
 YJ:Bo K mg A 118 143
 aK:Bo K mg A 119 144
 Kj:Bo K mg A 120 145
 Rz:Bo K mg A 121 146
 Gw:Bo K mg A 122 147
 holds:Bo K mg A 123 148
 compare:Bo K mg A 124 149
 QR:Bo K mg A 125 150
 iR:Bo K mg A 126 151
 Xk:Bo K mg A 127 152
 jX:Bo K mg A 128 153
 qZ:Bo K mg A 129 154
 af:Bo K mg A 130 155
 divide:Bo K mg A 131 156
 multiply:Bo K mg A 132 157
 Z7:Bo K mg A 133 158
 negate:Bo K mg A 134 159
 pF:Bo K mg A 135 160
 AAm:Bo K mg A 136 161
 Sg:Bo K mg A 137 162
 Ur:Bo K mg A 138 163
 F8:Bo K mg A 139 164
 K0:Bo K mg A 140 165
 Th:Bo K mg A 141 166
 aE:Bo K mg A 142 167
 Z3:Bo K mg A 143 169
 HU:Bo K mg A 144 174
 Ja:Bo K mg A 145 175
 Ic:Bo K mg A 146 176
 Hg:Bo K mg A 147 177
 H_:Bo K mg A 148 178
 JK:Bo K mg A 149 179
 NV:Bo K mg A 150 180
 KP:Bo K mg A 151 181
 HJ:Bo K mg A 152 182
 Jg:Bo K mg A 153 183
 LM:Bo K mg A 154 184
 iB:Bo K mg A 155 185
 EC:Bo K mg A 156 186
 Ej:Bo K mg A 157 187
 aV:Bo K mg A 158 188
 YH:Bo K mg A 159 189
 K2:Bo K mg A 160 190
 Zu:Bo K mg A 161 191
 YW:Bo K mg A 162 192
 OS:Bo K mg A 163 193
 Me:Bo K mg A 164 194
 Ny:Bo K mg A 165 195
 aZ:Bo K mg A 166 197
 vJ:Bo K mg A 167 200
 QN:Bo K mg A 168 201
 HQ:Bo K mg A 169 202
 Sy:Bo K mg A 170 203
 UA:zP K A 171 205 0 "Kept.__init__"
 aQ:gA K A 5 172 205 1 "Kept.twin"
 Nq:zP K A 173 206 0 "Ground.__init__"
 Y8:Bo K mg A 174 207
 Ky:Bo K mg A 175 208
 Ym:zP K A 176 219 0 "Calls.__init__"
 X9:gA K A 7 177 219 1 "Calls.more"
 A3:gA K A 7 178 219 2 "Calls.read_number"
 DU:gA K A 7 179 219 3 "Calls.read_row"
 SO:zP K A 180 220 0 "Machine.__init__"
 KN:Bo K mg A 181 221
 UE:Bo K mg A 182 222
 N4:Bo K mg A 183 223
 Tt:Bo K mg A 184 224
 T9:Bo K mg A 185 225
 Tq:Bo K mg A 186 226
 gX:Bo K mg A 187 227
 YV:Bo K mg A 188 228
 Qt:Bo K mg A 189 229
 N9:Bo K mg A 190 230
 Sk:Bo K mg A 191 231
 OM:Bo K mg A 192 232
 X3:Bo K mg A 193 233
 Q8:Bo K mg A 194 234
 UM:Bo K mg A 195 235
 MN:Bo K mg A 196 236
 Q0:Bo K mg A 197 237
 answers:Bo K mg A 198 239
section
variable{K mg A}
def AL [T:Txt K mg A]{x:Str}(e:wD.contains x=true:=by kernel_rfl):FA K (A.cl 1) x:=U2 T.c.iU T.c.ADT e
def El [T:Txt K mg A]{x:Str}(e:g_.contains x=true:=by kernel_rfl):FA K (A.cl 2) x:=U2 T.c.RT T.c.AAC e
def Aa [T:Txt K mg A]{x:Str}(e:gi.contains x=true:=by kernel_rfl):FA K (A.cl 3) x:=U2 T.c.Ra T.c.AAF e
def FO [T:Txt K mg A]{x:Str}(e:pL.contains x=true:=by kernel_rfl):FA K (A.cl 4) x:=U2 T.c.Yn T.c.ABi e
def BG [T:Txt K mg A]{x:Str}(e:nI.contains x=true:=by kernel_rfl):FA K (A.cl 5) x:=U2 T.c.Xg T.c.ACQ e
def AW [T:Txt K mg A]{x:Str}(e:Zx.contains x=true:=by kernel_rfl):FA K (A.cl 6) x:=U2 T.c.NY T.c.uL e
def EV [T:Txt K mg A]{x:Str}(e:jE.contains x=true:=by kernel_rfl):FA K (A.cl 7) x:=U2 T.c.R1 T.c.zh e
def Ap [T:Txt K mg A]{x:Str}(e:Yz.contains x=true:=by kernel_rfl):FA K (A.cl 8) x:=U2 T.c.Kq T.c.tN e
end
end
def NM:IV "abs"=some (.builtin "abs"):=by decide+kernel
def ABB:IV "max"=some (.builtin "max"):=by decide+kernel
def ACr:IV "min"=some (.builtin "min"):=by decide+kernel
def So:IV "list"=some (.type "list"):=by decide+kernel
def B8(h:Nat.blt n 1000=true):n<1000:=Nat.le_of_ble_eq_true h
def Je.mono: ∀{o:Option (Option V)} {k k':V->Prop},Je o k->(∀ v,k v->k' v)->Je o k':=fun h f=>let⟨_,e,q⟩:=Je.ex h;Je.of e (f _ q)
def RI.mono: ∀{o:V} {k k':Int->Prop},RI o k->(∀ v,k v->k' v)->RI o k':=fun h f=>let⟨_,e,q⟩:=RI.ex h;RI.of e (f _ q)
def QK.mono: ∀{o:V} {k k':AK->Prop},QK o k->(∀ v,k v->k' v)->QK o k':=fun h f=>let⟨_,e,q⟩:=QK.ex h;QK.of e (f _ q)
section
variable{X:Cx}
def AAN(hg:Gl X x)(hm: ∃ t,X.mg x=some (.int i t))(hd:(x==("__debug__":Str))=false:=by decide):PE X (.Name x pos) (tC<|.int i):=
 let⟨t,e⟩:=hm
 DX hg e ⟨t,rfl⟩ hd
noncomputable def ADw(_ j:Int):Prop:=j≠0/\j.natAbs<2^200
def Bm:Ul X (GW .FloorDiv) (rI ADw fun i j=> .int<|i.fdiv j):=opI fun i j _ _ _ _ _ hc q=>floordiv_int hc.1 q (.inl<|PyProof.noPylong_of_log2 (by
 have h1:j.natAbs≠0:=fun z=>hc.1<|Int.natAbs_eq_zero.mp z
 have h2:=(Nat.log2_lt h1).mpr hc.2
 lia))
end
section
variable{X:Cx}{CX:xa}{k k':Nat}{f C:AK}{fd:FU}{ps:List Str}{sp:Sp}{E:XK}{x m qual:Str}{p pos pos' apos:Pos}{e e' e1 e2 e3 e4 o a b:Expr}{es:List Expr}{te ta tb tc td:TE}{t:TA}{st:Bi}
def AO(i:Nat)(he:PE X e te)(hi:X.N[i]?=some x:=by exact rfl)(k:X.env.scope.names.lookup x=some .local:=by exact rfl)(hs:Fp e (some<|.Name x pos') pos.line X.env=CB false:=by exact rfl):
  PS X (.Assign [.Name x pos'] e pos) (x8 te<|Rb i):=fun pins s σ H D I h=>jt I.ok.nd hi (.inl k) he hs (.inr k) pins s σ H D I h
def FV(i:Nat)(hi:X.N[i]?=some x:=by exact rfl)(k:X.env.scope.names.lookup x=some .local:=by exact rfl):PG X (.Name x pos) (Rb i):=fun pins s σ H v u Q I r h=>ya I.ok.nd hi (.inl k) (.inr k) pins s σ H v u Q I r h
def jH(i:Nat)(he:PE X e te)(ho:PIp X op ti)(hi:X.N[i]?=some x:=by exact rfl)(k:X.env.scope.names.lookup x=some .local:=by exact rfl):
  PS X (.AugAssign (.Name x pos') op e pos) (AEO i te ti):=fun pins s σ H D I h=>AB5 I.ok.nd hi (.inl k) he ho (.inr k) pins s σ H D I h
def Ah(F:ET X.prog X.w X.K X.mg X.base CX k f fd ps sp)(D:Df X.K X.mg x st ps f fd)(ha:PA X (e::es) t)(hr:D_ k' X.A:=by exact hr)(hx:Passes CX X E:=by first | exact Gn | exact jD)(hk:k<=k':=by decide)(hg:Gl X x:=by exact rfl)
  (hdb:(x==("__debug__":Str))=false:=by decide) (he:Au (e::es) X.env=(false,eval e X.env)::Au es X.env:=by exact rfl) (hpl:(Cn pos<|Au es X.env).any (·.1)=false:=by exact rfl):
  PE X (.Call (.Name x p) (e::es) [] pos) (AAy sp [] E t):=xu F (hr.mono hk) hg D.g D.F.kp D.b .nil hx ha hdb he hpl
def Be{pl:Sem Bool}(he:PE X o ta)(F:ET X.prog X.w X.K X.mg X.base CX k f fd ps sp)(D:Dm X.K C m qual st ps f fd)(ha:PA X (e::es) t)(hr:D_ k' X.A:=by exact hr)(hx:Passes CX X E:=by first | exact Gn | exact jD)(hk:k<=k':=by decide)
  (hst:Au (e::es) X.env=(false,eval e X.env)::Au es X.env:=by exact rfl) (hpl:(Cn pos<|Au es X.env).any (·.1)=false:=by exact rfl)
  (ht:eval (.Call (.Attribute o m apos) (e::es) [] pos) X.env=(do
   let ov <-eval o X.env
   Jv apos.atName
   let(f,first) <-HY [ov] (KG ov m pl)
   MU pos f first (Cn pos<|Au (e::es) X.env) (Ii pos<|IW [] X.env)):=by exact rfl):
  PE X (.Call (.Attribute o m apos) (e::es) [] pos) (oz C m sp [] E ta t):=y6 he D.c D.m F (hr.mono hk) D.b .nil hx ha hst hpl ht
def BI{pl:Sem Bool}(he:PE X o ta)(F:ET X.prog X.w X.K X.mg X.base CX k f fd ps sp)(D:Dm X.K C m qual st ps f fd)(hr:D_ k' X.A:=by exact hr)(hx:Passes CX X E:=by first | exact Gn | exact jD)(hk:k<=k':=by decide)
  (ht:eval (.Call (.Attribute o m apos) [] [] pos) X.env=(do
   let ov <-eval o X.env
   Jv apos.atName
   let(f,first) <-HY [ov] (KG ov m pl)
   MU pos f first (Cn pos<|Au [] X.env) (Ii pos<|IW [] X.env)):=by exact rfl):
  PE X (.Call (.Attribute o m apos) [] [] pos) (oz C m sp [] E ta UC):=xF he D.c D.m F (hr.mono hk) D.b .nil hx ht
def AR(he:PE X e ta)(hb:KQ e x X.env (eval e X.env)=eval e X.env:=by exact rfl):PE X (.Attribute e x pos) (vt X.K ta x):=cV he hb
def BC(ha:PE X o ta)(hv:PE X e tb)(hs:Fp e (some<|.Attribute o x pos') pos.line X.env=CB false:=by exact rfl):PS X (.Assign [.Attribute o x pos'] e pos) (ADl X.K ta tb x):=AB_ ha hv hs
def A0(ho:Ul X (HC op) r)(ha:PE X a ta)(hb:PE X b tb)(hm:IX op b=false:=by exact xP _):PT X (.Compare a [op] [b] pos) (XY<|g5 r ta tb):=zw ho ha hb hm
def Hu(ho:Ul X (HC op) r)(ha:PE X a ta)(hb:PE X b tb)(hm:IX op b=false:=by exact xP _):PE X (.Compare a [op] [b] pos) (g5 r ta tb):=zM ho ha hb hm
def A9(hr:t9 X r)(ha:PE X a ta)(hb:PE X b tb)(hs:qN b:=by exact fun _ _=>rfl):PE X (.Subscript a b pos) (g5 r ta tb):=AEP hr ha hb hs
def Bt(hm: ∃ t,X.mg x=some (.int i t))(hg:Gl X x:=by exact rfl)(hd:(x==("__debug__":Str))=false:=by decide):PE X (.Name x pos) (tC<|.int i):=AAN hg hm hd
def Dc(hm:X.mg "len"=none)(ha:PA X (e::es) t)(hg:Gl X "len":=by exact rfl)(he:Au (e::es) X.env=(false,eval e X.env)::Au es X.env:=by exact rfl)(hpl:(Cn pos<|Au es X.env).any (·.1)=false:=by exact rfl):
  PE X (.Call (.Name "len" p) (e::es) [] pos) (tCB (ABI X.K) t):=EZ cJ hg hm PySem.boot_len ha (he:=he) (hpl:=hpl)
def Af(h1:PE X e1 ta)(c1:Au [e1] X.env=(false,eval e1 X.env)::Au [] X.env:=by exact rfl):PA X [e1] (KH ta UC):=Cs h1 Es c1
def Ax(h1:PE X e1 ta)(h2:PE X e2 tb)(c1:Au [e1,e2] X.env=(false,eval e1 X.env)::Au [e2] X.env:=by exact rfl)(c2:Au [e2] X.env=(false,eval e2 X.env)::Au [] X.env:=by exact rfl):PA X [e1,e2] (KH ta<|KH tb UC):=Cs h1 (Cs h2 Es c2) c1
def CH(h1:PE X e1 ta)(h2:PE X e2 tb)(h3:PE X e3 tc)(c1:Au [e1,e2,e3] X.env=(false,eval e1 X.env)::Au [e2,e3] X.env:=by exact rfl)(c2:Au [e2,e3] X.env=(false,eval e2 X.env)::Au [e3] X.env:=by exact rfl)(c3:Au [e3] X.env=(false,eval e3 X.env)::Au [] X.env:=by exact rfl):PA X [e1,e2,e3] (KH ta<|KH tb<|KH tc UC):=Cs h1 (Cs h2 (Cs h3 Es c3) c2) c1
def Rp(h1:PE X e1 ta)(h2:PE X e2 tb)(h3:PE X e3 tc)(h4:PE X e4 td)(c1:Au [e1,e2,e3,e4] X.env=(false,eval e1 X.env)::Au [e2,e3,e4] X.env:=by exact rfl)(c2:Au [e2,e3,e4] X.env=(false,eval e2 X.env)::Au [e3,e4] X.env:=by exact rfl)(c3:Au [e3,e4] X.env=(false,eval e3 X.env)::Au [e4] X.env:=by exact rfl)(c4:Au [e4] X.env=(false,eval e4 X.env)::Au [] X.env:=by exact rfl):PA X [e1,e2,e3,e4] (KH ta<|KH tb<|KH tc<|KH td UC):=Cs h1 (Cs h2 (Cs h3 (Cs h4 Es c4) c3) c2) c1
def AH(hN:X.N[0]?=some x:=by exact rfl)(hv:vX X.env.scope x:=by first | exact Fb rfl | exact DC (Fb rfl) | exact DC<|DC rfl)(hd:(x==("__debug__":Str))=false:=by decide)(hcd:(x==("__classdict__":Str))=false:=by decide):PE X (.Name x pos) (Jd 0):=Qj hN hv hd hcd
def AV(hN:X.N[1]?=some x:=by exact rfl)(hv:vX X.env.scope x:=by first | exact Fb rfl | exact DC (Fb rfl) | exact DC<|DC rfl)(hd:(x==("__debug__":Str))=false:=by decide)(hcd:(x==("__classdict__":Str))=false:=by decide):PE X (.Name x pos) (Jd 1):=Qj hN hv hd hcd
def Aj(hN:X.N[2]?=some x:=by exact rfl)(hv:vX X.env.scope x:=by first | exact Fb rfl | exact DC (Fb rfl) | exact DC<|DC rfl)(hd:(x==("__debug__":Str))=false:=by decide)(hcd:(x==("__classdict__":Str))=false:=by decide):PE X (.Name x pos) (Jd 2):=Qj hN hv hd hcd
def A6(hN:X.N[3]?=some x:=by exact rfl)(hv:vX X.env.scope x:=by first | exact Fb rfl | exact DC (Fb rfl) | exact DC<|DC rfl)(hd:(x==("__debug__":Str))=false:=by decide)(hcd:(x==("__classdict__":Str))=false:=by decide):PE X (.Name x pos) (Jd 3):=Qj hN hv hd hcd
def CG(hN:X.N[4]?=some x:=by exact rfl)(hv:vX X.env.scope x:=by first | exact Fb rfl | exact DC (Fb rfl) | exact DC<|DC rfl)(hd:(x==("__debug__":Str))=false:=by decide)(hcd:(x==("__classdict__":Str))=false:=by decide):PE X (.Name x pos) (Jd 4):=Qj hN hv hd hcd
def ES(hN:X.N[5]?=some x:=by exact rfl)(hv:vX X.env.scope x:=by first | exact Fb rfl | exact DC (Fb rfl) | exact DC<|DC rfl)(hd:(x==("__debug__":Str))=false:=by decide)(hcd:(x==("__classdict__":Str))=false:=by decide):PE X (.Name x pos) (Jd 5):=Qj hN hv hd hcd
end
inductive w6(c:Int->Prop)(g:Int->Int)(vs:List V)(H:Hp)(Q:VK)(E_:XK):Prop
 | mk: ∀ a,vs= [.int a]->c a->Q (.int (g a)) H->w6 c g vs H Q E_
inductive w8(c:Int->Int->Prop)(g:Int->Int->Int)(vs:List V)(H:Hp)(Q:VK)(E_:XK):Prop
 | mk: ∀ a b,vs= [.int a,.int b]->c a b->Q (.int (g a b)) H->w8 c g vs H Q E_
inductive jk(c:Int->Int->Int->Prop)(g:Int->Int->Int->Int)(vs:List V)(H:Hp)(Q:VK)(E_:XK):Prop
 | mk: ∀ a b d,vs= [.int a,.int b,.int d]->c a b d->Q (.int (g a b d)) H->jk c g vs H Q E_
def Fun.okF{K:AS}{st:Bi}(F:Fun K x qual st f fd)(S:Rn N ps (BY st))
  (len: ∀ vs H Q E,sp vs H Q E->vs.length=ps.length)
  (hbody: ∀ cdv (A:Dh) (outer:List Env) (s:Ay) (H:Hp) (vs:List V) (Q:VK) (E:XK),D_ k (A.deeper<|GQ qual (BY st) s.heap.objs.size f cdv)->sp vs H Q E->
   ∃ t,eC (M6 (Xr P w C) P w K mg base N qual (BY st) f cdv A outer s H E) (EO st) t/\t {nx:=fun _ H'=>Q .non H',rt:=Q} (start N vs) H):ET P w K mg base (Xr P w C) (k+1) f fd ps sp:=by
 obtain⟨oc,od,kV,doc,pm,an,cdv,ct,osl,rfl,lk,hcd⟩:=F.ex
 exact AA1 lk hcd S len fun A outer s H vs Q E hr hsp=>hbody cdv A outer s H vs Q E hr hsp
noncomputable def yN(N ps:List Str)(sc:Fd):Bool:=(match sc.kind with | .function=>true | _=>false)&&(!sc.isCoroutine&&(!sc.isGenerator&&decide (N.Nodup/\N.take ps.length=ps/\(∀ x∈ps,sc.names.lookup x=some .local\/sc.names.lookup x=some .cell)/\ ∀ y∈sc.names,y.2≠ .free)))
def yN.ok(h:yN N ps sc=true):Rn N ps sc:=by
 unfold yN at h
 simp only[PQ,LV,MK]at h
 obtain⟨h1,h2,h3,h4,h5,h6,h7⟩:=h
 refine⟨?_,h2,h3,h4,h5,h6,h7⟩
 cases e:sc.kind<;>rw[e]at h1<;>first | rfl | exact absurd h1 D0
section
variable{P:BH}{w:Ao}{K:AS}{mg:Str->Option AN}{base:Az}{C:AK}{x qual:Str}{st:Bi}{f:AK}{fd:FU}{ps:List Str}{k:Nat}{sp:Sp}
theorem _root_.L2.Fun.DQ(F:Fun K x qual st f fd)(N:List Str)
  (hbody: ∀{cdv:AN} {A:Dh} {outer:List Env} {s:Ay} (H:Hp) (vs:List V) (Q:VK) (E:XK),D_ k (A.deeper<|GQ qual (BY st) s.heap.objs.size f cdv)->sp vs H Q E->
   ∃ t,eC (M6 eT P w K mg base N qual (BY st) f cdv A outer s H E).nox (EO st) t/\t {nx:=fun _ H'=>Q .non H',rt:=Q} (start N vs) H)
  (len: ∀ vs H Q E,sp vs H Q E->vs.length=ps.length:=by intro _ _ _ _ h;cases h;first |(subst_vars;rfl) |(rename_i h;obtain⟨_,h,_⟩:=h;subst h;rfl) |(rename_i h;obtain⟨_,_,h,_⟩:=h;subst h;rfl) |(rename_i h;obtain⟨_,_,_,h,_⟩:=h;subst h;rfl)) (S:yN N ps (BY st)=true:=by kernel_rfl):ET P w K mg base eT (k+1) f fd ps sp:=F.ok (yN.ok S) len @hbody
theorem _root_.L2.Fun.Vm(F:Fun K x qual st f fd)(N:List Str)
  (hbody: ∀{cdv:AN} {A:Dh} {outer:List Env} {s:Ay} (H:Hp) (vs:List V) (Q:VK) (E:XK),D_ k (A.deeper<|GQ qual (BY st) s.heap.objs.size f cdv)->sp vs H Q E->
   ∃ t,eC (M6 (Xr P w C) P w K mg base N qual (BY st) f cdv A outer s H E) (EO st) t/\t {nx:=fun _ H'=>Q .non H',rt:=Q} (start N vs) H)
  (len: ∀ vs H Q E,sp vs H Q E->vs.length=ps.length:=by intro _ _ _ _ h;cases h;first |(subst_vars;rfl) |(rename_i h;obtain⟨_,h,_⟩:=h;subst h;rfl) |(rename_i h;obtain⟨_,_,h,_⟩:=h;subst h;rfl) |(rename_i h;obtain⟨_,_,_,h,_⟩:=h;subst h;rfl)) (S:yN N ps (BY st)=true:=by kernel_rfl):ET P w K mg base (Xr P w C) (k+1) f fd ps sp:=Fun.okF F (yN.ok S) len @hbody
end
noncomputable abbrev OF(P:BH)(w:Ao){K:AS}{mg:Str->Option AN}(base:Az){A:B3} [T:Txt K mg A](k n:Nat)(ps:List Str)(sp:Sp):Prop:=ET P w K mg base (Xr P w<|A.cl 0) k (A.ad n) (A.fd n) ps sp
noncomputable abbrev O0(P:BH)(w:Ao){K:AS}{mg:Str->Option AN}(base:Az){A:B3} [T:Txt K mg A](k n:Nat)(ps:List Str)(sp:Sp):Prop:=ET P w K mg base eT k (A.ad n) (A.fd n) ps sp
end GF
end
section
namespace GF
open PySem PySem.Spec PyProof.Rows L2
variable{P:BH}{w:Ao}{K:AS}{mg:Str->Option AN}{base:Az}{A:B3}[T:Txt K mg A]
def Dv :O0 P w base 1 1 ["number"] (w6 (fun _=>True) Ht.cut):=by
 refine T.cut.F.DQ ["number"] fun H vs Q E hr h=>?_
 obtain⟨a,rfl,_,k⟩:=h
 exact⟨_,(AF<|AY<|AU B1 (AU Dz (AU BJ AH AE) AE) AE),(by show(0:Int)<4294967296;decide),k⟩
def Lf :O0 P w base 1 2 ["number"] (w6 (fun _=>True) Ht.half):=by
 refine T.Oe.F.DQ ["number"] fun H vs Q E hr h=>?_
 obtain⟨a,rfl,_,k⟩:=h
 exact⟨_,(AF<|AY<|AU B1 (AU Dz (AU BJ AH AE) AE) AE),(by show(0:Int)<65536;decide),k⟩
def FN :O0 P w base 1 3 ["number"] (w6 (fun _=>True) fun a=>a%4294967296):=by
 refine T.Gh.F.DQ ["number"] fun H vs Q E hr h=>?_
 obtain⟨a,rfl,_,k⟩:=h
 exact⟨_,(AF<|AY<|AU Dz AH AE),(by show(0:Int)<4294967296;decide),k⟩
def g7{x:Int}(h:x.natAbs<2^40):x*x<2^80:=by
 rw[<-bY]
 have h1:x.natAbs<=2^40-1:=by lia
 have h2:=Lq h1 h1
 have h3:=Bf.mpr h2
 have h4:(((2^40-1)*(2^40-1):Nat):Int)<2^80:=by decide
 lia
noncomputable def j4(b:Int):Prop:=b≠0/\b.natAbs<2^190
def GV :O0 P w base 1 4 ["top","bottom"] (w8 (fun _ b=>j4 b) Ht.near):=by
 refine T.near.F.DQ ["top","bottom"] fun H vs Q E hr h=>?_
 obtain⟨a,b,rfl,c,k⟩:=h
 refine⟨_,(AF<|AY<|AU Bm (AU BJ (AU Bb AE AH) AV)<|AU Bb AE AV),?_⟩
 obtain⟨c1,c2⟩:=c
 refine⟨.inl ⟨by decide,by decide⟩,.inl ⟨by decide,by decide⟩,⟨by lia,by lia⟩,?_⟩
 show Q (V.int<|BN (2*a+b)<|2*b) H
 rw[zr a b c1]
 exact k
def K6 :O0 P w base 2 5 ["value","dots","units"] (jk (fun _ d u=>(0<=d/\d<=1000)/\16<=u/\u<=16384) fun v d u=>Ht.cut<|Ht.near (64*v*d) u):=by
 refine T.scaled.F.DQ ["value","dots","units"] fun H vs Q E hr h=>?_
 obtain⟨v,d,u,rfl,c,k⟩:=h
 refine⟨_,(AF<|AY<|Ah Dv T.cut<|Af<|Ah GV T.near<|Ax (AU Bb (AU Bb AE AH) AV) Aj),?_⟩
 obtain⟨⟨c1,c2⟩,c3,c4⟩:=c
 exact⟨.inl ⟨by decide,by decide⟩,.inr ⟨by lia,by lia⟩,_,_,rfl,⟨by lia,by lia⟩,_,rfl,trivial,k⟩
def fH :O0 P w base 1 6 ["square"] (w6 (fun s=>0<=s/\s<2^32) fun s=>Gj s 16 0):=by
 refine T.bM.F.DQ ["square","found","step"] @fun _ _ _ s H vs Q E hr h=>?_
 obtain⟨s,rfl,c,k⟩:=h
 refine⟨_,(AB (AO 1 AE)<|AB (AO 2 AE)<|AB (JO Ig (A0 DE Aj AE)<|AB (Aq (A0 IM (AU Bb (AU BJ AV Aj)<|AU BJ AV Aj) AH) (AF<|jH 1 Aj fj) AX)<|AF<|AO 2<|AU Bm Aj AE)<|AF<|AY AV),?_⟩
 obtain⟨c1,c2⟩:=c
 refine⟨fun n σ H'=>H'=H/\ ∃ f:Int,0<=f/\f<2^17/\n<=16/\Gj s n f=Gj s 16 0/\σ= [some<|.int s,some<|.int f,some<|.int<|if n=0 then 0 else 2^(n-1)],⟨16,rfl,0,by decide,by decide,by decide,rfl,rfl⟩,?_⟩
 rintro n σ H' ⟨rfl,f,f0,f1,hn,hr',rfl⟩
 refine A7 (fun hc=>?_) fun hc=>?_
 ·have hn0:n≠0:=fun z=>by subst z;simp at hc
  obtain⟨m,rfl⟩: ∃ m,n=m+1:=⟨n-1,by lia⟩
  have hm:m<16:=by lia
  have p1:(0:Int)<2^m:=bP<|by decide
  have p2:(2:Int)^m<=2^15:=by
   have:=Nat.pow_le_pow_right (n:=2) (by decide)<|show m<=15 by lia
   exact_mod_cast this
  have e0:(if m+1=0 then 0 else(2:Int)^(m+1-1))=2^m:=by rw[AG<|by lia];rfl
  have e1:BN (2^m) 2=if m=0 then 0 else 2^(m-1):=by
   rw[GD _<|by decide]
   cases m with
   | zero=>rfl
   | succ m=>
    rw[AG<|by lia,rK,Nat.add_sub_cancel]
    lia
  rw[e0]
  refine⟨fun σ' H1=>H1=H'/\ ∃ f':Int,0<=f'/\f'<2^17/\Gj s m f'=Gj s 16 0/\σ'= [some<|.int s,some<|.int f',some<|.int<|if m=0 then 0 else 2^(m-1)],fun σ' H1 h=>?_,?_⟩
  ·obtain⟨rfl,f',a1,a2,a3,rfl⟩:=h
   exact⟨m,by lia,rfl,f',a1,a2,by lia,a3,rfl⟩
  ·refine⟨.inl ⟨by lia,by lia⟩,A7 (fun hd=>?_) fun hd=>?_⟩
   ·have hd:=An hd
    refine⟨_,rfl,_,_,rfl,rfl,⟨by decide,by decide⟩,?_⟩
    refine⟨rfl,f+2^m,by lia,?_,?_,?_⟩
    ·have:=AEs (a:=f+2^m) (b:=2^17) (by lia) (by decide) (by lia)
     exact this
    ·rw[<-hr']
     show _=if(f+2^m)*(f+2^m)<=s then Gj s m (f+2^m)else Gj s m f
     rw[AI hd]
    ·rw[<-e1]
     rfl
   ·have hd: ¬(f+2^m)*(f+2^m)<=s:=fun z=>hd (Av z)
    refine⟨⟨by decide,by decide⟩,rfl,f,f0,f1,?_,?_⟩
    ·rw[<-hr']
     show _=if(f+2^m)*(f+2^m)<=s then Gj s m (f+2^m)else Gj s m f
     rw[AG hd]
    ·rw[<-e1]
     rfl
 ·have hn0:n=0:=by
   by_cases z:n=0
   ·exact z
   ·exfalso
    apply hc
    rw[AG z]
    exact Av<|bP<|by decide
  subst hn0
  have k:=k
  rw[<-hr']at k
  exact k
def Ro :O0 P w base 2 7 ["part","squares"] (w8 (fun p ss=>0<ss/\p*p<=ss/\ss<2^190/\p.natAbs<2^40) fun p ss=>if p<0 then-(AD<|Ht.part p.natAbs ss.toNat)else AD (Ht.part p.natAbs ss.toNat)):=by
 refine T.Ti.F.DQ ["part","squares","twice","size"] fun H vs Q E hr h=>?_
 obtain⟨p,ss,rfl,c,k⟩:=h
 refine⟨_,(AB (AO 2<|Ah fH T.bM<|Af<|AU Bm (AU Bb (AU Bb (AU Bb AE<|Bt T.k.Up) AH)<|AU Bb (AU Bb AE<|Bt T.k.Up) AH) AV)<|AB (AO 3<|AU Bm (AU BJ Aj AE) AE)<|AF<|AY<|Bn (A0 Dn AH AE) (LL HA A6) A6),?_⟩
 obtain⟨c1,c2,c3,c4⟩:=c
 have n2:(ss.natAbs:Nat)<2^200:=by lia
 have sq:=AEo p
 have pp:=wQ p
 have b0:0<=BN (32768*p*(32768*p)) ss:=by
  rw[GD _<|Wz c1]
  exact Int.ediv_nonneg (by lia)<|Wz c1
 have b1:BN (32768*p*(32768*p)) ss<2^32:=by
  rw[GD _<|Wz c1]
  exact Int.ediv_lt_of_lt_mul c1<|by lia
 have rt:=Qm (BN (32768*p*(32768*p)) ss) 16 0 (by decide) (by simpa using b0)<|by simpa using b1
 have pr:=rV p ss _ c1 c2 rt.1 rt.2.1 rt.2.2
 refine⟨.inl ⟨by decide,by decide⟩,.inl ⟨by decide,by decide⟩,.inl ⟨by decide,by decide⟩,.inl ⟨by decide,by decide⟩,.inl ⟨by lia,by lia⟩,⟨by lia,n2⟩,_,rfl,⟨b0,b1⟩,⟨by decide,by decide⟩,A7 (fun hc=>?_) fun hc=>?_⟩
 ·have hc:=An hc
  have k:=k
  rw[AI hc,<-pr]at k
  exact k
 ·have hc: ¬ p<0:=fun z=>hc (Av z)
  have k:=k
  rw[AG hc,<-pr]at k
  exact k
inductive cN(vs:List V)(H:Hp)(Q:VK)(E_:XK):Prop
 | mk: ∀ x y,vs= [.int x,.int y]->(x.natAbs<2^40/\y.natAbs<2^40)->(∀ p,H p=none->Q (.ref p) (upd H p (.tup [.int (Ht.unit (x,y)).1,.int (Ht.unit (x,y)).2])))->cN vs H Q E_
def Sx :O0 P w base 3 8 ["x","y"] cN:=by
 refine T.unit.F.DQ ["x","y","squares"] fun H vs Q E hr h=>?_
 obtain⟨x,y,rfl,c,k⟩:=h
 refine⟨_,(AB (AO 2<|AU BJ (AU Bb AH AH)<|AU Bb AV AV)<|AB (Aq (A0 BD Aj AE) (AF<|AY<|Iy<|Ax (Bt T.k.Up) AE) AX)<|AF<|AY<|Iy<|Ax (Ah Ro T.Ti<|Ax AH Aj)<|Ah Ro T.Ti<|Ax AV Aj),?_⟩
 obtain⟨c1,c2⟩:=c
 have x0:=wQ x
 have y0:=wQ y
 have bx:=g7 c1
 have by_:=g7 c2
 have nz:Ht.unit (x,y)=if(x,y)=((0,0):Ht.Pos)then(16384,0)else((if x<0 then-(AD<|Ht.part x.natAbs (x*x+y*y).toNat)else AD (Ht.part x.natAbs (x*x+y*y).toNat)),(if y<0 then-(AD<|Ht.part y.natAbs (x*x+y*y).toNat)else AD (Ht.part y.natAbs (x*x+y*y).toNat))):=rfl
 refine⟨.inl ⟨by lia,by lia⟩,.inl ⟨by lia,by lia⟩,rfl,A7 (fun hc=>?_) fun hc=>?_⟩
 ·have hc:x*x+y*y=0:=by simpa using hc
  have hx:x=0:=mi<|by omega
  have hy:y=0:=mi<|by omega
  rw[nz,AI<|by rw[hx,hy]]at k
  exact⟨by show 2<=sizeLine;decide,fun p hp=>k p hp⟩
 ·have hc:x*x+y*y≠0:=by simpa using hc
  have ne: ¬(x,y)=((0,0):Ht.Pos):=fun z=>by
   obtain⟨rfl,rfl⟩:=Prod.mk.inj z
   exact hc rfl
  rw[nz,AG ne]at k
  exact⟨_,_,rfl,⟨by lia,by lia,by lia,c1⟩,_,_,rfl,⟨by lia,by lia,by lia,c2⟩,⟨by show 2<=sizeLine;decide,fun p hp=>k p hp⟩⟩
noncomputable def Small(a:Int):Prop:=a.natAbs<=32768
inductive mT(K:AS)(vs:List V)(H:Hp)(Q:VK)(E_:XK):Prop
 | mk: ∀ v a b x y,vs= [.ref v,.int x,.int y]->Dd K H v [.int a,.int b]->(Small a/\Small b)->Q (.int (Ht.along (a,b) (x,y))) H->mT K vs H Q E_
inductive AAf(K:AS)(vs:List V)(H:Hp)(Q:VK)(E_:XK):Prop
 | mk: ∀ v u a b c e d,vs= [.ref v,.ref u,.int d]->Dd K H v [.int a,.int b]->Dd K H u [.int c,.int e]->((Small a/\Small b)/\Small c/\Small e)->(∀ p,H p=none->Q (.ref p) (upd H p (.tup [.int (Ht.wayOf (c,e) (a,b) d).1,.int (Ht.wayOf (c,e) (a,b) d).2])))->AAf K vs H Q E_
inductive kj(K:AS)(vs:List V)(H:Hp)(Q:VK)(E_:XK):Prop
 | mk: ∀ v a b d,vs= [.ref v,.int d]->Dd K H v [.int a,.int b]->(Small a/\Small b)->(∀ p,H p=none->Q (.ref p) (upd H p (.tup [.int (Ht.times d (a,b)).1,.int (Ht.times d (a,b)).2])))->kj K vs H Q E_
def aj(ha:Small a)(hb:Small b):(a*b).natAbs<=1073741824:=by
 rw[Wu]
 exact Lq ha hb
def Small.r(h:Small a): -(2^64)<a/\a<2^64:=by unfold Small at h;lia
def K8 :O0 P w base 2 9 ["vector","x","y"] (mT K):=by
 refine T.along.F.DQ ["vector","x","y"] fun H vs Q E hr h=>?_
 obtain⟨v,a,b,x,y,rfl,hv,c,k⟩:=h
 exact⟨_,(AF<|AY<|Ah Dv T.cut<|Af<|Ah GV T.near<|Ax (AU BJ (AU Bb AV<|A9 By AH AE)<|AU Bb Aj<|A9 By AH AE)<|Bt T.k.Up),hv,rfl,.inr c.1.r,hv,rfl,.inr c.2.r,_,_,rfl,⟨by decide,by decide⟩,_,rfl,trivial,k⟩
def Ka :O0 P w base 2 11 ["vector","distance"] (kj K):=by
 refine T.L5.F.DQ ["vector","distance"] fun H vs Q E hr h=>?_
 obtain⟨v,a,b,d,rfl,hv,c,k⟩:=h
 exact⟨_,(AF<|AY<|Iy<|Ax (Ah Dv T.cut<|Af<|Ah GV T.near<|Ax (AU Bb AV<|A9 By AH AE)<|Bt T.k.Up)<|Ah Dv T.cut<|Af<|Ah GV T.near<|Ax (AU Bb AV<|A9 By AH AE)<|Bt T.k.Up),hv,rfl,.inr c.1.r,_,_,rfl,⟨by decide,by decide⟩,_,rfl,trivial,hv,rfl,.inr c.2.r,_,_,rfl,⟨by decide,by decide⟩,_,rfl,trivial,by show 2<=sizeLine;decide,fun p hp=>k p hp⟩
def ABV :O0 P w base 2 10 ["freedom","projection","distance"] (AAf K):=by
 refine T.way.F.DQ ["freedom","projection","distance","shared"] fun H vs Q E hr h=>?_
 obtain⟨v,u,a,b,c,e,d,rfl,hv,hu,⟨⟨ca,cb⟩,cc,ce⟩,k⟩:=h
 refine⟨_,(AB (AO 3<|AU BJ (AU Bb (A9 By AH AE)<|A9 By AV AE)<|AU Bb (A9 By AH AE)<|A9 By AV AE)<|AB (Aq (A0 Dn (EZ Hl rfl T.k.VF NM<|Af A6) AE) (AF<|AO 3 AE) AX)<|AF<|AY<|Iy<|Ax (Ah Dv T.cut<|Af<|Ah GV T.near<|Ax (AU Bb (AU Bb (Bt T.k.Up) Aj)<|A9 By AH AE) A6)<|Ah Dv T.cut<|Af<|Ah GV T.near<|Ax (AU Bb (AU Bb (Bt T.k.Up) Aj)<|A9 By AH AE) A6),?_⟩
 have kw: ∀ t:Int,t=(if(a*c+b*e).natAbs<2^24 then 2^28 else a*c+b*e)-> ∀ p,H p=none->Q (.ref p) (upd H p<|.tup [.int<|Ht.cut<|Ht.near (16384*d*a) t,.int<|Ht.cut<|Ht.near (16384*d*b) t]):=fun t ht p hp=>by
  subst ht
  exact k p hp
 have b1:=aj ca cc
 have b2:=aj cb ce
 refine⟨hv,rfl,hu,rfl,.inl ca.r,hv,rfl,hu,rfl,.inl cb.r,_,rfl,A7 (fun hc=>?_) fun hc=>?_⟩
 ·have hc:=An hc
  have hn:(a*c+b*e).natAbs<2^24:=by
   by_cases z:a*c+b*e<0
   ·rw[AI z]at hc;lia
   ·rw[AG z]at hc;lia
  have k2:=kw 268435456<|by rw[AI hn];rfl
  exact⟨.inl ⟨by decide,by decide⟩,hv,rfl,.inr ca.r,_,_,rfl,⟨by decide,by decide⟩,_,rfl,trivial,.inl ⟨by decide,by decide⟩,hv,rfl,.inr cb.r,_,_,rfl,⟨by decide,by decide⟩,_,rfl,trivial,⟨by show 2<=sizeLine;decide,fun p hp=>k2 p hp⟩⟩
 ·have hc: ¬(if a*c+b*e<0 then-(a*c+b*e)else a*c+b*e)<16777216:=fun z=>hc (Av z)
  have hn: ¬(a*c+b*e).natAbs<2^24:=fun z=>hc (by
   by_cases y:a*c+b*e<0
   ·rw[AI y];lia
   ·rw[AG y];lia)
  have k2:=kw (a*c+b*e)<|by rw[AG hn]
  exact⟨.inl ⟨by decide,by decide⟩,hv,rfl,.inr ca.r,_,_,rfl,⟨by lia,by lia⟩,_,rfl,trivial,.inl ⟨by decide,by decide⟩,hv,rfl,.inr cb.r,_,_,rfl,⟨by lia,by lia⟩,_,rfl,trivial,⟨by show 2<=sizeLine;decide,fun p hp=>k2 p hp⟩⟩
def ED:(decide (V.int a=V.int b)=true)↔a=b:=by
 rw[W8]
 exact⟨fun h=>V.int.inj h,fun h=>BL V.int h⟩
noncomputable def CU(how byte:Int):Int:=if BN byte 64%4=0 then BN (if how=6 then 16384 else 11585) 2 else if BN byte 64%4=2 then 2*(if how=6 then 16384 else 11585)else if how=6 then 16384 else 11585
noncomputable def OZ(p byte:Int):Int:=if byte%16=0 then BN (p-1) 256 else BN (BN (p*(byte%16-4)) 8) 256
noncomputable def c8(how byte size:Int):Int:=BN (CU how byte) 256*BN (size-BN (BN (CU how byte*(BN byte 16%4)) 4) 256+OZ (CU how byte) byte) (BN (CU how byte) 256)+BN (BN (CU how byte*(BN byte 16%4)) 4) 256
noncomputable def Pa(how byte size:Int):Int:=if c8 how byte size<0 then BN (BN (CU how byte*(BN byte 16%4)) 4) 256 else c8 how byte size
def sr(how byte:Int):CU how byte=8192\/CU how byte=5792\/CU how byte=32768\/CU how byte=23170\/CU how byte=16384\/CU how byte=11585:=by
 unfold CU
 by_cases h:how=6
 ·simp only[AI h]
  split
  ·exact .inl rfl
  ·split
   ·exact .inr<|.inr<|.inl rfl
   ·exact .inr<|.inr<|.inr<|.inr<|.inl rfl
 ·simp only[AG h]
  split
  ·exact .inr<|.inl rfl
  ·split
   ·exact .inr<|.inr<|.inr<|.inl rfl
   ·exact .inr<|.inr<|.inr<|.inr<|.inr rfl
def dE :O0 P w base 1 12 ["how","byte"] (w8 (fun _ _=>True) CU):=by
 refine T.ag.F.DQ ["how","byte","whole","choice"] fun H vs Q E hr h=>?_
 obtain⟨how,byte,rfl,_,k⟩:=h
 refine⟨_,(AB (AO 2<|Bn (A0 BD AH<|Bt T.k.Z6) AE AE)<|AB (AO 3<|AU Dz (AU Bm AV AE) AE)<|AB (Aq (A0 BD A6 AE) (AF<|AY<|AU Bm Aj AE) AX)<|AB (Aq (A0 BD A6 AE) (AF<|AY<|AU Bb AE Aj) AX)<|AF<|AY Aj),rfl,A7 (fun hc=>?_) fun hc=>?_⟩
 all_goals
  rw[ED]at hc
  refine⟨⟨by decide,by decide⟩,(by show(0:Int)<4;decide),rfl,A7 (fun hd=>?_) fun hd=>?_⟩
  ·rw[ED]at hd
   refine⟨⟨by decide,by decide⟩,?_⟩
   have e:CU how byte=_:=AI hd
   rw[e]at k
   first | rw[AI hc]at k | rw[AG hc]at k
   exact k
  ·rw[ED]at hd
   refine⟨rfl,A7 (fun hf=>?_) fun hf=>?_⟩
   ·rw[ED]at hf
    refine⟨.inl ⟨by decide,by decide⟩,?_⟩
    have e:CU how byte=_:=(AG hd).trans<|AI hf
    rw[e]at k
    first | rw[AI hc]at k | rw[AG hc]at k
    exact k
   ·rw[ED]at hf
    have e:CU how byte=_:=(AG hd).trans<|AG hf
    rw[e]at k
    first | rw[AI hc]at k | rw[AG hc]at k
    exact k
def VJ :O0 P w base 1 13 ["period","byte"] (w8 (fun p _=>0<=p/\p<=32768) OZ):=by
 refine T.RM.F.DQ ["period","byte","choice"] fun H vs Q E hr h=>?_
 obtain⟨p,byte,rfl,c,k⟩:=h
 refine⟨_,(AB (AO 2<|AU Dz AV AE)<|AB (Aq (A0 BD Aj AE) (AF<|AY<|AU Bm (AU B1 AH AE) AE) AX)<|AF<|AY<|AU Bm (AU Bm (AU Bb AH<|AU B1 Aj AE) AE) AE),(by show(0:Int)<16;decide),rfl,A7 (fun hc=>?_) fun hc=>?_⟩
 all_goals rw[ED]at hc
 ·refine⟨⟨by decide,by decide⟩,?_⟩
  have e:OZ p byte=_:=AI hc
  rw[e]at k
  exact k
 ·refine⟨.inl ⟨by lia,by lia⟩,⟨by decide,by decide⟩,⟨by decide,by decide⟩,?_⟩
  have e:OZ p byte=_:=AG hc
  rw[e]at k
  exact k
def Vl :O0 P w base 2 14 ["how","byte","size"] (jk (fun _ _ _=>True) Pa):=by
 refine T.Rl.F.DQ ["how","byte","size","period","step","phase","threshold","found"] fun H vs Q E hr h=>?_
 obtain⟨how,byte,size,rfl,_,k⟩:=h
 refine⟨_,(AB (AO 3<|Ah dE T.ag<|Ax AH AV)<|AB (AO 4<|AU Bm A6 AE)<|AB (AO 5<|AU Bm (AU Bm (AU Bb A6<|AU Dz (AU Bm AV AE) AE) AE) AE)<|AB (AO 6<|Ah VJ T.RM<|Ax A6 AV)<|AB (AO 7<|AU BJ (AU Bb CG<|AU Bm (AU BJ (AU B1 Aj ES)<|pv 6) CG) ES)<|AF<|AY<|Bn (A0 Dn (pv 7) AE) ES<|pv 7),?_⟩
 have pr:=sr how byte
 have p0:0<=CU how byte/\CU how byte<=32768:=by lia
 have st:BN (CU how byte) 256≠0/\(BN (CU how byte) 256).natAbs<2^20:=by
  rcases pr with e | e | e | e | e | e<;>rw[e]<;>exact⟨by decide,by decide⟩
 refine⟨_,_,rfl,trivial,⟨by decide,by decide⟩,⟨by decide,by decide⟩,(by show(0:Int)<4;decide),.inl ⟨by lia,by lia⟩,⟨by decide,by decide⟩,⟨by decide,by decide⟩,_,_,rfl,p0,⟨st.1,HV st.2<|by decide⟩,.inl ⟨by lia,by lia⟩,A7 (fun hc=>?_) fun hc=>?_⟩
 ·have hc:=An hc
  have e:Pa how byte size=_:=AI hc
  rw[e]at k
  exact k
 ·have hc: ¬ c8 how byte size<0:=fun z=>hc (Av z)
  have e:Pa how byte size=_:=AG hc
  rw[e]at k
  exact k
noncomputable def gh(how byte d:Int):Int:=
 if how=0 then 64*BN d 64+32
 else if how=1 then 64*BN (d+32) 64
 else if how=2 then 32*BN (d+16) 32
 else if how=3 then 64*BN d 64
 else if how=4 then 64*BN (d+63) 64
 else if how=5 then d else Pa how byte d
def VO :O0 P w base 3 15 ["how","byte","size"] (jk (fun _ _ _=>True) gh):=by
 refine T.Su.F.DQ ["how","byte","size"] fun H vs Q E hr h=>?_
 obtain⟨how,byte,d,rfl,_,k⟩:=h
 refine⟨_,(AB (Aq (A0 BD AH<|Bt T.k.AC0) (AF<|AY<|AU BJ (AU Bb AE<|AU Bm Aj AE) AE) AX)<|AB (Aq (A0 BD AH<|Bt T.k.vk) (AF<|AY<|AU Bb AE<|AU Bm (AU BJ Aj AE) AE) AX)<|AB (Aq (A0 BD AH<|Bt T.k.uU) (AF<|AY<|AU Bb AE<|AU Bm (AU BJ Aj AE) AE) AX)<|AB (Aq (A0 BD AH<|Bt T.k.ACT) (AF<|AY<|AU Bb AE<|AU Bm Aj AE) AX)<|AB (Aq (A0 BD AH<|Bt T.k.AFY) (AF<|AY<|AU Bb AE<|AU Bm (AU BJ Aj AE) AE) AX)<|AB (Aq (A0 BD AH<|Bt T.k.AAb) (AF<|AY Aj) AX)<|AF<|AY<|Ah Vl T.Rl<|CH AH AV Aj),?_⟩
 unfold gh at k
 refine⟨rfl,A7 (fun h0=>?_) fun h0=>?_⟩
 all_goals rw[ED]at h0
 ·rw[AI h0]at k
  exact⟨⟨by decide,by decide⟩,.inl ⟨by decide,by decide⟩,k⟩
 rw[AG h0]at k
 refine⟨rfl,A7 (fun h0=>?_) fun h0=>?_⟩
 all_goals rw[ED]at h0
 ·rw[AI h0]at k
  exact⟨⟨by decide,by decide⟩,.inl ⟨by decide,by decide⟩,k⟩
 rw[AG h0]at k
 refine⟨rfl,A7 (fun h0=>?_) fun h0=>?_⟩
 all_goals rw[ED]at h0
 ·rw[AI h0]at k
  exact⟨⟨by decide,by decide⟩,.inl ⟨by decide,by decide⟩,k⟩
 rw[AG h0]at k
 refine⟨rfl,A7 (fun h0=>?_) fun h0=>?_⟩
 all_goals rw[ED]at h0
 ·rw[AI h0]at k
  exact⟨⟨by decide,by decide⟩,.inl ⟨by decide,by decide⟩,k⟩
 rw[AG h0]at k
 refine⟨rfl,A7 (fun h0=>?_) fun h0=>?_⟩
 all_goals rw[ED]at h0
 ·rw[AI h0]at k
  exact⟨⟨by decide,by decide⟩,.inl ⟨by decide,by decide⟩,k⟩
 rw[AG h0]at k
 refine⟨rfl,A7 (fun h0=>?_) fun h0=>?_⟩
 all_goals rw[ED]at h0
 ·rw[AI h0]at k
  exact k
 rw[AG h0]at k
 exact⟨_,_,_,rfl,trivial,k⟩
noncomputable def UP(how byte d:Int):Int:=Ht.cut (if d<0 then-(gh how byte<|if d<0 then-d else d)else gh how byte (if d<0 then-d else d))
def Ys :O0 P w base 4 16 ["how","byte","number"] (jk (fun _ _ _=>True) UP):=by
 refine T.rounded.F.DQ ["how","byte","number","size"] fun H vs Q E hr h=>?_
 obtain⟨how,byte,d,rfl,_,k⟩:=h
 refine⟨_,(AB (AO 3<|Ah VO T.Su<|CH AH AV<|EZ Hl rfl T.k.VF NM<|Af Aj)<|AF<|AY<|Ah Dv T.cut<|Af<|Bn (A0 Dn Aj AE) (LL HA A6) A6),_,rfl,_,_,_,rfl,trivial,A7 (fun hc=>?_) fun hc=>?_⟩
 ·have hc:=An hc
  refine⟨_,rfl,trivial,?_⟩
  have e:UP how byte d=_:=BL Ht.cut<|AI hc
  rw[e]at k
  exact k
 ·have hc: ¬ d<0:=fun z=>hc (Av z)
  refine⟨_,rfl,trivial,?_⟩
  have e:UP how byte d=_:=BL Ht.cut<|AG hc
  rw[e]at k
  exact k
def BK :O0 P w base 1 0 ["self","number"] (yc<|A.cl 0):=by
 refine T.ke.1.DQ ["self","number"] fun H vs Q E hr h=>?_
 obtain⟨e,n,rfl,he,k⟩:=h
 exact⟨_,(AB (Ad<|wR T.c.fault.cls rfl T.k.iC<|Ax AH AV)<|AF<|vE T.c.fault.cls T.c.fault.sa AH AV),_,_,rfl,he,_,_,rfl,rfl,AJ,fun d hd ne=>k d (by rw[AQ ne]at hd;exact hd) ne⟩
noncomputable def Na(lo ln:AK)(k:Int):List (Str×V):= [("old",.ref lo),("now",.ref ln),("marks",.int k)]
structure kO(C:AK)(H:Hp)(p dx lo ln:AK)(o n:Int×Int)(k:Int):Prop where
 at_:H p=some (.ins C dx (Na lo ln k))
 old:H lo=some (.lst [.int o.1,.int o.2])
 now:H ln=some (.lst [.int n.1,.int n.2])
 ne:lo≠ln
def Bx(lo ln:AK)(k:Int):(Na lo ln k).lookup ("old":Str)=some (.ref lo):=rfl
def CF(lo ln:AK)(k:Int):(Na lo ln k).lookup ("now":Str)=some (.ref ln):=rfl
def LG(lo ln:AK)(k:Int):(Na lo ln k).lookup ("marks":Str)=some (.int k):=rfl
inductive ADQ(C:AK)(vs:List V)(H:Hp)(Q:VK)(E_:XK):Prop
 | mk: ∀ p dx x y k,vs= [.ref p,.int x,.int y,.int k]->H p=some (.ins C dx [])->(∀ lo ln,H lo=none->H ln=none->lo≠ln->Q .non (upd (upd (upd H lo (.lst [.int x,.int y])) ln (.lst [.int x,.int y])) p (.ins C dx (Na lo ln k))))->ADQ C vs H Q E_
def Kh :O0 P w base 1 45 ["self","x","y","marks"] (ADQ<|A.cl 3):=by
 refine T.LW.1.DQ ["self","x","y","marks"] fun H vs Q E hr h=>?_
 obtain⟨p,dx,x,y,k,rfl,hp,q⟩:=h
 refine⟨_,(AB (BC AH<|Ba<|Ax AV Aj)<|AB (BC AH<|Ba<|Ax AV Aj)<|AF<|BC AH A6),(by show 2<=sizeLine;decide),fun lo hlo=>?_⟩
 refine⟨(by rw[AQ<|Ac hp hlo];exact hp),Aa,(B8 rfl),(by show 2<=sizeLine;decide),fun ln hln=>?_⟩
 have n2:ln≠p:=fun z=>by subst z;rw[AJ]at hln;cases hln
 rw[AQ n2]at hln
 have n3:ln≠lo:=fun z=>by subst z;rw[AJ]at hln;cases hln
 rw[AQ n3]at hln
 refine⟨(by rw[AQ n2.symm];exact AJ),Aa,(B8 rfl),AJ,Aa,(B8 rfl),?_⟩
 have e:upd (upd (upd (upd (upd H lo<|.lst [.int x,.int y]) p<|.ins (A.cl 3) dx<|DJ "old" (.ref lo) []) ln<|.lst [.int x,.int y]) p<|.ins (A.cl 3) dx<|DJ "now" (.ref ln)<|DJ "old" (.ref lo) []) p (.ins (A.cl 3) dx<|DJ "marks" (.int k)<|DJ "now" (.ref ln)<|DJ "old" (.ref lo) [])=upd (upd (upd H lo<|.lst [.int x,.int y]) ln<|.lst [.int x,.int y]) p (.ins (A.cl 3) dx<|Na lo ln k):=by
  rw[Bl]
  funext b
  unfold upd
  by_cases hb:b=p
  ·rw[AI hb,AI hb]
   rfl
  ·simp only[AG hb]
 exact e▸(q lo ln hlo hln n3.symm)
noncomputable def AEG(C:AK)(H H':Hp)(p:AK)(o n:Int×Int)(k:Int):Prop:= ∃ dx lo ln,kO C H' p dx lo ln o n k/\H p=none/\H lo=none/\H ln=none/\Bc H H'
inductive vf(C:AK)(vs:List V)(H:Hp)(Q:VK)(E_:XK):Prop
 | mk: ∀ p dx lo ln o n k,vs= [.ref p]->kO C H p dx lo ln o n k->(∀ p' H',AEG C H H' p' o n k->Q (.ref p') H')->vf C vs H Q E_
def JV(s:Bc H H')(h:H l=none):Bc H (upd H' l o):=fun b u e=>by rw[AQ<|Ac e h];exact s b u e
def ZV :O0 P w base 3 46 ["self"] (vf<|A.cl 3):=by
 refine T.Yc.F.DQ ["self","other"] fun H vs Q E hr h=>?_
 obtain⟨p,dx,lo,ln,o,n,k,rfl,hp,q⟩:=h
 refine⟨_,(AB (AO 1<|GJ T.c.fB Kh (hr.mono<|by decide) rfl T.c.cS T.LW.2 .nil Gn<|CH (A9 Ab (AR AH) AE) (A9 Ab (AR AH) AE)<|AR AH)<|AB (BC AV<|LJ Fz rfl T.k.Y2 So<|Af<|AR AH)<|AF<|AY AV),hp.at_,Aa,Bx _ _ _,BF.of hp.old,rfl,hp.at_,Aa,Bx _ _ _,BF.of hp.old,rfl,hp.at_,Aa,LG _ _ _,?_⟩
 intro x dx' nx nd xd
 refine⟨x,dx',_,_,_,rfl,AJ,fun lo' ln' h1 h2 h3=>⟨rfl,?_⟩⟩
 have a1:lo'≠x:=fun z=>by subst z;rw[AJ]at h1;cases h1
 have a2:ln'≠x:=fun z=>by subst z;rw[AJ]at h2;cases h2
 rw[AQ a1]at h1
 rw[AQ a2]at h2
 have b1:lo'≠dx':=fun z=>by subst z;rw[AJ]at h1;cases h1
 have b2:ln'≠dx':=fun z=>by subst z;rw[AJ]at h2;cases h2
 rw[AQ b1]at h1
 rw[AQ b2]at h2
 have sm:Bc H (upd (upd (upd (upd (upd H dx'<|.own x) x<|.ins (A.cl 3) dx' []) lo'<|.lst [.int o.1,.int o.2]) ln'<|.lst [.int o.1,.int o.2]) x<|.ins (A.cl 3) dx'<|Na lo' ln' k):=JV (JV (JV (JV (JV (Bc.refl H) nd) nx) h1) h2) nx
 generalize hH:upd (upd (upd (upd (upd H dx'<|.own x) x<|.ins (A.cl 3) dx' []) lo'<|.lst [.int o.1,.int o.2]) ln'<|.lst [.int o.1,.int o.2]) x (.ins (A.cl 3) dx'<|Na lo' ln' k)=H1 at sm
 have c1:H1 x=some (.ins (A.cl 3) dx'<|Na lo' ln' k):=by rw[<-hH];exact AJ
 have c2:H1 lo'=some (.lst [.int o.1,.int o.2]):=by rw[<-hH,AQ a1,AQ h3];exact AJ
 refine⟨sm _ _ hp.at_,Aa,CF _ _ _,ln,_,rfl,.inl<|BF.of<|sm _ _ hp.now,fun l hl=>?_⟩
 have d1:=Ac c1 hl
 have d2:=Ac c2 hl
 have d3:=sm.free hl
 refine⟨(by rw[AQ d1];exact c1),Aa,(B8 rfl),q x _ ⟨dx',lo',l,⟨AJ,?_,?_,d2⟩,nx,h1,d3,JV (JV sm d3) nx⟩⟩
 ·rw[AQ a1,AQ d2]
  exact c2
 ·rw[AQ d1.symm]
  exact AJ
noncomputable def Pair(K:AS)(H:Hp)(a:AK)(x:Int×Int):Prop:=BF K H a [.int x.1,.int x.2]\/Dd K H a [.int x.1,.int x.2]
noncomputable def c2(x:Int×Int):Int×Int:=(Ht.cut x.1,Ht.cut x.2)
inductive vh(K:AS)(C:AK)(vs:List V)(H:Hp)(Q:VK)(E_:XK):Prop
 | mk: ∀ p dx lo ln a k x,vs= [.ref p,.ref a]->H p=some (.ins C dx (Na lo ln k))->Pair K H a x->(∀ lo' ln',H lo'=none->H ln'=none->lo'≠ln'->Q .non (upd (upd (upd H lo' (.lst [.int (c2 x).1,.int (c2 x).2])) ln' (.lst [.int (c2 x).1,.int (c2 x).2])) p (.ins C dx (Na lo' ln' k))))->vh K C vs H Q E_
def AAP(h:Pair K H a x)(q:Q (.int x.1) H):rIx K (.ref a) (.int 0) H Q:=by
 rcases h with h | h
 ·exact .inl ⟨h,rfl,q⟩
 ·exact .inr<|.inl ⟨h,rfl,q⟩
def xH(h:Pair K H a x)(q:Q (.int x.2) H):rIx K (.ref a) (.int 1) H Q:=by
 rcases h with h | h
 ·exact .inl ⟨h,rfl,q⟩
 ·exact .inr<|.inl ⟨h,rfl,q⟩
def MC :O0 P w base 2 47 ["self","place"] (vh K<|A.cl 3):=by
 refine T.O_.F.DQ ["self","place"] fun H vs Q E hr h=>?_
 obtain⟨p,dx,lo,ln,a,k,x,rfl,hp,ha,q⟩:=h
 refine⟨_,(AB (BC AH<|Ba<|Ax (Ah Dv T.cut<|Af<|A9 wq AV AE)<|Ah Dv T.cut<|Af<|A9 wq AV AE)<|AF<|BC AH<|LJ Fz rfl T.k.Y2 So<|Af<|AR AH),AAP ha ⟨_,rfl,trivial,xH ha ⟨_,rfl,trivial,(by show 2<=sizeLine;decide),fun lo' h1=>?_⟩⟩⟩
 have n1:=Ac hp h1
 refine⟨(by rw[AQ n1];exact hp),Aa,(B8 rfl),?_⟩
 have e1:(upd (upd H lo'<|.lst [.int<|Ht.cut x.1,.int<|Ht.cut x.2]) p<|.ins (A.cl 3) dx<|DJ "old" (.ref lo')<|Na lo ln k) lo'=some (.lst [.int<|Ht.cut x.1,.int<|Ht.cut x.2]):=by rw[AQ n1.symm];exact AJ
 refine⟨AJ,Aa,Bx _ _ _,lo',_,rfl,.inl<|BF.of e1,fun ln' h2=>?_⟩
 have n2:ln'≠p:=fun z=>by subst z;rw[AJ]at h2;cases h2
 rw[AQ n2]at h2
 have n3:ln'≠lo':=fun z=>by subst z;rw[AJ]at h2;cases h2
 rw[AQ n3]at h2
 refine⟨(by rw[AQ n2.symm];exact AJ),Aa,(B8 rfl),?_⟩
 refine cast (BL (fun h=>Q V.non h) ?_)<|q lo' ln' h1 h2 n3.symm
 funext b
 unfold upd
 by_cases hb:b=p
 ·rw[AI hb,AI hb]
  rfl
 ·simp only[AG hb]
  rfl
inductive bu(K:AS)(C:AK)(vs:List V)(H:Hp)(Q:VK)(E_:XK):Prop
 | mk: ∀ p dx lo ln a k (n x:Int×Int),vs= [.ref p,.ref a]->H p=some (.ins C dx (Na lo ln k))->H ln=some (.lst [.int n.1,.int n.2])->Dd K H a [.int x.1,.int x.2]->(∀ ln',H ln'=none->Q .non (upd (upd H ln' (.lst [.int (Ht.plus n x).1,.int (Ht.plus n x).2])) p (.ins C dx (Na lo ln' k))))->bu K C vs H Q E_
def NH :O0 P w base 2 48 ["self","step"] (bu K<|A.cl 3):=by
 refine T.Nt.F.DQ ["self","step"] fun H vs Q E hr h=>?_
 obtain⟨p,dx,lo,ln,a,k,n,x,rfl,hp,hn,ha,q⟩:=h
 refine⟨_,(AF<|BC AH<|Ba<|Ax (Ah Dv T.cut<|Af<|AU BJ (A9 Ab (AR AH) AE)<|A9 By AV AE)<|Ah Dv T.cut<|Af<|AU BJ (A9 Ab (AR AH) AE)<|A9 By AV AE),hp,Aa,CF _ _ _,BF.of hn,rfl,ha,rfl,_,rfl,trivial,hp,Aa,CF _ _ _,BF.of hn,rfl,ha,rfl,_,rfl,trivial,(by show 2<=sizeLine;decide),fun ln' h1=>?_⟩
 exact⟨(AQ<|Ac hp h1).trans hp,Aa,(B8 rfl),q ln' h1⟩
inductive cX(C:AK)(f:Int->Int->Int)(vs:List V)(H:Hp)(Q:VK)(E_:XK):Prop
 | mk: ∀ p dx lo ln k m,vs= [.ref p,.int m]->H p=some (.ins C dx (Na lo ln k))->Q .non (upd H p (.ins C dx (Na lo ln (f k m))))->cX C f vs H Q E_
def KW :O0 P w base 1 49 ["self","marks"] (cX (A.cl 3) fun k m=>R4 k m):=by
 refine T.Mb.F.DQ ["self","marks"] fun H vs Q E hr h=>?_
 obtain⟨p,dx,lo,ln,k,m,rfl,hp,q⟩:=h
 exact⟨_,(AF<|BC AH<|AU ADO (AR AH) AV),hp,Aa,LG _ _ _,hp,Aa,(B8 rfl),q⟩
def Ms :O0 P w base 1 50 ["self","marks"] (cX (A.cl 3) fun k m=>De k<|7-m):=by
 refine T.MP.F.DQ ["self","marks"] fun H vs Q E hr h=>?_
 obtain⟨p,dx,lo,ln,k,m,rfl,hp,q⟩:=h
 exact⟨_,(AF<|BC AH<|AU UQ (AR AH)<|AU B1 AE AV),hp,Aa,LG _ _ _,hp,Aa,(B8 rfl),q⟩
inductive dU(K:AS)(vs:List V)(H:Hp)(Q:VK)(E_:XK):Prop
 | mk: ∀ a b (x y:Int×Int),vs= [.ref a,.ref b]->BF K H a [.int x.1,.int x.2]->BF K H b [.int y.1,.int y.2]->(∀ p,H p=none->Q (.ref p) (upd H p (.tup [.int (Ht.less x y).1,.int (Ht.less x y).2])))->dU K vs H Q E_
def Fq :O0 P w base 1 53 ["place","other"] (dU K):=by
 refine T.less.F.DQ ["place","other"] fun H vs Q E hr h=>?_
 obtain⟨a,b,x,y,rfl,ha,hb,q⟩:=h
 exact⟨_,(AF<|AY<|Iy<|Ax (AU B1 (A9 Ab AH AE)<|A9 Ab AV AE)<|AU B1 (A9 Ab AH AE)<|A9 Ab AV AE),ha,rfl,hb,rfl,ha,rfl,hb,rfl,(by show 2<=sizeLine;decide),fun p hp=>q p hp⟩
end GF
end
section
namespace GF
open PySem L2
section
noncomputable abbrev Bs(m:Ht.M)(s:List Int):Ht.M:={m with stack:=s}
inductive Tag where
 | rest | run | gr | kp | CL | C1 | refs | Bj | cells | Cq | fn | zl (z:Nat) | fr (i:Nat) | pt (z i:Nat) | po (z i:Nat) | pn (z i:Nat)
 deriving DecidableEq
structure B4 where
 run:AK
 Qn:AK
 gr:AK
 Y_:AK
 kp:AK
 VR:AK
 CL:AK
 C1:AK
 refs:AK
 cells:AK
 Cq:AK
 ends:AK
 fn:AK
 own:AK
 font:AK
 zl:Nat->AK
 pp:Nat->Nat->AK
 pd:Nat->Nat->AK
 kind:Ht.Kind
 c:Ht.Codes
 nc:Nat
 nv:Nat
 n0:Nat
 n1:Nat
 un:Nat
 place:Nat
 byte:Nat
structure Var where
 tP:AK
 tF:AK
 tQ:AK
 Bj:AK
 lo:Nat->Nat->AK
 ln:Nat->Nat->AK
 BU:List (Key×V)
 K1:Nat->AK
 cp:Nat->AK
noncomputable def kI:Ht.Kind->Int
 | .font=>0
 | .size=>1
 | .shape=>2
noncomputable def bI(b:Bool):Int:=if b=true then 1 else 0
noncomputable def bJ(g:B4)(f:Bool):AK:=if f=true then g.font else g.own
noncomputable def codeB(g:B4)(f:Bool):Ht.Bytes:=if f=true then g.c.font else g.c.own
noncomputable def TZ(c:Ht.Bytes):List V:=c.map fun b=> .int (AD b.toNat)
noncomputable def DV(g:B4)(v:Var)(m:Ht.M):List (Str×V):=
 [("kind",.int<|kI g.kind),("ground",.ref g.gr),("font",.ref g.font),("functions",.ref g.fn),("code",.ref<|bJ g m.inFont),("whose",.int<|bI m.inFont),("place",.int<|AD g.place),("after",.int<|AD m.place),
  ("byte",.int<|AD g.byte),("done",.int<|AD m.steps),("frames",.ref g.CL),("stack",.ref g.C1),("projection",.ref v.tP),("freedom",.ref v.tF),("old_projection",.ref v.tQ),("references",.ref g.refs),
  ("pointers",.ref v.Bj),("loop",.int<|AD m.loop),("rounding",.int<|AD m.way),("rounding_byte",.int<|AD m.byte)]
noncomputable def rZ(g:B4)(m:Ht.M):List (Str×V):=
 [("units",.int<|AD m.units),("dots",.int<|AD m.dots),("cells",.ref g.cells),("controls",.ref g.Cq),("twilight",.ref<|g.zl 0),("outline",.ref<|g.zl 1),("ends",.ref g.ends),("kept",.ref g.kp),("still",.int<|bI m.still),("plain",.int<|bI m.plain)]
noncomputable def RR(k:Ht.Kept):List (Str×V):=
 [("least",.int k.least),("cut_in",.int k.cutin),("width",.int k.width),("width_cut_in",.int k.widthcut),("delta_base",.int<|AD k.base),("delta_shift",.int<|AD k.shift),("flip",.int<|bI k.flip)]
noncomputable def XD(g:B4)(y:Ht.Going):List (Str×V):= [("code",.ref<|bJ g y.backFont),("whose",.int<|bI y.backFont),("back",.int<|AD y.back),("start",.int<|AD y.start),("left",.int y.left)]
noncomputable def iV(l:List Int):List V:=l.map .int
noncomputable def pV(x:Ht.Pos):List V:= [.int x.1,.int x.2]
noncomputable def want(A:B3)(g:B4)(v:Var)(m:Ht.M):Tag->Option (AK×HO)
 | .rest=>none
 | .run=>some (g.run,.ins (A.cl 1) g.Qn<|DV g v m)
 | .gr=>some (g.gr,.ins (A.cl 6) g.Y_<|rZ g m)
 | .kp=>some (g.kp,.ins (A.cl 5) g.VR<|RR m.kept)
 | .CL=>some (g.CL,.lst<|(BO m.going.length).map fun j=> .ref<|v.K1 j)
 | .C1=>some (g.C1,.lst<|iV m.stack.reverse)
 | .refs=>some (g.refs,.lst [.int m.r0,.int m.r1,.int m.r2])
 | .Bj=>some (v.Bj,.lst [.int<|AD m.z0,.int<|AD m.z1,.int<|AD m.z2])
 | .cells=>some (g.cells,.lst<|iV m.cells)
 | .Cq=>some (g.Cq,.lst<|iV m.values)
 | .fn=>if g.kind= .font then some (g.fn,.dK v.BU)else none
 | .zl z=>if z<2 then some (g.zl z,.lst<|(BO (m.zone z).size).map fun i=> .ref<|g.pp z i)else none
 | .fr j=>if j<m.going.length then some (v.K1 j,.ins (A.cl 2) (v.cp j)<|XD g<|m.going.reverse.getD j ⟨0,0,0,false⟩)else none
 | .pt z i=>if z<2/\i<(m.zone z).size then some (g.pp z i,.ins (A.cl 3) (g.pd z i)<|Na (v.lo z i) (v.ln z i)<|AD<|(m.zone z).mark i)else none
 | .po z i=>if z<2/\i<(m.zone z).size then some (v.lo z i,.lst<|pV<|(m.zone z).was i)else none
 | .pn z i=>if z<2/\i<(m.zone z).size then some (v.ln z i,.lst<|pV<|(m.zone z).at_ i)else none
noncomputable def FE(x:Int):Prop:= -2147483648<=x/\x<2147483648
noncomputable def LU(x:Ht.Pos):Prop:=FE x.1/\FE x.2
noncomputable def Sm(x:Ht.Pos):Prop:=x.1.natAbs<=32768/\x.2.natAbs<=32768
structure Kw(z:Ht.Zone):Prop where
 lo:z.org.length=z.now.length
 lm:z.marks.length=z.now.length
 ZA:z.now.length<=64
 org: ∀ x∈z.org,LU x
 now: ∀ x∈z.now,LU x
 marks: ∀ x∈z.marks,x<8
noncomputable def N7(n:Nat):List Nat->Prop
 | []=>True
 | [a]=>a<n
 | a::b::l=>a<b/\N7 n (b::l)
noncomputable def ZP(BU:List (Key×V))(funs:List (Nat×Nat)):Prop:=BU.length<=256/\(BU.map (·.1)).Nodup/\(∀ p∈BU,∃ n k,n<256/\p=(.inl<|AD n,.int<|AD k))/\
 ∀ n,(BU.find? fun kv=>decide (kv.1=II (AD n))).map (·.2)=(funs.find? fun x=>x.1==n).map fun x=>V.int<|AD x.2
noncomputable def uw:List Ht.Going->Bool->Prop
 | [],_=>True
 | y::l,f=>f=true/\uw l y.backFont
theorem uw.tt: ∀{l:List Ht.Going} {f:Bool},uw l f->uw l true
 | [],_,_=>IU
 | _::_,_,h=>⟨rfl,h.2⟩
structure Good(K:AS)(W:Hp)(g:B4)(v:Var)(m:Ht.M):Prop where
 tP:Dd K W v.tP (pV m.P)
 tF:Dd K W v.tF (pV m.F)
 tQ:Dd K W v.tQ (pV m.Q)
 sP:Sm m.P
 sF:Sm m.F
 sQ:Sm m.Q
 own:W g.own=some (.lst (TZ g.c.own))
 font:W g.font=some (.lst (TZ g.c.font))
 ba:g.c.own.length<=2048
 IT:g.c.font.length<=2048
 ends:W g.ends=some (.lst (m.ends.map fun e=> .int (AD e)))
 iM:m.ends.length<=8
 LK:N7 m.zone1.size m.ends
 fns:g.kind≠ .font->W g.fn=some (.dK v.BU)
 Vh:ZP v.BU m.funs
 bq: ∀ x∈m.funs,x.2<=g.c.font.length
 fk:g.kind= .font->g.own=g.font/\g.c.own=g.c.font
 st:m.stack.length<=128
 sti: ∀ x∈m.stack,FE x
 r0:FE m.r0
 r1:FE m.r1
 r2:FE m.r2
 z0:m.z0<2
 z1:m.z1<2
 z2:m.z2<2
 loop:1<=m.loop/\m.loop<=65535
 way:m.way<=7
 byte:m.byte<256
 least:FE m.kept.least
 cutin:FE m.kept.cutin
 width:FE m.kept.width
 uP:FE m.kept.widthcut
 base:m.kept.base<65536
 shift:m.kept.shift<=6
 cells: ∀ x∈m.cells,FE x
 QY:m.cells.length<=64
 vals: ∀ x∈m.values,FE x
 Gm:m.values.length<=64
 zone0:Kw m.zone0
 zone1:Kw m.zone1
 units:16<=m.units/\m.units<=16384
 dots:m.dots<=1000
 going:m.going.length<=8
 gS: ∀ y∈m.going,y.start<=g.c.font.length/\y.back<=(codeB g y.backFont).length
 eQ:uw m.going m.inFont
 place:m.place<=(codeB g m.inFont).length
 steps:m.steps<=5000
 nc:m.cells.length=g.nc
 nv:m.values.length=g.nv
 n0:m.zone0.size=g.n0
 n1:m.zone1.size=g.n1
 un:m.units=g.un
structure R(K:AS)(A:B3)(W:Hp)(g:B4)(v:Var)(m:Ht.M)(H:Hp):Prop where
 o: ∃ O:AK->Tag,(∀ t a o,want A g v m t=some (a,o)->H a=some o/\O a=t)/\ ∀ a o,W a=some o->H a=some o/\O a= .rest
 good:Good K W g v m
variable{K:AS}{A:B3}{W W':Hp}{g g':B4}{v v':Var}{m m':Ht.M}{H H':Hp}
def dN(e:want A g v m t=some (a,o)):t≠ .rest:=fun z=>by subst z;cases e
def R.at_(h:R K A W g v m H){t:Tag}{o:HO}(e:want A g v m t=some (a,o)):H a=some o:=by
 obtain⟨O,h1,_⟩:=h.o
 exact(h1 t a o e).1
def R.sub(h:R K A W g v m H):Bc W H:=fun a o e=>by
 obtain⟨O,_,h2⟩:=h.o
 exact(h2 a o e).1
def R.core(h:R K A W g v m H)(N:AK->Option Tag)
  (hw: ∀ t a o,want A g' v' m' t=some (a,o)->H' a=some o/\(N a=some t\/(N a=none/\ ∃ o0,want A g v m t=some (a,o0))))
  (hW: ∀ a o,W' a=some o->H' a=some o/\(N a=some .rest\/(N a=none/\ ∃ o0,W a=some o0))) (gd:Good K W' g' v' m'):R K A W' g' v' m' H':=by
 obtain⟨O,h1,h2⟩:=h.o
 refine⟨⟨fun a=>(N a).getD<|O a,fun t a o e=>?_,fun a o e=>?_⟩,gd⟩
 ·obtain⟨x,y⟩:=hw t a o e
  refine⟨x,?_⟩
  rcases y with y |⟨y,o0,z⟩
  ·show(N a).getD (O a)=t
   rw[y];rfl
  ·show(N a).getD (O a)=t
   rw[y];exact(h1 t a o0 z).2
 ·obtain⟨x,y⟩:=hW a o e
  refine⟨x,?_⟩
  rcases y with y |⟨y,o0,z⟩
  ·show(N a).getD (O a)= .rest
   rw[y];rfl
  ·show(N a).getD (O a)= .rest
   rw[y];exact(h2 a o0 z).2
def R.apart(h:R K A W g v m H){t u:Tag}{o o':HO}(e:want A g v m t=some (a,o))(e':want A g v m u=some (b,o'))(n:u≠t):b≠a:=by
 obtain⟨O,h1,_⟩:=h.o
 intro z
 subst z
 exact n<|(h1 u b o' e').2.symm.trans (h1 t b o e).2
def R.Q3(h:R K A W g v m H){t:Tag}{o o':HO}(e:want A g v m t=some (a,o))(e':W b=some o'):b≠a:=by
 obtain⟨O,h1,h2⟩:=h.o
 intro z
 subst z
 exact dN e<|(h1 t b o e).2.symm.trans (h2 b o' e').2
def R.Ef(h:R K A W g v m H)(t:Tag){a:AK}{o o':HO}(e:want A g v m t=some (a,o))(e':want A g' v' m' t=some (a,o'))(gd:Good K W g' v' m')(s: ∀ u,u≠t->want A g' v' m' u=want A g v m u:=by exact fun u hu=>by cases u<;>first | rfl | exact absurd rfl hu):R K A W g' v' m' (upd H a o'):=by
 refine h.core (fun _=>none) (fun u b ob eb=>?_) (fun b ob eb=>?_) gd
 ·by_cases hu:u=t
  ·subst hu
   rw[e']at eb
   cases eb
   exact⟨AJ,.inr ⟨rfl,_,e⟩⟩
  ·rw[s u hu]at eb
   refine⟨?_,.inr ⟨rfl,_,eb⟩⟩
   rw[AQ<|h.apart e eb hu]
   exact h.at_ eb
 ·refine⟨?_,.inr ⟨rfl,_,eb⟩⟩
  rw[AQ<|h.Q3 e eb]
  exact h.sub _ _ eb
def R.new(h:R K A W g v m H){l:AK}{o:HO}(f:H l=none):R K A W g v m (upd H l o):=by
 exact h.core (fun _=>none) (fun u b ob eb=>⟨by rw[AQ<|Ac (h.at_ eb) f];exact h.at_ eb,.inr ⟨rfl,_,eb⟩⟩) (fun b ob eb=>⟨by rw[AQ<|Ac (h.sub _ _ eb) f];exact h.sub _ _ eb,.inr ⟨rfl,_,eb⟩⟩) h.good
def BZ(s:Bc W W')(h:Dd K W a xs):Dd K W' a xs:=by
 rcases h with(h |⟨o,h⟩) | h
 ·exact .inl<|.inl<|s _ _ h
 ·exact .inl<|.inr ⟨o,s _ _ h⟩
 ·exact .inr h
def Good.mono(h:Good K W g v m)(s:Bc W W'):Good K W' g v m:=
 {h with tP:=BZ s h.tP,tF:=BZ s h.tF,tQ:=BZ s h.tQ,own:=s _ _ h.own,font:=s _ _ h.font,ends:=s _ _ h.ends,fns:=fun e=>s _ _<|h.fns e}
def Bd(f:W l=none):Bc W (upd W l o):=fun b u e=>by rw[AQ<|Ac e f];exact e
theorem R.free(h:R K A W g v m H){l:AK}(f:H l=none):W l=none:=by
 cases e:W l with
 | none=>rfl
 | some o=>rw[h.sub _ _ e]at f;cases f
def R.M4(h:R K A W g v m H){l:AK}{o:HO}(f:H l=none):R K A (upd W l o) g v m (upd H l o):=by
 refine h.core (fun b=>if b=l then some .rest else none) (fun u b ob eb=>?_) (fun b ob eb=>?_)<|h.good.mono<|Bd<|h.free f
 ·have n:=Ac (h.at_ eb) f
  exact⟨by rw[AQ n];exact h.at_ eb,.inr ⟨AG n,_,eb⟩⟩
 ·by_cases n:b=l
  ·subst n
   rw[AJ]at eb
   cases eb
   exact⟨AJ,.inl<|AI rfl⟩
  ·rw[AQ n]at eb
   exact⟨by rw[AQ n];exact h.sub _ _ eb,.inr ⟨AG n,_,eb⟩⟩
def R.fZ(h:R K A W g v m H)(t u:Tag){a l:AK}{o o' ou:HO}(f:H l=none)(e:want A g v m t=some (a,o))(e':want A g v' m' t=some (a,o'))(eu:want A g v' m' u=some (l,ou))
  (s: ∀ x,x≠t->x≠u->want A g v' m' x=want A g v m x) (tu:u≠t) (gd:Good K W g v' m'):R K A W g v' m' (upd (upd H l ou) a o'):=by
 have al:=Ac (h.at_ e) f
 refine h.core (fun b=>if b=l then some u else none) (fun x b ob eb=>?_) (fun b ob eb=>?_) gd
 ·by_cases hx:x=t
  ·subst hx
   rw[e']at eb
   cases eb
   exact⟨AJ,.inr ⟨AG al,_,e⟩⟩
  ·by_cases hu:x=u
   ·subst hu
    rw[eu]at eb
    cases eb
    exact⟨by rw[AQ al.symm];exact AJ,.inl<|AI rfl⟩
   ·rw[s x hx hu]at eb
    have n:=Ac (h.at_ eb) f
    refine⟨?_,.inr ⟨AG n,_,eb⟩⟩
    rw[AQ<|h.apart e eb hx,AQ n]
    exact h.at_ eb
 ·have n:=Ac (h.sub _ _ eb) f
  refine⟨?_,.inr ⟨AG n,_,eb⟩⟩
  rw[AQ<|h.Q3 e eb,AQ n]
  exact h.sub _ _ eb
def R.AAV(h:R K A W g v m H)(t u x:Tag){a l k:AK}{o o' ou ox:HO}(f:H l=none)(fk:H k=none)(lk:l≠k)(e:want A g v m t=some (a,o))(e':want A g v' m' t=some (a,o'))(eu:want A g v' m' u=some (l,ou))(ex:want A g v' m' x=some (k,ox))
  (s: ∀ y,y≠t->y≠u->y≠x->want A g v' m' y=want A g v m y) (tu:u≠t) (tx:x≠t) (ux:u≠x) (gd:Good K W g v' m'):R K A W g v' m' (upd (upd (upd H l ou) k ox) a o'):=by
 have al:=Ac (h.at_ e) f
 have ak:=Ac (h.at_ e) fk
 refine h.core (fun b=>if b=l then some u else if b=k then some x else none) (fun y b ob eb=>?_) (fun b ob eb=>?_) gd
 ·by_cases hy:y=t
  ·subst hy
   rw[e']at eb
   cases eb
   exact⟨AJ,.inr ⟨by rw[AG al,AG ak],_,e⟩⟩
  ·by_cases hu:y=u
   ·subst hu
    rw[eu]at eb
    cases eb
    exact⟨by rw[AQ al.symm,AQ lk];exact AJ,.inl<|AI rfl⟩
   ·by_cases hx:y=x
    ·subst hx
     rw[ex]at eb
     cases eb
     exact⟨by rw[AQ ak.symm];exact AJ,.inl<|by rw[AG lk.symm,AI rfl]⟩
    ·rw[s y hy hu hx]at eb
     have n:=Ac (h.at_ eb) f
     have n':=Ac (h.at_ eb) fk
     refine⟨?_,.inr ⟨by rw[AG n,AG n'],_,eb⟩⟩
     rw[AQ<|h.apart e eb hy,AQ n',AQ n]
     exact h.at_ eb
 ·have n:=Ac (h.sub _ _ eb) f
  have n':=Ac (h.sub _ _ eb) fk
  refine⟨?_,.inr ⟨by rw[AG n,AG n'],_,eb⟩⟩
  rw[AQ<|h.Q3 e eb,AQ n',AQ n]
  exact h.sub _ _ eb
end
section
variable{K:AS}{A:B3}{W W':Hp}{g:B4}{v v':Var}{m m':Ht.M}{H H':Hp}
def R.run(h:R K A W g v m H):H g.run=some (.ins (A.cl 1) g.Qn<|DV g v m):=h.at_ (t:= .run) rfl
def R.gr(h:R K A W g v m H):H g.gr=some (.ins (A.cl 6) g.Y_<|rZ g m):=h.at_ (t:= .gr) rfl
def R.kp(h:R K A W g v m H):H g.kp=some (.ins (A.cl 5) g.VR<|RR m.kept):=h.at_ (t:= .kp) rfl
def R.CL(h:R K A W g v m H):H g.CL=some (.lst<|(BO m.going.length).map fun j=> .ref<|v.K1 j):=h.at_ (t:= .CL) rfl
def R.C1(h:R K A W g v m H):H g.C1=some (.lst<|iV m.stack.reverse):=h.at_ (t:= .C1) rfl
def R.refs(h:R K A W g v m H):H g.refs=some (.lst [.int m.r0,.int m.r1,.int m.r2]):=h.at_ (t:= .refs) rfl
def R.Bj(h:R K A W g v m H):H v.Bj=some (.lst [.int<|AD m.z0,.int<|AD m.z1,.int<|AD m.z2]):=h.at_ (t:= .Bj) rfl
def R.cells(h:R K A W g v m H):H g.cells=some (.lst<|iV m.cells):=h.at_ (t:= .cells) rfl
def R.Cq(h:R K A W g v m H):H g.Cq=some (.lst<|iV m.values):=h.at_ (t:= .Cq) rfl
def R.zl(h:R K A W g v m H)(hz:z<2):H (g.zl z)=some (.lst<|(BO (m.zone z).size).map fun i=> .ref<|g.pp z i):=h.at_ (t:= .zl z) (AI hz)
def R.pt(h:R K A W g v m H)(hz:z<2)(hi:i<(m.zone z).size):H (g.pp z i)=some (.ins (A.cl 3) (g.pd z i)<|Na (v.lo z i) (v.ln z i)<|AD<|(m.zone z).mark i):=h.at_ (t:= .pt z i) (AI ⟨hz,hi⟩)
def R.po(h:R K A W g v m H)(hz:z<2)(hi:i<(m.zone z).size):H (v.lo z i)=some (.lst<|pV<|(m.zone z).was i):=h.at_ (t:= .po z i) (AI ⟨hz,hi⟩)
def R.pn(h:R K A W g v m H)(hz:z<2)(hi:i<(m.zone z).size):H (v.ln z i)=some (.lst<|pV<|(m.zone z).at_ i):=h.at_ (t:= .pn z i) (AI ⟨hz,hi⟩)
def R.fr(h:R K A W g v m H)(hj:j<m.going.length):H (v.K1 j)=some (.ins (A.cl 2) (v.cp j)<|XD g<|m.going.reverse.getD j ⟨0,0,0,false⟩):=h.at_ (t:= .fr j) (AI hj)
def R.tP(h:R K A W g v m H):Dd K H v.tP (pV m.P):=BZ h.sub h.good.tP
def R.tF(h:R K A W g v m H):Dd K H v.tF (pV m.F):=BZ h.sub h.good.tF
def R.tQ(h:R K A W g v m H):Dd K H v.tQ (pV m.Q):=BZ h.sub h.good.tQ
def R.codeAt(h:R K A W g v m H)(f:Bool):H (bJ g f)=some (.lst<|TZ<|codeB g f):=by
 cases f
 ·exact h.sub _ _ h.good.own
 ·exact h.sub _ _ h.good.font
def R.ends(h:R K A W g v m H):H g.ends=some (.lst<|m.ends.map fun e=> .int<|AD e):=h.sub _ _ h.good.ends
def j7:(DV g v m).lookup ("kind":Str)=some (.int<|kI g.kind):=rfl
def A_:(DV g v m).lookup ("ground":Str)=some (.ref g.gr):=rfl
def ACC:(DV g v m).lookup ("font":Str)=some (.ref g.font):=rfl
def Ut:(DV g v m).lookup ("functions":Str)=some (.ref g.fn):=rfl
def FR:(DV g v m).lookup ("code":Str)=some (.ref<|bJ g m.inFont):=rfl
def oA:(DV g v m).lookup ("whose":Str)=some (.int<|bI m.inFont):=rfl
def HH:(DV g v m).lookup ("place":Str)=some (.int<|AD g.place):=rfl
def HR:(DV g v m).lookup ("after":Str)=some (.int<|AD m.place):=rfl
def BM:(DV g v m).lookup ("byte":Str)=some (.int<|AD g.byte):=rfl
def kF:(DV g v m).lookup ("done":Str)=some (.int<|AD m.steps):=rfl
def JE:(DV g v m).lookup ("frames":Str)=some (.ref g.CL):=rfl
def FI:(DV g v m).lookup ("stack":Str)=some (.ref g.C1):=rfl
def EB:(DV g v m).lookup ("projection":Str)=some (.ref v.tP):=rfl
def Fm:(DV g v m).lookup ("freedom":Str)=some (.ref v.tF):=rfl
def Ko:(DV g v m).lookup ("old_projection":Str)=some (.ref v.tQ):=rfl
def CK:(DV g v m).lookup ("references":Str)=some (.ref g.refs):=rfl
def C8:(DV g v m).lookup ("pointers":Str)=some (.ref v.Bj):=rfl
def ABn:(DV g v m).lookup ("loop":Str)=some (.int<|AD m.loop):=rfl
def ka:(DV g v m).lookup ("rounding":Str)=some (.int<|AD m.way):=rfl
def VS:(DV g v m).lookup ("rounding_byte":Str)=some (.int<|AD m.byte):=rfl
def gp:(rZ g m).lookup ("units":Str)=some (.int<|AD m.units):=rfl
def Wy:(rZ g m).lookup ("dots":Str)=some (.int<|AD m.dots):=rfl
def jL:(rZ g m).lookup ("cells":Str)=some (.ref g.cells):=rfl
def Hi:(rZ g m).lookup ("controls":Str)=some (.ref g.Cq):=rfl
def gN:(rZ g m).lookup ("twilight":Str)=some (.ref<|g.zl 0):=rfl
def G_:(rZ g m).lookup ("outline":Str)=some (.ref<|g.zl 1):=rfl
def bw:(rZ g m).lookup ("ends":Str)=some (.ref g.ends):=rfl
def DZ:(rZ g m).lookup ("kept":Str)=some (.ref g.kp):=rfl
def Xz:(RR k).lookup ("least":Str)=some (.int k.least):=rfl
def LI:(RR k).lookup ("cut_in":Str)=some (.int k.cutin):=rfl
def Nj:(RR k).lookup ("width":Str)=some (.int k.width):=rfl
def Hz:(RR k).lookup ("width_cut_in":Str)=some (.int k.widthcut):=rfl
def Kc:(RR k).lookup ("delta_base":Str)=some (.int<|AD k.base):=rfl
def Fs:(RR k).lookup ("delta_shift":Str)=some (.int<|AD k.shift):=rfl
def WC:(RR k).lookup ("flip":Str)=some (.int<|bI k.flip):=rfl
def yV:(XD g y).lookup ("code":Str)=some (.ref<|bJ g y.backFont):=rfl
def wx:(XD g y).lookup ("whose":Str)=some (.int<|bI y.backFont):=rfl
def ze:(XD g y).lookup ("back":Str)=some (.int<|AD y.back):=rfl
def wz:(XD g y).lookup ("start":Str)=some (.int<|AD y.start):=rfl
def pk:(XD g y).lookup ("left":Str)=some (.int y.left):=rfl
end
section
variable{K:AS}{A:B3}{W W':Hp}{g:B4}{v v':Var}{m m':Ht.M}{H H':Hp}
def R.setStack(h:R K A W g v m H)(hl:s.length<=128)(hi: ∀ x∈s,FE x):R K A W g v (Bs m<|s) (upd H g.C1<|.lst<|iV s.reverse):=
 h.Ef .C1 rfl rfl {h.good with st:=hl,sti:=hi}
def R.setLoop(h:R K A W g v m H)(n:Nat)(c:1<=n/\n<=65535):R K A W g v {m with loop:=n} (upd H g.run<|.ins (A.cl 1) g.Qn<|DJ "loop" (.int<|AD n)<|DV g v m):=
 h.Ef .run rfl rfl {h.good with loop:=c}
def R.JY(h:R K A W g v m H)(n:Nat)(c:n<=(codeB g m.inFont).length):R K A W g v {m with place:=n} (upd H g.run<|.ins (A.cl 1) g.Qn<|DJ "after" (.int<|AD n)<|DV g v m):=
 h.Ef .run rfl rfl {h.good with place:=c}
def R.zB(h:R K A W g v m H)(n:Nat)(c:n<=5000):R K A W g v {m with steps:=n} (upd H g.run<|.ins (A.cl 1) g.Qn<|DJ "done" (.int<|AD n)<|DV g v m):=
 h.Ef .run rfl rfl {h.good with steps:=c}
def R.lI(h:R K A W g v m H)(n:Nat)(c:n<=7):R K A W g v {m with way:=n} (upd H g.run<|.ins (A.cl 1) g.Qn<|DJ "rounding" (.int<|AD n)<|DV g v m):=
 h.Ef .run rfl rfl {h.good with way:=c}
def R.xm(h:R K A W g v m H)(n:Nat)(c:n<256):R K A W g v {m with byte:=n} (upd H g.run<|.ins (A.cl 1) g.Qn<|DJ "rounding_byte" (.int<|AD n)<|DV g v m):=
 h.Ef .run rfl rfl {h.good with byte:=c}
def R.AEE(h:R K A W g v m H)(t:Dd K W a (pV x))(c:Sm x):R K A W g {v with tP:=a} {m with P:=x} (upd H g.run<|.ins (A.cl 1) g.Qn<|DJ "projection" (.ref a)<|DV g v m):=
 h.Ef .run rfl rfl {h.good with tP:=t,sP:=c}
def R.Xs(h:R K A W g v m H)(t:Dd K W a (pV x))(c:Sm x):R K A W g {v with tF:=a} {m with F:=x} (upd H g.run<|.ins (A.cl 1) g.Qn<|DJ "freedom" (.ref a)<|DV g v m):=
 h.Ef .run rfl rfl {h.good with tF:=t,sF:=c}
def R.AEk(h:R K A W g v m H)(t:Dd K W a (pV x))(c:Sm x):R K A W g {v with tQ:=a} {m with Q:=x} (upd H g.run<|.ins (A.cl 1) g.Qn<|DJ "old_projection" (.ref a)<|DV g v m):=
 h.Ef .run rfl rfl {h.good with tQ:=t,sQ:=c}
def R.eN(h:R K A W g v m H)(c:FE x):R K A W g v {m with r0:=x} (upd H g.refs<|.lst [.int x,.int m.r1,.int m.r2]):=
 h.Ef .refs rfl rfl {h.good with r0:=c}
def R.yl(h:R K A W g v m H)(c:x<2):R K A W g v {m with z0:=x} (upd H v.Bj<|.lst [.int<|AD x,.int<|AD m.z1,.int<|AD m.z2]):=
 h.Ef .Bj rfl rfl {h.good with z0:=c}
def R.fw(h:R K A W g v m H)(c:FE x):R K A W g v {m with r1:=x} (upd H g.refs<|.lst [.int m.r0,.int x,.int m.r2]):=
 h.Ef .refs rfl rfl {h.good with r1:=c}
def R.yt(h:R K A W g v m H)(c:x<2):R K A W g v {m with z1:=x} (upd H v.Bj<|.lst [.int<|AD m.z0,.int<|AD x,.int<|AD m.z2]):=
 h.Ef .Bj rfl rfl {h.good with z1:=c}
def R.pP(h:R K A W g v m H)(c:FE x):R K A W g v {m with r2:=x} (upd H g.refs<|.lst [.int m.r0,.int m.r1,.int x]):=
 h.Ef .refs rfl rfl {h.good with r2:=c}
def R.yF(h:R K A W g v m H)(c:x<2):R K A W g v {m with z2:=x} (upd H v.Bj<|.lst [.int<|AD m.z0,.int<|AD m.z1,.int<|AD x]):=
 h.Ef .Bj rfl rfl {h.good with z2:=c}
def R.z_(h:R K A W g v m H)(c:x<2)(f:H l=none):R K A W g {v with Bj:=l} {m with z0:=x,z1:=x,z2:=x} (upd (upd H l<|.lst [.int<|AD x,.int<|AD x,.int<|AD x]) g.run<|.ins (A.cl 1) g.Qn<|DJ "pointers" (.ref l)<|DV g v m):=
 h.fZ .run .Bj f rfl rfl rfl (fun u hu hw=>by cases u<;>first | rfl | exact absurd rfl hu | exact absurd rfl hw) (by intro z;cases z) {h.good with z0:=c,z1:=c,z2:=c}
def R.jm(h:R K A W g v m H)(c:FE x):R K A W g v {m with kept:={m.kept with least:=x}} (upd H g.kp<|.ins (A.cl 5) g.VR<|DJ "least" (.int x)<|RR m.kept):=
 h.Ef .kp rfl rfl {h.good with least:=c}
def R.jI(h:R K A W g v m H)(c:FE x):R K A W g v {m with kept:={m.kept with cutin:=x}} (upd H g.kp<|.ins (A.cl 5) g.VR<|DJ "cut_in" (.int x)<|RR m.kept):=
 h.Ef .kp rfl rfl {h.good with cutin:=c}
def R.jf(h:R K A W g v m H)(c:FE x):R K A W g v {m with kept:={m.kept with width:=x}} (upd H g.kp<|.ins (A.cl 5) g.VR<|DJ "width" (.int x)<|RR m.kept):=
 h.Ef .kp rfl rfl {h.good with width:=c}
def R.SA(h:R K A W g v m H)(c:FE x):R K A W g v {m with kept:={m.kept with widthcut:=x}} (upd H g.kp<|.ins (A.cl 5) g.VR<|DJ "width_cut_in" (.int x)<|RR m.kept):=
 h.Ef .kp rfl rfl {h.good with uP:=c}
def R.Va(h:R K A W g v m H)(x:Nat)(c:x<65536):R K A W g v {m with kept:={m.kept with base:=x}} (upd H g.kp<|.ins (A.cl 5) g.VR<|DJ "delta_base" (.int<|AD x)<|RR m.kept):=
 h.Ef .kp rfl rfl {h.good with base:=c}
def R.Ui(h:R K A W g v m H)(x:Nat)(c:x<=6):R K A W g v {m with kept:={m.kept with shift:=x}} (upd H g.kp<|.ins (A.cl 5) g.VR<|DJ "delta_shift" (.int<|AD x)<|RR m.kept):=
 h.Ef .kp rfl rfl {h.good with shift:=c}
def R.aX(h:R K A W g v m H)(x:Bool):R K A W g v {m with kept:={m.kept with flip:=x}} (upd H g.kp<|.ins (A.cl 5) g.VR<|DJ "flip" (.int<|bI x)<|RR m.kept):=
 h.Ef .kp rfl rfl {h.good with}
def R.Z8(h:R K A W g v m H)(x:Bool):R K A W g v {m with still:=x} (upd H g.gr<|.ins (A.cl 6) g.Y_<|DJ "still" (.int<|bI x)<|rZ g m):=
 h.Ef .gr rfl rfl {h.good with}
def R.set_plain(h:R K A W g v m H)(x:Bool):R K A W g v {m with plain:=x} (upd H g.gr<|.ins (A.cl 6) g.Y_<|DJ "plain" (.int<|bI x)<|rZ g m):=
 h.Ef .gr rfl rfl {h.good with}
def R.tR(h:R K A W g v m H)(c:FE x):R K A W g v {m with cells:=m.cells.set i x} (upd H g.cells<|.lst<|iV<|m.cells.set i x):=by
 have a1: ∀ y∈m.cells.set i x,FE y:=fun y hy=>by
  rcases Sv hy with q | q
  ·exact h.good.cells y q
  ·subst q;exact c
 have a2:(m.cells.set i x).length<=64:=by rw[DL];exact h.good.QY
 exact h.Ef .cells rfl rfl {h.good with cells:=a1,QY:=a2,nc:=by rw[<-h.good.nc];exact DL ..}
def R.Qh(h:R K A W g v m H)(c:FE x):R K A W g v {m with values:=m.values.set i x} (upd H g.Cq<|.lst<|iV<|m.values.set i x):=by
 have a1: ∀ y∈m.values.set i x,FE y:=fun y hy=>by
  rcases Sv hy with q | q
  ·exact h.good.vals y q
  ·subst q;exact c
 have a2:(m.values.set i x).length<=64:=by rw[DL];exact h.good.Gm
 exact h.Ef .Cq rfl rfl {h.good with vals:=a1,Gm:=a2,nv:=by rw[<-h.good.nv];exact DL ..}
noncomputable def Cd(m:Ht.M)(z i:Nat)(o n:Ht.Pos)(k:Nat):Ht.M:=m.setZone z ⟨(m.zone z).org.set i o,(m.zone z).now.set i n,(m.zone z).marks.set i k⟩
noncomputable def Pf(v:Var)(z i:Nat)(a b:AK):Var:={v with lo:=fun z' i'=>if z'=z/\i'=i then a else v.lo z' i',ln:=fun z' i'=>if z'=z/\i'=i then b else v.ln z' i'}
def Qa(h:z<2):z=0\/z=1:=by lia
def DS(hz:z<2):(Cd m z i o n k).zone z=⟨(m.zone z).org.set i o,(m.zone z).now.set i n,(m.zone z).marks.set i k⟩:=by
 rcases Qa hz with rfl | rfl<;>rfl
def Mv(hz:z<2)(hy:y<2)(ne:y≠z):(Cd m z i o n k).zone y=m.zone y:=by
 rcases Qa hz with rfl | rfl<;>rcases Qa hy with rfl | rfl<;>first | rfl | exact absurd rfl ne
def Fh(hz:z<2)(hy:y<2):((Cd m z i o n k).zone y).size=(m.zone y).size:=by
 by_cases e:y=z
 ·subst e
  rw[DS hz]
  exact DL ..
 ·rw[Mv hz hy e]
def CI{l:List α}{x d:α}(h:i<l.length):(l.set i x).getD i d=x:=by
 rw[Cc,F3 h];rfl
def Ee{l:List α}{x d:α}(h:j≠i):(l.set i x).getD j d=l.getD j d:=by
 rw[Cc,DK<|Ea h,Cc]
def Hc{l:List α}{d:α}:l.set i (l.getD i d)=l:=by
 apply Oa
 intro j
 by_cases e:j=i
 ·subst e
  by_cases hl:j<l.length
  ·rw[F3 hl,Cc,CQ hl];rfl
  ·rw[EA<|by rw[DL];lia,EA<|by lia]
 ·rw[DK<|Ea e]
def E4(h:Good K W g v m)(hz:z<2):Kw (m.zone z):=by
 rcases Qa hz with rfl | rfl
 ·exact h.zone0
 ·exact h.zone1
def Kw.set(h:Kw z)(ho:LU o)(hn:LU n)(hk:k<8):Kw ⟨z.org.set i o,z.now.set i n,z.marks.set i k⟩:=by
 refine⟨?_,?_,?_,?_,?_,?_⟩
 ·simp only[DL];exact h.lo
 ·simp only[DL];exact h.lm
 ·simp only[DL];exact h.ZA
 ·intro x hx
  rcases Sv hx with q | q
  ·exact h.org x q
  ·exact q▸ho
 ·intro x hx
  rcases Sv hx with q | q
  ·exact h.now x q
  ·exact q▸hn
 ·intro x hx
  rcases Sv hx with q | q
  ·exact h.marks x q
  ·exact q▸hk
def Good.Cd(h:Good K W g v m)(hz:z<2)(ho:LU o)(hn:LU n)(hk:k<8):Good K W g (Pf v z i a b) (Cd m z i o n k):=by
 rcases Qa hz with rfl | rfl
 ·exact{h with zone0:=h.zone0.set ho hn hk,n0:=by rw[<-h.n0];exact DL ..}
 ·refine{h with zone1:=h.zone1.set ho hn hk,LK:=?_,n1:=by rw[<-h.n1];exact DL ..}
  have e:(GF.Cd m 1 i o n k).zone1.size=m.zone1.size:=DL ..
  show N7 (GF.Cd m 1 i o n k).zone1.size m.ends
  rw[e]
  exact h.LK
theorem Og(hz:z<2): ∀ u,u≠ .pt z i->u≠ .po z i->u≠ .pn z i->want A g (Pf v z i a b) (Cd m z i o n k) u=want A g v m u:=by
 intro u h1 h2 h3
 have key: ∀ z' i',¬(z'=z/\i'=i)->z'<2->((Cd m z i o n k).zone z').size=(m.zone z').size/\((Cd m z i o n k).zone z').mark i'=(m.zone z').mark i'/\((Cd m z i o n k).zone z').was i'=(m.zone z').was i'/\((Cd m z i o n k).zone z').at_ i'=(m.zone z').at_ i':=by
  intro z' i' ne hz'
  refine⟨Fh hz hz',?_⟩
  by_cases e:z'=z
  ·subst e
   have ne':i'≠i:=fun q=>ne ⟨rfl,q⟩
   rw[DS hz]
   exact⟨Ee ne',Ee ne',Ee ne'⟩
  ·rw[Mv hz hz' e]
   exact⟨rfl,rfl,rfl⟩
 cases u with
 | zl z'=>
  simp only[want]
  by_cases hz':z'<2
  ·rw[AI hz',AI hz',Fh hz hz']
  ·rw[AG hz',AG hz']
 | pt z' i'=>
  have ne: ¬(z'=z/\i'=i):=fun q=>h1<|by rw[q.1,q.2]
  simp only[want]
  by_cases hz':z'<2
  ·obtain⟨k1,k2,k3,k4⟩:=key z' i' ne hz'
   simp only[k1,k2,Pf,AG ne]
  ·rw[AG fun q=>hz' q.1,AG fun q=>hz' q.1]
 | po z' i'=>
  have ne: ¬(z'=z/\i'=i):=fun q=>h2<|by rw[q.1,q.2]
  simp only[want]
  by_cases hz':z'<2
  ·obtain⟨k1,k2,k3,k4⟩:=key z' i' ne hz'
   simp only[k1,k3,Pf,AG ne]
  ·rw[AG fun q=>hz' q.1,AG fun q=>hz' q.1]
 | pn z' i'=>
  have ne: ¬(z'=z/\i'=i):=fun q=>h3<|by rw[q.1,q.2]
  simp only[want]
  by_cases hz':z'<2
  ·obtain⟨k1,k2,k3,k4⟩:=key z' i' ne hz'
   simp only[k1,k4,Pf,AG ne]
  ·rw[AG fun q=>hz' q.1,AG fun q=>hz' q.1]
 | _=>rcases Qa hz with rfl | rfl<;>rfl
def V_(hz:z<2)(hi:i<(m.zone z).size)(q:Kw (m.zone z)):
  want A g (Pf v z i a b) (Cd m z i o n k) (.pt z i)=some (g.pp z i,.ins (A.cl 3) (g.pd z i)<|Na a b<|AD k)/\
  want A g (Pf v z i a b) (Cd m z i o n k) (.po z i)=some (a,.lst<|pV o)/\want A g (Pf v z i a b) (Cd m z i o n k) (.pn z i)=some (b,.lst<|pV n):=by
 have e1:((Cd m z i o n k).zone z).size=(m.zone z).size:=Fh hz hz
 have hm:((Cd m z i o n k).zone z).mark i=k:=by rw[DS hz];exact CI<|by have:=q.lm;unfold Ht.Zone.size at hi;lia
 have hw:((Cd m z i o n k).zone z).was i=o:=by rw[DS hz];exact CI<|by have:=q.lo;unfold Ht.Zone.size at hi;lia
 have ha:((Cd m z i o n k).zone z).at_ i=n:=by rw[DS hz];exact CI hi
 simp only[want]
 rw[AI ⟨hz,by rw[e1];exact hi⟩,AI ⟨hz,by rw[e1];exact hi⟩,AI ⟨hz,by rw[e1];exact hi⟩,hm,hw,ha]
 refine⟨?_,?_,?_⟩<;>simp only[Pf,and_self,D6]
def MX(h:Good K W g v m)(hz:z<2)(hi:i<(m.zone z).size):LU ((m.zone z).at_ i):=by
 unfold Ht.Zone.at_
 rw[Cc,CQ hi]
 exact(E4 h hz).now _<|WZ hi
def Ge(h:Good K W g v m)(hz:z<2)(hi:i<(m.zone z).size):LU ((m.zone z).was i):=by
 have q:=E4 h hz
 have hi':i<(m.zone z).org.length:=by have:=q.lo;unfold Ht.Zone.size at hi;lia
 unfold Ht.Zone.was
 rw[Cc,CQ hi']
 exact q.org _<|WZ hi'
def J8(h:Good K W g v m)(hz:z<2)(hi:i<(m.zone z).size):(m.zone z).mark i<8:=by
 have q:=E4 h hz
 have hi':i<(m.zone z).marks.length:=by have:=q.lm;unfold Ht.Zone.size at hi;lia
 unfold Ht.Zone.mark
 rw[Cc,CQ hi']
 exact q.marks _<|WZ hi'
def PX:Pf v z i (v.lo z i) (v.ln z i)=v:=by
 unfold Pf
 have e1:(fun z' i'=>if z'=z/\i'=i then v.lo z i else v.lo z' i')=v.lo:=by
  funext z' i';by_cases q:z'=z/\i'=i
  ·rw[AI q,q.1,q.2]
  ·rw[AG q]
 have e2:(fun z' i'=>if z'=z/\i'=i then v.ln z i else v.ln z' i')=v.ln:=by
  funext z' i';by_cases q:z'=z/\i'=i
  ·rw[AI q,q.1,q.2]
  ·rw[AG q]
 rw[e1,e2]
def R.lP(h:R K A W g v m H)(hz:z<2)(hi:i<(m.zone z).size)(hk:k<8):R K A W g v (Cd m z i ((m.zone z).was i) ((m.zone z).at_ i) k) (upd H (g.pp z i)<|.ins (A.cl 3) (g.pd z i)<|Na (v.lo z i) (v.ln z i)<|AD k):=by
 obtain⟨w1,w2,w3⟩:=V_ hz hi<|E4 h.good hz
 have gd:=h.good.Cd (i:=i) (a:=v.lo z i) (b:=v.ln z i) hz (Ge h.good hz hi) (MX h.good hz hi) hk
 have s:=Og (A:=A) (g:=g) (v:=v) (m:=m) (i:=i) (o:=(m.zone z).was i) (n:=(m.zone z).at_ i) (k:=k) (a:=v.lo z i) (b:=v.ln z i) hz
 rw[PX]at w1 w2 w3 gd
 simp only[PX]at s
 refine h.Ef (.pt z i) (AI ⟨hz,hi⟩) w1 gd fun u hu=>?_
 by_cases e:u= .po z i
 ·subst e;rw[w2];exact(AI ⟨hz,hi⟩).symm
 ·by_cases e':u= .pn z i
  ·subst e';rw[w3];exact(AI ⟨hz,hi⟩).symm
  ·exact s u hu e e'
def R.vd(h:R K A W g v m H)(hz:z<2)(hi:i<(m.zone z).size)(hn:LU n)(f:H l=none):R K A W g (Pf v z i (v.lo z i) l) (Cd m z i ((m.zone z).was i) n<|(m.zone z).mark i) (upd (upd H l<|.lst<|pV n) (g.pp z i)<|.ins (A.cl 3) (g.pd z i)<|Na (v.lo z i) l<|AD<|(m.zone z).mark i):=by
 obtain⟨w1,w2,w3⟩:=V_ hz hi<|E4 h.good hz
 refine h.fZ (.pt z i) (.pn z i) f (AI ⟨hz,hi⟩) w1 w3 (fun u hu hu'=>?_) (by intro z;cases z) (h.good.Cd (i:=i) (a:=v.lo z i) (b:=l) hz (Ge h.good hz hi) hn<|J8 h.good hz hi)
 by_cases e:u= .po z i
 ·subst e;rw[w2];exact(AI ⟨hz,hi⟩).symm
 ·exact(Og (A:=A) (g:=g) (v:=v) (m:=m) (i:=i) (o:=(m.zone z).was i) (n:=n) (k:=(m.zone z).mark i) (a:=v.lo z i) (b:=l) hz) u hu e hu'
def R.qK(h:R K A W g v m H)(hz:z<2)(hi:i<(m.zone z).size)(hn:LU n):R K A W g v (Cd m z i ((m.zone z).was i) n<|(m.zone z).mark i) (upd H (v.ln z i)<|.lst<|pV n):=by
 obtain⟨w1,w2,w3⟩:=V_ hz hi<|E4 h.good hz
 have gd:=h.good.Cd (i:=i) (a:=v.lo z i) (b:=v.ln z i) hz (Ge h.good hz hi) hn<|J8 h.good hz hi
 have s:=Og (A:=A) (g:=g) (v:=v) (m:=m) (i:=i) (o:=(m.zone z).was i) (n:=n) (k:=(m.zone z).mark i) (a:=v.lo z i) (b:=v.ln z i) hz
 rw[PX]at w1 w2 w3 gd
 simp only[PX]at s
 refine h.Ef (.pn z i) (AI ⟨hz,hi⟩) w3 gd fun u hu=>?_
 by_cases e:u= .po z i
 ·subst e;rw[w2];exact(AI ⟨hz,hi⟩).symm
 ·by_cases e':u= .pt z i
  ·subst e';rw[w1];exact(AI ⟨hz,hi⟩).symm
  ·exact s u e' e hu
def R.ADm(h:R K A W g v m H)(hz:z<2)(hi:i<(m.zone z).size)(hn:LU n)(f:H l=none)(fk:H k=none)(lk:l≠k):
  R K A W g (Pf v z i l k) (Cd m z i n n<|(m.zone z).mark i) (upd (upd (upd H l<|.lst<|pV n) k<|.lst<|pV n) (g.pp z i)<|.ins (A.cl 3) (g.pd z i)<|Na l k<|AD<|(m.zone z).mark i):=by
 obtain⟨w1,w2,w3⟩:=V_ hz hi<|E4 h.good hz
 exact h.AAV (.pt z i) (.po z i) (.pn z i) f fk lk (AI ⟨hz,hi⟩) w1 w2 w3 (fun u h1 h2 h3=>(Og (A:=A) (g:=g) (v:=v) (m:=m) (i:=i) (o:=n) (n:=n) (k:=(m.zone z).mark i) (a:=l) (b:=k) hz) u h1 h2 h3) (by intro z;cases z) (by intro z;cases z) (by intro z;cases z) (h.good.Cd (i:=i) (a:=l) (b:=k) hz hn hn<|J8 h.good hz hi)
def Y9(touch:Bool)(hk:k<2)(w:Ht.Pos):m.shift touch k p w=Cd m k p ((m.zone k).was p) (Ht.plus ((m.zone k).at_ p) w) (if touch=true then m.touched ((m.zone k).mark p)else(m.zone k).mark p):=by
 unfold Ht.M.shift Cd Ht.Zone.was Ht.Zone.mark
 rw[Hc]
 cases touch
 ·simp only[Wx,FJ]
  rw[Hc]
 ·rfl
def wb(q:Ht.Pos):m.put k p q=Cd m k p q q ((m.zone k).mark p):=by
 unfold Ht.M.put Cd Ht.Zone.mark
 rw[Hc]
def Wg(f:Nat->Nat):m.mark k p f=Cd m k p ((m.zone k).was p) ((m.zone k).at_ p) (f<|(m.zone k).mark p):=by
 unfold Ht.M.mark Cd Ht.Zone.mark Ht.Zone.was Ht.Zone.at_
 rw[Hc,Hc]
end
section
variable{K:AS}{A:B3}{W W' W0:Hp}{g:B4}{v v':Var}{m m':Ht.M}{H H':Hp}{Q:VK}{E:XK}{st:Nat}{inf:Bool}{n:Nat}
noncomputable def Ex(E:XK)(H:Hp)(n:Nat):Prop:= ∀ d,H d=none->E (.int (AD n) 0) none (upd H d<|.xd<|gn<|AD n)
noncomputable def Fl(K:AS)(A:B3)(W:Hp)(g:B4)(st:Nat)(inf:Bool)(E:XK)(n:Nat):Prop:= ∀ W' v' m' H',Bc W W'->R K A W' g v' m' H'->m'.steps=st->m'.inFont=inf->E (.int (AD n) 0) none H'
def same_refl:Bc W W:=fun _ _ e=>e
def Fl.mono(f:Fl K A W g st inf E n)(s:Bc W W'):Fl K A W' g st inf E n:=fun W' v' m' H' s' h e1 e2=>f W' v' m' H' (fun b o e=>s' b o<|s b o e) h e1 e2
def Fl.ex(f:Fl K A W g m.steps m.inFont E n)(h:R K A W g v m H):Ex E H n:=fun _ hd=>f W v m _ same_refl (h.new hd) rfl rfl
noncomputable def Out(K:AS)(A:B3)(W:Hp)(g:B4)(st:Nat)(inf:Bool)(r:Ht.R Ht.M)(Q:VK)(E:XK):Prop:=match r with
 | .error n=>Fl K A W g st inf E n
 | .ok m'=> ∀ W' v' H',Bc W W'->R K A W' g v' m' H'->m'.steps=st->Q .non H'
inductive Ux(K:AS)(A:B3)(bs:Nat->Prop)(f:B4->Ht.M->Ht.R Ht.M)(vs:List V)(H:Hp)(Q:VK)(E:XK):Prop
 | mk: ∀ W g v m,vs= [.ref g.run]->R K A W g v m H->bs g.byte->Out K A W g m.steps m.inFont (f g m) Q E->Ux K A bs f vs H Q E
inductive eO(K:AS)(A:B3)(vs:List V)(H:Hp)(Q:VK)(E:XK):Prop
 | mk: ∀ W g v m,vs= [.ref g.run]->R K A W g v m H->((m.stack= []->Fl K A W g m.steps m.inFont E 1))->(∀ a s H',m.stack=a::s->FE a->R K A W g v (Bs m (s)) H'->Q (.int a) H')->eO K A vs H Q E
inductive MZ(K:AS)(A:B3)(vs:List V)(H:Hp)(Q:VK)(E:XK):Prop
 | mk: ∀ W g v m,(∃ c,vs= [.ref g.run,.int (AD c)]/\R K A W g v m H/\(m.stack.length<c->Fl K A W g m.steps m.inFont E 1)/\ ∀ l H',c<=m.stack.length->W l=none->R K A (upd W l (.lst (iV (m.stack.take c)))) g v (Bs m (m.stack.drop c)) H'->Q (.ref l) H')->MZ K A vs H Q E
inductive L4(K:AS)(A:B3)(vs:List V)(H:Hp)(Q:VK)(E:XK):Prop
 | mk: ∀ W g v m,vs= [.ref g.run]->R K A W g v m H->((m.stack.length<m.loop->Fl K A W g m.steps m.inFont E 1))->(∀ l H',m.loop<=m.stack.length->W l=none->R K A (upd W l (.lst (iV (m.stack.take m.loop)))) g v {m with stack:=m.stack.drop m.loop,loop:=1} H'->Q (.ref l) H')->L4 K A vs H Q E
inductive fU(K:AS)(A:B3)(vs:List V)(H:Hp)(Q:VK)(E:XK):Prop
 | mk: ∀ W g v m x,vs= [.ref g.run,.int x]->R K A W g v m H->((m.stack.length=128->Fl K A W g m.steps m.inFont E 2))->(∀ H',m.stack.length<128->R K A W g v (Bs m (Ht.cut x::m.stack)) H'->Q .non H')->fU K A vs H Q E
inductive RU(K:AS)(A:B3)(vs:List V)(H:Hp)(Q:VK)(E:XK):Prop
 | mk: ∀ W g v m x,vs= [.ref g.run,.int x]->R K A W g v m H->Q (.int (m.round x)) H->RU K A vs H Q E
inductive cK(K:AS)(A:B3)(vs:List V)(H:Hp)(Q:VK)(E:XK):Prop
 | mk: ∀ W g v m,(∃ z,vs= [.ref g.run,.int (AD z)]/\R K A W g v m H/\z<2/\Q (.ref (g.zl z)) H)->cK K A vs H Q E
inductive px(K:AS)(A:B3)(vs:List V)(H:Hp)(Q:VK)(E:XK):Prop
 | mk: ∀ W g v m x,(∃ z,vs= [.ref g.run,.int (AD z),.int x]/\R K A W g v m H/\z<2/\((m.zone z).size<=Ht.unsigned x->Fl K A W g m.steps m.inFont E 3)/\(Ht.unsigned x<(m.zone z).size->Q (.ref (g.pp z (Ht.unsigned x))) H))->px K A vs H Q E
noncomputable def zp(m:Ht.M)(p:Nat):Nat:=if p=0 then m.z0 else if p=1 then m.z1 else m.z2
noncomputable def rp(m:Ht.M)(p:Nat):Int:=if p=0 then m.r0 else if p=1 then m.r1 else m.r2
inductive Wc(K:AS)(A:B3)(vs:List V)(H:Hp)(Q:VK)(E:XK):Prop
 | mk: ∀ W g v m x,(∃ p,vs= [.ref g.run,.int (AD p),.int x]/\R K A W g v m H/\p<3/\((m.zone (zp m p)).size<=Ht.unsigned x->Fl K A W g m.steps m.inFont E 3)/\(Ht.unsigned x<(m.zone (zp m p)).size->Q (.ref (g.pp (zp m p) (Ht.unsigned x))) H))->Wc K A vs H Q E
inductive Wj(K:AS)(A:B3)(vs:List V)(H:Hp)(Q:VK)(E:XK):Prop
 | mk: ∀ W g v m,(∃ r p,vs= [.ref g.run,.int (AD r),.int (AD p)]/\R K A W g v m H/\r<3/\p<3/\((m.zone (zp m p)).size<=Ht.unsigned (rp m r)->Fl K A W g m.steps m.inFont E 3)/\(Ht.unsigned (rp m r)<(m.zone (zp m p)).size->Q (.ref (g.pp (zp m p) (Ht.unsigned (rp m r)))) H))->Wj K A vs H Q E
inductive SU(vs:List V)(H:Hp)(Q:VK)(E:XK):Prop
 | mk: ∀ x,(∃ c,vs= [.int x,.int (AD c)]/\(c<=Ht.unsigned x->Ex E H 3)/\(Ht.unsigned x<c->Q (.int (AD (Ht.unsigned x))) H))->SU vs H Q E
def Ci(h:Good K W g v m)(p:Nat):zp m p<2:=by
 unfold zp
 split
 ·exact h.z0
 ·split
  ·exact h.z1
  ·exact h.z2
def vN(h:R K A W g v m H)(e:m.stack= []->Fl K A W g m.steps m.inFont E 1)(k: ∀ a s H',m.stack=a::s->FE a->R K A W g v (Bs m<|s) H'->Q (.int a) H'):eO K A [.ref g.run] H Q E:=⟨W,g,v,m,rfl,h,e,k⟩
def gz(h:R K A W g v m H)(e:m.stack.length<c->Fl K A W g m.steps m.inFont E 1)(k: ∀ l H',c<=m.stack.length->W l=none->R K A (upd W l<|.lst<|iV<|m.stack.take c) g v (Bs m<|m.stack.drop c) H'->Q (.ref l) H'):MZ K A [.ref g.run,.int<|AD c] H Q E:=⟨W,g,v,m,c,rfl,h,e,k⟩
def rM(h:R K A W g v m H)(e:m.stack.length<m.loop->Fl K A W g m.steps m.inFont E 1)(k: ∀ l H',m.loop<=m.stack.length->W l=none->R K A (upd W l<|.lst<|iV<|m.stack.take m.loop) g v {m with stack:=m.stack.drop m.loop,loop:=1} H'->Q (.ref l) H'):L4 K A [.ref g.run] H Q E:=⟨W,g,v,m,rfl,h,e,k⟩
def va(h:R K A W g v m H)(e:m.stack.length=128->Fl K A W g m.steps m.inFont E 2)(k: ∀ H',m.stack.length<128->R K A W g v (Bs m<|Ht.cut x::m.stack) H'->Q .non H'):fU K A [.ref g.run,.int x] H Q E:=⟨W,g,v,m,x,rfl,h,e,k⟩
def Ob(h:R K A W g v m H)(k:Q (.int<|m.round x) H):RU K A [.ref g.run,.int x] H Q E:=⟨W,g,v,m,x,rfl,h,k⟩
def hV(h:R K A W g v m H)(c:z<2)(k:Q (.ref<|g.zl z) H):cK K A [.ref g.run,.int<|AD z] H Q E:=⟨W,g,v,m,z,rfl,h,c,k⟩
def mq(h:R K A W g v m H)(c:z<2)(e:(m.zone z).size<=Ht.unsigned x->Fl K A W g m.steps m.inFont E 3)(k:Ht.unsigned x<(m.zone z).size->Q (.ref<|g.pp z<|Ht.unsigned x) H):px K A [.ref g.run,.int<|AD z,.int x] H Q E:=⟨W,g,v,m,x,z,rfl,h,c,e,k⟩
def aS(h:R K A W g v m H)(c:p<3)(e:(m.zone<|zp m p).size<=Ht.unsigned x->Fl K A W g m.steps m.inFont E 3)(k:Ht.unsigned x<(m.zone<|zp m p).size->Q (.ref<|g.pp (zp m p)<|Ht.unsigned x) H):Wc K A [.ref g.run,.int<|AD p,.int x] H Q E:=⟨W,g,v,m,x,p,rfl,h,c,e,k⟩
def sv(h:R K A W g v m H)(c:r<3)(c':p<3)(e:(m.zone<|zp m p).size<=Ht.unsigned (rp m r)->Fl K A W g m.steps m.inFont E 3)(k:Ht.unsigned (rp m r)<(m.zone<|zp m p).size->Q (.ref<|g.pp (zp m p)<|Ht.unsigned<|rp m r) H):Wj K A [.ref g.run,.int<|AD r,.int<|AD p] H Q E:=⟨W,g,v,m,r,p,rfl,h,c,c',e,k⟩
def Y7(e:c<=Ht.unsigned x->Ex E H 3)(k:Ht.unsigned x<c->Q (.int<|AD<|Ht.unsigned x) H):SU [.int x,.int<|AD c] H Q E:=⟨x,c,rfl,e,k⟩
variable{F1:Ht.M->Int->Ht.R Ht.M}{F2:Ht.M->Int->Int->Ht.R Ht.M}{a b x y:Int}{s:List Int}
def yh(e:m.stack= []):Ht.one m F1= .error 1:=by unfold Ht.one Ht.M.take;rw[e];rfl
def xT(e:m.stack=a::s):Ht.one m F1=F1 (Bs m<|s) a:=by unfold Ht.one Ht.M.take;rw[e];rfl
def yb(e:m.stack= []):Ht.two m F2= .error 1:=by unfold Ht.two Ht.M.take;rw[e];rfl
def zF(e:m.stack= [b]):Ht.two m F2= .error 1:=by unfold Ht.two Ht.M.take;rw[e];rfl
def vK(e:m.stack=b::a::s):Ht.two m F2=F2 (Bs m<|s) a b:=by unfold Ht.two Ht.M.take;rw[e];rfl
def lQ{f:α->Ht.R β}{r:Ht.R α}(e:r= .error n):Ht.on r f= .error n:=by subst e;rfl
def wH{f:α->Ht.R β}{r:Ht.R α}{a:α}(e:r= .ok a):Ht.on r f=f a:=by subst e;rfl
def Dk(x:Int):FE (Ht.cut x):=by
 unfold FE Ht.cut
 lia
end
end GF
end
section
namespace GF
open PySem PySem.Spec PyProof.Rows L2
section
noncomputable def tk(m:Ht.M)(F:Ht.M->Int->Ht.R Ht.M):Ht.R Ht.M:=match m.stack with
 | []=> .error 1
 | a::s=>F (Bs m<|s) a
noncomputable def gv(m:Ht.M)(x:Int)(F:Ht.M->Ht.R Ht.M):Ht.R Ht.M:=if 128<=m.stack.length then .error 2 else F (Bs m<|Ht.cut x::m.stack)
noncomputable def uD(m:Ht.M)(c:Nat)(F:Ht.M->List Int->Ht.R Ht.M):Ht.R Ht.M:=if m.stack.length<c then .error 1 else F (Bs m<|m.stack.drop c) (m.stack.take c)
noncomputable def uB(m:Ht.M)(F:Ht.M->List Int->Ht.R Ht.M):Ht.R Ht.M:=if m.stack.length<m.loop then .error 1 else F {m with stack:=m.stack.drop m.loop,loop:=1} (m.stack.take m.loop)
noncomputable def wi(x:Int)(c:Nat)(F:Nat->Ht.R Ht.M):Ht.R Ht.M:=if Ht.unsigned x<c then F (Ht.unsigned x)else .error 3
noncomputable def Du(B:Int->Ht.M->(Ht.M->Ht.R Ht.M)->Ht.R Ht.M):List Int->Ht.M->(Ht.M->Ht.R Ht.M)->Ht.R Ht.M
 | [],m,F=>F m
 | x::l,m,F=>B x m fun m=>Du B l m F
structure Fx where
 W0:Hp
 g:B4
 st:Nat
 inf:Bool
 Q:VK
structure BX(K:AS)(A:B3)(E:XK)(z:Fx)(W:Hp)(v:Var)(m:Ht.M)(H:Hp)(r:Ht.R Ht.M):Prop where
 h:R K A W z.g v m H
 s:Bc z.W0 W
 hs:m.steps=z.st
 hi:m.inFont=z.inf
 q:Out K A z.W0 z.g z.st z.inf r z.Q E
variable{K:AS}{A:B3}{W W' W0:Hp}{g:B4}{v v':Var}{m m':Ht.M}{H H':Hp}{Q:VK}{E:XK}{z:Fx}{n:Nat}{r r':Ht.R Ht.M}
def BX.rn(c:BX K A E z W v m H r):H z.g.run=some (.ins (A.cl 1) z.g.Qn<|DV z.g v m):=c.h.run
def BX.done(c:BX K A E z W v m H (.ok m)):z.Q .non H:=c.q W v H c.s c.h c.hs
def BX.fl(c:BX K A E z W v m H (.error n)):Fl K A W z.g m.steps m.inFont E n:=by
 rw[c.hs,c.hi]
 exact c.q.mono c.s
def BX.raise(c:BX K A E z W v m H (.error n)):Ex E H n:=c.fl.ex c.h
def BX.to(c:BX K A E z W v m H r)(e:r=r'):BX K A E z W v m H r':=e▸c
def BX.go(c:BX K A E z W v m H r)(s:Bc W W')(h:R K A W' z.g v' m' H')(hs:m'.steps=m.steps:=by rfl)(hi:m'.inFont=m.inFont:=by rfl):BX K A E z W' v' m' H' r:=
 ⟨h,fun b o e=>s b o<|c.s b o e,hs.trans c.hs,hi.trans c.hi,c.q⟩
def BX.new(c:BX K A E z W v m H r)(f:H l=none):BX K A E z W v m (upd H l o) r:=⟨c.h.new f,c.s,c.hs,c.hi,c.q⟩
def BX.M4(c:BX K A E z W v m H r)(f:H l=none):BX K A E z (upd W l o) v m (upd H l o) r:=c.go (Bd<|c.h.free f) (c.h.M4 f)
section
variable{p:Prop} [Decidable p]{r1 r2:Ht.R Ht.M}{X Y:Prop}
def BX.ifT(c:BX K A E z W v m H (if p then r1 else r2))(e:p):BX K A E z W v m H r1:=c.to (AI e)
def BX.ifF(c:BX K A E z W v m H (if p then r1 else r2))(e: ¬ p):BX K A E z W v m H r2:=c.to (AG e)
def ER(c:BX K A E z W v m H (if p then r1 else r2))(k1:p->BX K A E z W v m H r1->X)(k2: ¬ p->BX K A E z W v m H r2->Y):if decide p=true then X else Y:=by
 by_cases e:p
 ·rw[AI<|Av e];exact k1 e<|c.ifT e
 ·rw[AG<|by simp[e]];exact k2 e<|c.ifF e
def He(c:BX K A E z W v m H (if x=y then r1 else r2))(k1:x=y->BX K A E z W v m H r1->X)(k2: ¬ x=y->BX K A E z W v m H r2->Y):if decide (V.int x=V.int y)=true then X else Y:=by
 by_cases e:x=y
 ·rw[AI<|Av<|BL V.int e];exact k1 e<|c.ifT e
 ·rw[AG<|by simp[e]];exact k2 e<|c.ifF e
def UT(c:BX K A E z W v m H (if x=y then r1 else r2))(k1:x=y->BX K A E z W v m H r1->Y)(k2: ¬ x=y->BX K A E z W v m H r2->X):if(!decide (V.int x=V.int y))=true then X else Y:=by
 by_cases e:x=y
 ·rw[AG<|by simp[e]];exact k1 e<|c.ifT e
 ·rw[AI<|by simp[e]];exact k2 e<|c.ifF e
def AAr(c:BX K A E z W v m H (if x=y then r1 else r2))(k1:x=y->BX K A E z W v m H r1->X)(k2: ¬ x=y->BX K A E z W v m H r2->Y):if decide (V.bl x=V.bl y)=true then X else Y:=by
 by_cases e:x=y
 ·rw[AI<|Av<|BL V.bl e];exact k1 e<|c.ifT e
 ·rw[AG<|by simp[e]];exact k2 e<|c.ifF e
def AAh(c:BX K A E z W v m H (if x=y then r1 else r2))(k1:x=y->BX K A E z W v m H r1->Y)(k2: ¬ x=y->BX K A E z W v m H r2->X):if(!decide (V.bl x=V.bl y))=true then X else Y:=by
 by_cases e:x=y
 ·rw[AG<|by simp[e]];exact k1 e<|c.ifT e
 ·rw[AI<|by simp[e]];exact k2 e<|c.ifF e
end
def Am(c:BX K A E z W v m H (tk m F))(k: ∀ a s H',FE a->BX K A E z W v (Bs m<|s) H' (F (Bs m<|s) a)->Q (.int a) H'):eO K A [.ref z.g.run] H Q E:=by
 refine vN c.h (fun e=>(c.to (show tk m F= .error 1 by unfold tk;rw[e])).fl) fun a s H' e i h=>?_
 ·exact k a s H' i<|(c.to<|by unfold tk;rw[e]).go same_refl h
def Bp(c:BX K A E z W v m H (gv m x F))(k: ∀ H',m.stack.length<128->BX K A E z W v (Bs m<|Ht.cut x::m.stack) H' (F<|Bs m<|Ht.cut x::m.stack)->Q .non H'):fU K A [.ref z.g.run,.int x] H Q E:=by
 exact va c.h (fun e=>(c.to<|AI<|by lia).fl) fun H' e h=>k H' e<|(c.to<|AG<|by lia).go same_refl h
def vj(c:BX K A E z W v m H (uD m n F))(k: ∀ l H',n<=m.stack.length->W l=none->BX K A E z (upd W l<|.lst<|iV<|m.stack.take n) v (Bs m<|m.stack.drop n) H' (F (Bs m<|m.stack.drop n)<|m.stack.take n)->Q (.ref l) H'):MZ K A [.ref z.g.run,.int<|AD n] H Q E:=by
 exact gz c.h (fun e=>(c.to<|AI e).fl) fun l H' e f h=>k l H' e f<|(c.to<|AG<|by lia).go (Bd f) h
def RW(c:BX K A E z W v m H (uB m F))(k: ∀ l H',m.loop<=m.stack.length->W l=none->BX K A E z (upd W l<|.lst<|iV<|m.stack.take m.loop) v {m with stack:=m.stack.drop m.loop,loop:=1} H' (F {m with stack:=m.stack.drop m.loop,loop:=1}<|m.stack.take m.loop)->Q (.ref l) H'):L4 K A [.ref z.g.run] H Q E:=by
 exact rM c.h (fun e=>(c.to<|AI e).fl) fun l H' e f h=>k l H' e f<|(c.to<|AG<|by lia).go (Bd f) h
def Eb(e:Ht.unsigned x<n):wi x n F=F (Ht.unsigned x):=AI e
def F_(e:n<=Ht.unsigned x):wi x n F= .error 3:=AG (by lia)
def DR(c:BX K A E z W v m H (wi x n F))(k:Ht.unsigned x<n->BX K A E z W v m H (F<|Ht.unsigned x)->Q (.int<|AD<|Ht.unsigned x) H):SU [.int x,.int<|AD n] H Q E:=
 Y7 (fun e=>(c.to<|F_ e).raise) (fun e=>k e<|c.to<|Eb e)
def AD_(c:BX K A E z W v m H (wi x (m.zone y).size F))(hy:y<2)(k:Ht.unsigned x<(m.zone y).size->BX K A E z W v m H (F<|Ht.unsigned x)->Q (.ref<|z.g.pp y<|Ht.unsigned x) H):px K A [.ref z.g.run,.int<|AD y,.int x] H Q E:=
 mq c.h hy (fun e=>(c.to<|F_ e).fl) (fun e=>k e<|c.to<|Eb e)
def B9(c:BX K A E z W v m H (wi x (m.zone<|zp m p).size F))(hp:p<3)(k:Ht.unsigned x<(m.zone<|zp m p).size->BX K A E z W v m H (F<|Ht.unsigned x)->Q (.ref<|z.g.pp (zp m p)<|Ht.unsigned x) H):Wc K A [.ref z.g.run,.int<|AD p,.int x] H Q E:=
 aS c.h hp (fun e=>(c.to<|F_ e).fl) (fun e=>k e<|c.to<|Eb e)
def Hb(c:BX K A E z W v m H (wi (rp m n) (m.zone<|zp m p).size F))(hn:n<3)(hp:p<3)(k:Ht.unsigned (rp m n)<(m.zone<|zp m p).size->BX K A E z W v m H (F<|Ht.unsigned<|rp m n)->Q (.ref<|z.g.pp (zp m p)<|Ht.unsigned<|rp m n) H):Wj K A [.ref z.g.run,.int<|AD n,.int<|AD p] H Q E:=
 sv c.h hn hp (fun e=>(c.to<|F_ e).fl) (fun e=>k e<|c.to<|Eb e)
def Ji(c:BX K A E z W v m H r)(k:Q (.int<|m.round x) H):RU K A [.ref z.g.run,.int x] H Q E':=Ob c.h k
def ABb(c:BX K A E z W v m H r)(hy:y<2)(k:Q (.ref<|z.g.zl y) H):cK K A [.ref z.g.run,.int<|AD y] H Q E':=hV c.h hy k
def AAL{f:B4->Ht.M->Ht.R Ht.M}(h:R K A W g v m H)(q:Out K A W g m.steps m.inFont (f g m) Q E):BX K A E ⟨W,g,m.steps,m.inFont,Q⟩ W v m H (f g m):=⟨h,same_refl,rfl,rfl,q⟩
theorem _root_.L2.Fun.act{st:Bi}(F:Fun K x qual st f fd)(N:List Str)
  (hbody: ∀{cdv:AN} {Ar:Dh} {outer:List Env} {s:Ay} (H:Hp) (Q:VK) (E:XK) (W:Hp) (g:B4) (v:Var) (m:Ht.M),D_ k (Ar.deeper<|GQ qual (BY st) s.heap.objs.size f cdv)->bs g.byte->BX K A E ⟨W,g,m.steps,m.inFont,Q⟩ W v m H (fx g m)->
   ∃ t,eC (M6 (Xr P w<|A.cl 0) P w K mg base N qual (BY st) f cdv Ar outer s H E) (EO st) t/\t {nx:=fun _ H'=>Q .non H',rt:=Q} (start N [.ref g.run]) H)
  (S:yN N ["run"] (BY st)=true:=by kernel_rfl):ET P w K mg base (Xr P w<|A.cl 0) (k+1) f fd ["run"] (Ux K A bs fx):=F.Vm N (fun H vs Q E hr h=>by
 obtain⟨W,g,v,m,rfl,h,hb,q⟩:=h
 exact hbody H Q E W g v m hr hb<|AAL h q) (by intro _ _ _ _ h;cases h;subst_vars;rfl) S
noncomputable abbrev OA(P:BH)(w:Ao){K:AS}{mg:Str->Option AN}(base:Az){A:B3} [T:Txt K mg A](k n:Nat)(f:B4->Ht.M->Ht.R Ht.M)(bs:Nat->Prop:=fun _=>True):Prop:=ET P w K mg base (Xr P w<|A.cl 0) k (A.ad n) (A.fd n) ["run"] (Ux K A bs f)
theorem _root_.L2.Fun.ji{st:Bi}(F:Fun K x qual st f fd)(N:List Str)
  (hbody: ∀{cdv:AN} {Ar:Dh} {outer:List Env} {s:Ay} (H:Hp) (Q:VK) (E:XK) (W:Hp) (g:B4) (v:Var) (m:Ht.M),D_ k (Ar.deeper<|GQ qual (BY st) s.heap.objs.size f cdv)->bs g.byte->BX K A E ⟨W,g,m.steps,m.inFont,Q⟩ W v m H (fx g m)->
   ∃ t,eC (M6 eT P w K mg base N qual (BY st) f cdv Ar outer s H E).nox (EO st) t/\t {nx:=fun _ H'=>Q .non H',rt:=Q} (start N [.ref g.run]) H)
  (S:yN N ["run"] (BY st)=true:=by kernel_rfl):ET P w K mg base eT (k+1) f fd ["run"] (Ux K A bs fx):=F.DQ N (fun H vs Q E hr h=>by
 obtain⟨W,g,v,m,rfl,h,hb,q⟩:=h
 exact hbody H Q E W g v m hr hb<|AAL h q) (by intro _ _ _ _ h;cases h;subst_vars;rfl) S
noncomputable abbrev OB(P:BH)(w:Ao){K:AS}{mg:Str->Option AN}(base:Az){A:B3} [T:Txt K mg A](k n:Nat)(f:B4->Ht.M->Ht.R Ht.M)(bs:Nat->Prop:=fun _=>True):Prop:=ET P w K mg base eT k (A.ad n) (A.fd n) ["run"] (Ux K A bs f)
end
end GF
end
section
namespace GF
open PySem L2
section
variable{m:Ht.M}{x y u:Int}{k:Nat}
theorem lR:Ht.one m F=tk m F:=by
 unfold tk
 cases e:m.stack with
 | nil=>exact yh e
 | cons a s=>exact xT e
theorem ACa:Ht.two m F=tk m fun m b=>tk m fun m a=>F m a b:=by
 unfold tk
 cases e:m.stack with
 | nil=>exact yb e
 | cons b s=>
  cases s with
  | nil=>exact zF e
  | cons a s=>exact vK e
def Ow:m.give (x::l)=gv m x fun m=>m.give l:=by
 unfold gv
 by_cases e:128<=m.stack.length
 ·rw[AI e]
  unfold Ht.M.give
  rw[AI<|by show 128<m.stack.length+(l.length+1);lia]
  rfl
 ·rw[AG e]
  by_cases e2:128<m.stack.length+(l.length+1)
  ·have a1:m.give (x::l)= .error Ht.FULL:=AI (show Ht.MOST<m.stack.length+(x::l).length from e2)
   have a2:Ht.M.give (Bs m<|Ht.cut x::m.stack) l= .error Ht.FULL:=AI<|show 128<(m.stack.length+1)+l.length by lia
   exact a1.trans a2.symm
  ·have a1:m.give (x::l)= .ok {m with stack:=((x::l).map Ht.cut).reverse++m.stack}:=AG (show ¬ Ht.MOST<m.stack.length+(x::l).length from e2)
   have a2:Ht.M.give (Bs m<|Ht.cut x::m.stack) l= .ok (Bs m<|(l.map Ht.cut).reverse++(Ht.cut x::m.stack)):=AG<|show ¬ 128<(m.stack.length+1)+l.length by lia
   refine a1.trans<|WE ?_ a2.symm
   simp
def vQ:gv m x (fun m=>m.give [])=gv m x .ok:=by
 unfold gv
 by_cases e:128<=m.stack.length
 ·rw[AI e,AI e]
 ·rw[AG e,AG e]
  exact(AG<|show ¬ 128<(m.stack.length+1)+0 by lia)
def Js:m.give [x]=gv m x .ok:=by rw[Ow,vQ]
def JZ:m.give [x,y]=gv m x fun m=>gv m y .ok:=by rw[Ow];simp only[Js]
def YN:m.give [x,y,u]=gv m x fun m=>gv m y fun m=>gv m u .ok:=by rw[Ow];simp only[JZ]
def Eh:Ht.on (Ht.below x n) F=wi x n F:=by
 unfold Ht.below wi
 by_cases e:Ht.unsigned x<n
 ·rw[AI e,AI e];rfl
 ·rw[AG e,AG e];rfl
def Cf:Ht.on (m.point k x) F=wi x (m.zone k).size F:=Eh
def Rg:Ht.on m.ref0 F=wi (rp m 0) (m.zone<|zp m 0).size F:=Eh
def WA:Ht.on m.ref1 F=wi (rp m 1) (m.zone<|zp m 0).size F:=Eh
def Vy:Ht.on m.ref2 F=wi (rp m 2) (m.zone<|zp m 1).size F:=Eh
def TJ:Ht.on (m.take n) F=uD m n fun m l=>F (l,m):=by
 unfold Ht.M.take uD
 by_cases e:m.stack.length<n
 ·rw[AI e,AI e];rfl
 ·rw[AG e,AG e];rfl
theorem o_(h: ∀ x m F,C x m F=Ht.on (B x m) F): ∀ l m F,Du C l m F=Ht.on (Ht.eachOne B l m) F
 | [],m,F=>rfl
 | x::l,m,F=>by
  show C x m (fun m=>Du C l m F)=Ht.on (Ht.on (B x m) fun y=>Ht.eachOne B l y) F
  rw[h]
  cases B x m with
  | error e=>rfl
  | ok a=>exact o_ h l a F
def wu{r:Ht.R Ht.M}:Ht.on r .ok=r:=by cases r<;>rfl
def oY(h: ∀ x m F,C x m F=Ht.on (B x m) F)(l:List Int)(m:Ht.M):Du C l m .ok=Ht.eachOne B l m:=(o_ h l m .ok).trans wu
def jW:Ht.on (wi x n F) G=wi x n fun i=>Ht.on (F i) G:=by
 unfold wi
 by_cases e:Ht.unsigned x<n
 ·rw[AI e,AI e]
 ·rw[AG e,AG e];rfl
def TY:Ht.loopPoints m 0 f=uB m fun m l=>Ht.on (f [] m) fun g=>Ht.eachOne g l m:=by
 unfold Ht.loopPoints uB Ht.M.take
 by_cases e:m.stack.length<m.loop
 ·rw[AI<|by lia,AI e];rfl
 ·rw[AG<|by lia,AG e]
  simp only[O6,List.take_zero,FH]
  rfl
end
section
variable{K:AS}{A:B3}{W W' W0:Hp}{g:B4}{v v':Var}{m m':Ht.M}{H H':Hp}{Q:VK}{E:XK}{z:Fx}{n:Nat}{r r':Ht.R Ht.M}
theorem iy(a ss:Nat): ∀(l:List Nat) n,l.foldl (fun n i=>let k:=n+2^(14-i);if(2*k-1)*(2*k-1)*ss<=32768*a*(32768*a)then k else n) n<=n+(l.map fun i=>2^(14-i)).sum
 | [],n=>by simp
 | i::l,n=>by
  rw[Ww,GY,List.sum_cons]
  refine CC (iy a ss l _) ?_
  dsimp only
  generalize 2^(14-i)=t
  split<;>lia
def mW(a ss:Nat):Ht.part a ss<=32767:=by
 refine CC (iy a ss (BO 15) 0) ?_
 decide
def uI(t:Nat)(c:Int)(h:t<=32767):(if c<0 then-(AD t)else AD t).natAbs<=32768:=by
 split
 ·rw[lY];exact CC h<|by decide
 ·exact CC h<|by decide
def fE(v:Ht.Pos):Sm (Ht.unit v):=by
 unfold Ht.unit Sm
 split
 ·decide
 ·exact⟨uI _ _<|mW _ _,uI _ _<|mW _ _⟩
def vO:Sm Ht.X:=by unfold Sm;decide
def wL:Sm Ht.Y:=by unfold Sm;decide
def AAw{X Y:Prop}(c:BX K A E z W v m H (if b=true then r1 else r2))(k1:b=true->BX K A E z W v m H r1->X)(k2: ¬ b=true->BX K A E z W v m H r2->Y):if b=true then X else Y:=by
 by_cases e:b=true
 ·rw[AI e];exact k1 e<|c.ifT e
 ·rw[AG e];exact k2 e<|c.ifF e
inductive jQ(K:AS)(A:B3)(vs:List V)(H:Hp)(Q':VK)(E:XK):Prop
 | mk: ∀ z W v m b F,vs= [.ref z.g.run,.bl b]->BX K A E z W v m H (gv m (bI b) F)->(∀ H',m.stack.length<128->BX K A E z W v (Bs m (Ht.cut (bI b)::m.stack)) H' (F (Bs m (Ht.cut (bI b)::m.stack)))->Q' .non H')->jQ K A vs H Q' E
noncomputable def eo(K:AS)(A:B3):Sp:=jQ K A
def LZ(c:BX K A E z W v m H (gv m (bI b) F))(k: ∀ H',m.stack.length<128->BX K A E z W v (Bs m<|Ht.cut (bI b)::m.stack) H' (F<|Bs m<|Ht.cut (bI b)::m.stack)->Q .non H'):eo K A [.ref z.g.run,.bl b] H Q E:=⟨z,W,v,m,b,F,rfl,c,k⟩
noncomputable def depth(m:Ht.M)(F:Ht.M->Int->Ht.R Ht.M):Ht.R Ht.M:=tk m fun m a=>if a<1 then .error 3 else if AD (iV m.stack.reverse).length<a then .error 3 else F m a
inductive ik(K:AS)(A:B3)(vs:List V)(H:Hp)(Q':VK)(E:XK):Prop
 | mk: ∀ z W v m F,vs= [.ref z.g.run]->BX K A E z W v m H (depth m F)->(∀ a s H',(1<=a/\a<=AD (iV s.reverse).length)->BX K A E z W v (Bs m (s)) H' (F (Bs m (s)) a)->Q' (.int (AD (iV s.reverse).length-a)) H')->ik K A vs H Q' E
noncomputable def dv(K:AS)(A:B3):Sp:=ik K A
def lq(c:BX K A E z W v m H (depth m F))(k: ∀ a s H',(1<=a/\a<=AD (iV s.reverse).length)->BX K A E z W v (Bs m<|s) H' (F (Bs m<|s) a)->Q (.int<|AD (iV s.reverse).length-a) H'):dv K A [.ref z.g.run] H Q E:=⟨z,W,v,m,F,rfl,c,k⟩
inductive ow(K:AS)(A:B3)(vs:List V)(H:Hp)(Q':VK)(E:XK):Prop
 | mk: ∀ z W v m r E' a x,vs= [.ref z.g.run,.ref a]->BX K A E' z W v m H r->Dd K W a (pV x)->Sm x->(∀ H',BX K A E' z W {v with tP:=a,tQ:=a} {m with P:=x,Q:=x} H' r->Q' .non H')->ow K A vs H Q' E
noncomputable def j2(K:AS)(A:B3):Sp:=ow K A
def fG(c:BX K A E z W v m H r)(t:Dd K W a (pV x))(s:Sm x)(k: ∀ H',BX K A E z W {v with tP:=a,tQ:=a} {m with P:=x,Q:=x} H' r->Q .non H'):j2 K A [.ref z.g.run,.ref a] H Q E':=⟨z,W,v,m,r,E,a,x,rfl,c,t,s,k⟩
def scl(h:Good K W g v m):(0<=AD m.dots/\AD m.dots<=1000)/\16<=AD m.units/\AD m.units<=16384:=by
 have h2:=h.units
 exact⟨⟨FP _,(Bf.mpr h.dots)⟩,(Bf.mpr h2.1),(Bf.mpr h2.2)⟩
def dh:(iV l).set j (.int x)=iV (l.set j x):=by
 unfold iV
 rw[List.map_set]
noncomputable def MJ(b x y:Int):Bool:=if b=80 then decide (x<y)else if b=81 then decide (x<=y)else if b=82 then decide (y<x)else if b=83 then decide (y<=x)else if b=84 then decide (V.int x=V.int y)else !decide (V.int x=V.int y)
def KI:decide (V.int x=V.int y)=decide (x=y):=by
 by_cases e:x=y
 ·subst e;simp
 ·simp[e]
def AAX:decide (V.bl x=V.bl y)=decide (x=y):=by
 by_cases e:x=y
 ·subst e;simp
 ·simp[e]
def sy{s:List Int}(h1:1<=n)(h2:n<=s.length):s.reverse.eraseIdx (s.length-n)=(s.eraseIdx<|n-1).reverse:=by
 rw[Vu,Vu,List.reverse_append,List.take_reverse,List.drop_reverse]
 congr 2
 ·congr 1;lia
 ·congr 1;lia
def tX:(iV s).eraseIdx n=iV (s.eraseIdx n):=by
 unfold iV
 rw[Vu,Vu,E6,mn,n9]
def mem_erase{s:List Int}(h:x∈s.eraseIdx n):x∈s:=List.mem_of_mem_eraseIdx h
def xW(h:k ∣ 4294967296)(hk:0<k):a%AD k=AD (Ht.unsigned a%k):=by
 unfold Ht.unsigned
 have h0:0<=a%4294967296:=bV _<|by decide
 obtain⟨n,hn⟩:=OY h0
 rw[hn]
 show a%(k:Int)=((n%k:Nat):Int)
 obtain⟨c,hc⟩:=h
 have e:a%(k:Int)=(a%4294967296)%(k:Int):=by
  rw[Int.emod_emod_of_dvd]
  exact⟨(c:Int),by have:=BL (fun x:Nat=>(x:Int)) hc;simpa using this⟩
 rw[e,hn]
 exact(Int.natCast_emod n k).symm
def ABj(h:0<=a): ∃ n,a=AD n:=OY h
def Wr(x:Int):(Ht.half x).natAbs<2^40:=by
 unfold Ht.half
 have:(2:Nat)^40=1099511627776:=by decide
 rw[this]
 lia
end
section
variable{K:AS}{A:B3}{W W' W0:Hp}{g:B4}{v v':Var}{m m':Ht.M}{H H':Hp}{Q:VK}{E E':XK}{z:Fx}{n:Nat}{r r':Ht.R Ht.M}{y i y' i' k p:Nat}{d:Int}{w:Ht.Pos}{t:Bool}
def FZ{o n:Ht.Pos}:(Cd m k p o n q).steps=m.steps:=by unfold Cd Ht.M.setZone;split<;>rfl
def EY{o n:Ht.Pos}:(Cd m k p o n q).inFont=m.inFont:=by unfold Cd Ht.M.setZone;split<;>rfl
def aR:(m.setZone k q).steps=m.steps:=by unfold Ht.M.setZone;split<;>rfl
def YG:(m.setZone k q).inFont=m.inFont:=by unfold Ht.M.setZone;split<;>rfl
def Q4(hk:k<2)(hy:y<2):((m.shift t k p w).zone y).size=(m.zone y).size:=by rw[Y9 t hk];exact Fh hk hy
def aC(hk:k<2)(hy:y<2):((m.move k p d).zone y).size=(m.zone y).size:=Q4 hk hy
def XR(hk:k<2)(hy:y<2):((m.put k p w).zone y).size=(m.zone y).size:=by rw[wb];exact Fh hk hy
def Z_(hk:k<2)(hy:y<2):((m.mark k p f).zone y).size=(m.zone y).size:=by rw[Wg];exact Fh hk hy
noncomputable def NI(m:Ht.M):Int:=if m.F.1=0 then(if m.F.2=0 then 0 else 4)else(if m.F.2=0 then 2 else 6)
inductive lA(K:AS)(A:B3)(vs:List V)(H:Hp)(Q:VK)(E:XK):Prop
 | mk: ∀ W g v m y i,vs= [.ref g.run,.ref (g.pp y i)]->R K A W g v m H->y<2->i<(m.zone y).size->Q (.int (m.now1 y i)) H->lA K A vs H Q E
inductive jy(K:AS)(A:B3)(vs:List V)(H:Hp)(Q:VK)(E:XK):Prop
 | mk: ∀ W g v m y i,vs= [.ref g.run,.ref (g.pp y i)]->R K A W g v m H->y<2->i<(m.zone y).size->Q (.int (m.old1 y i)) H->jy K A vs H Q E
inductive lB(K:AS)(A:B3)(vs:List V)(H:Hp)(Q:VK)(E:XK):Prop
 | mk: ∀ W g v m y i y' i',vs= [.ref g.run,.ref (g.pp y i),.ref (g.pp y' i')]->R K A W g v m H->(y<2/\i<(m.zone y).size)->(y'<2/\i'<(m.zone y').size)->(∀ H',R K A W g v m H'->Q (.int (m.now2 y i y' i')) H')->lB K A vs H Q E
inductive kb(K:AS)(A:B3)(vs:List V)(H:Hp)(Q:VK)(E:XK):Prop
 | mk: ∀ W g v m y i y' i',vs= [.ref g.run,.ref (g.pp y i),.ref (g.pp y' i')]->R K A W g v m H->(y<2/\i<(m.zone y).size)->(y'<2/\i'<(m.zone y').size)->(∀ H',R K A W g v m H'->Q (.int (m.old2 y i y' i')) H')->kb K A vs H Q E
inductive Wk(K:AS)(A:B3)(vs:List V)(H:Hp)(Q:VK)(E:XK):Prop
 | mk: ∀ W g v m d,vs= [.ref g.run,.int d]->R K A W g v m H->(∀ a H',W a=none->R K A (upd W a (.tup (pV (m.way_ d)))) g v m H'->Q (.ref a) H')->Wk K A vs H Q E
inductive bg(K:AS)(A:B3)(vs:List V)(H:Hp)(Q:VK)(E:XK):Prop
 | mk: ∀ W g v m,vs= [.ref g.run]->R K A W g v m H->Q (.int (NI m)) H->bg K A vs H Q E
inductive gJ(K:AS)(A:B3)(vs:List V)(H:Hp)(Q:VK)(E:XK):Prop
 | mk: ∀ W g v m y i a w,vs= [.ref g.run,.ref (g.pp y i),.ref a]->R K A W g v m H->(y<2/\i<(m.zone y).size)->Dd K W a (pV w)->(∀ v' H',R K A W g v' (m.shift true y i w) H'->Q .non H')->gJ K A vs H Q E
inductive eM(K:AS)(A:B3)(vs:List V)(H:Hp)(Q:VK)(E:XK):Prop
 | mk: ∀ W g v m y i d,vs= [.ref g.run,.ref (g.pp y i),.int d]->R K A W g v m H->(y<2/\i<(m.zone y).size)->(∀ W' v' H',Bc W W'->R K A W' g v' (m.move y i d) H'->Q .non H')->eM K A vs H Q E
def X6(c:BX K A E z W v m H r)(hy:y<2)(hi:i<(m.zone y).size)(k:Q (.int<|m.now1 y i) H):lA K A [.ref z.g.run,.ref<|z.g.pp y i] H Q E':=⟨W,z.g,v,m,y,i,rfl,c.h,hy,hi,k⟩
def ACV(c:BX K A E z W v m H r)(hy:y<2)(hi:i<(m.zone y).size)(k:Q (.int<|m.old1 y i) H):jy K A [.ref z.g.run,.ref<|z.g.pp y i] H Q E':=⟨W,z.g,v,m,y,i,rfl,c.h,hy,hi,k⟩
def Lz(c:BX K A E z W v m H r)(hy:y<2)(hi:i<(m.zone y).size)(hy':y'<2)(hi':i'<(m.zone y').size)(k: ∀ H',BX K A E z W v m H' r->Q (.int<|m.now2 y i y' i') H'):lB K A [.ref z.g.run,.ref<|z.g.pp y i,.ref<|z.g.pp y' i'] H Q E':=
 ⟨W,z.g,v,m,y,i,y',i',rfl,c.h,⟨hy,hi⟩,⟨hy',hi'⟩,fun H' h=>k H'<|c.go same_refl h⟩
def Tz(c:BX K A E z W v m H r)(hy:y<2)(hi:i<(m.zone y).size)(hy':y'<2)(hi':i'<(m.zone y').size)(k: ∀ H',BX K A E z W v m H' r->Q (.int<|m.old2 y i y' i') H'):kb K A [.ref z.g.run,.ref<|z.g.pp y i,.ref<|z.g.pp y' i'] H Q E':=
 ⟨W,z.g,v,m,y,i,y',i',rfl,c.h,⟨hy,hi⟩,⟨hy',hi'⟩,fun H' h=>k H'<|c.go same_refl h⟩
def wy(c:BX K A E z W v m H r)(k: ∀ a H',W a=none->BX K A E z (upd W a<|.tup<|pV<|m.way_ d) v m H' r->Q (.ref a) H'):Wk K A [.ref z.g.run,.int d] H Q E':=
 ⟨W,z.g,v,m,d,rfl,c.h,fun a H' f h=>k a H' f<|c.go (Bd f) h⟩
def AB4(c:BX K A E z W v m H r)(k:Q (.int<|NI m) H):bg K A [.ref z.g.run] H Q E':=⟨W,z.g,v,m,rfl,c.h,k⟩
def AEl(c:BX K A E z W v m H r)(hy:y<2)(hi:i<(m.zone y).size)(t:Dd K W a (pV w))(k: ∀ v' H',BX K A E z W v' (m.shift true y i w) H' r->Q .non H'):gJ K A [.ref z.g.run,.ref<|z.g.pp y i,.ref a] H Q E':=
 ⟨W,z.g,v,m,y,i,a,w,rfl,c.h,⟨hy,hi⟩,t,fun v' H' h=>k v' H'<|c.go same_refl h aR YG⟩
def ABr(c:BX K A E z W v m H r)(hy:y<2)(hi:i<(m.zone y).size)(k: ∀ W' v' H',Bc W W'->BX K A E z W' v' (m.move y i d) H' r->Q .non H'):eM K A [.ref z.g.run,.ref<|z.g.pp y i,.int d] H Q E':=
 ⟨W,z.g,v,m,y,i,d,rfl,c.h,⟨hy,hi⟩,fun W' v' H' s h=>k W' v' H' s<|c.go s h aR YG⟩
def k6(h:x<8):m.touched x<8:=by
 unfold Ht.M.touched Ht.give Ht.has Ht.INX Ht.INY
 have:=xh<|by assumption
 rcases this with rfl | rfl | rfl | rfl | rfl | rfl | rfl | rfl<;>by_cases a:m.F.1=0<;>by_cases b:m.F.2=0<;>simp[a,b]
def eW(h:x<8):m.untouched x<8:=by
 unfold Ht.M.untouched Ht.lose Ht.has Ht.INX Ht.INY
 have:=xh<|by assumption
 rcases this with rfl | rfl | rfl | rfl | rfl | rfl | rfl | rfl<;>by_cases a:m.F.1=0<;>by_cases b:m.F.2=0<;>simp[a,b]
end
end GF
end
section
namespace GF
open PySem PySem.Spec PyProof.Rows L2
variable{P:BH}{w:Ao}{K:AS}{mg:Str->Option AN}{base:Az}{A:B3}[T:Txt K mg A]
def Al:(DV g v m).lookup ("take":Str)=none:=rfl
def NX:(DV g v m).lookup ("take_many":Str)=none:=rfl
def Hn:(DV g v m).lookup ("take_loop":Str)=none:=rfl
def B2:(DV g v m).lookup ("give":Str)=none:=rfl
def B_:(DV g v m).lookup ("round_number":Str)=none:=rfl
def uz:(DV g v m).lookup ("zone":Str)=none:=rfl
def Mr:(DV g v m).lookup ("point_of_zone":Str)=none:=rfl
def B5:(DV g v m).lookup ("point":Str)=none:=rfl
def DF:(DV g v m).lookup ("reference":Str)=none:=rfl
def Bq:(iV l).length=l.length:=A8 ..
def Nb:iV (a::s).reverse=iV s.reverse++ [V.int a]:=by simp[iV]
def iF:(iV (a::s).reverse)[(iV (a::s).reverse).length-1]?=some (.int a):=by
 rw[Nb]
 simp
def gZ:(iV (a::s).reverse).dropLast=iV s.reverse:=by
 rw[Nb]
 exact l_
def AM :OF P w base 3 18 ["self"] (eO K A):=by
 refine T.AZ.F.Vm ["self"] @fun _ _ _ s H vs Q E hr h=>?_
 obtain⟨W,g,v,m,rfl,h,he,k⟩:=h
 refine⟨_,(AB (Aq (A0 BD (Dc T.k.CD<|Af<|AR AH) AE) (AF<|CJ T.c.fault BK (hr.mono<|by decide) outF rfl<|Af AE) AX)<|AF<|AY<|cy FG Ws Wi kz<|AR AH),h.run,AL,FI,.inl<|BF.of h.C1,rfl,A7 (fun e=>?_) fun e=>?_⟩
 ·have e':m.stack= []:=by
   have q:=V.int.inj<|An e
   rw[Bq,Ei]at q
   exact List.eq_nil_of_length_eq_zero<|by lia
  exact⟨_,rfl,(he e').ex h⟩
 ·cases e':m.stack with
  | nil=>exact absurd (by rw[e'];rfl) e
  | cons a s=>
   have hs:=h.C1
   rw[e']at hs
   refine⟨h.run,AL,FI,.inl ⟨rfl,_,BF.of hs⟩,_,_,_,rfl,rfl,hs,iF,?_⟩
   rw[gZ]
   have b:=h.good.st
   have i:=h.good.sti
   rw[e']at b i
   exact k a s _ e' (i a<|Dx ..)<|h.setStack (MA b) fun x hx=>i x<|Cz _ hx
def A1 :OF P w base 3 21 ["self","number"] (fU K A):=by
 refine T.BW.F.Vm ["self","number"] fun H vs Q E hr h=>?_
 obtain⟨W,g,v,m,x,rfl,h,he,k⟩:=h
 refine⟨_,(AB (Aq (A0 BD (Dc T.k.CD<|Af<|AR AH)<|Bt T.k.ZF) (AF<|CJ T.c.fault BK (hr.mono<|by decide) outF rfl<|Af AE) AX)<|AF<|Ad<|VC FG TN SQ LD (AR AH)<|Af<|Ah Dv T.cut<|Af AV),h.run,AL,FI,.inl<|BF.of h.C1,rfl,A7 (fun e=>?_) fun e=>?_⟩
 ·have e':m.stack.length=128:=by
   have q:=V.int.inj<|An e
   rw[Bq,Ei]at q
   lia
  exact⟨_,rfl,(he e').ex h⟩
 ·have e':m.stack.length<128:=by
   have q: ¬(((iV m.stack.reverse).length:Int)=128):=fun z=>Ey (Er.mpr e)<|BL V.int z
   rw[Bq,Ei]at q
   have:=h.good.st
   lia
  refine⟨h.run,AL,FI,.inl ⟨rfl,_,BF.of h.C1⟩,_,rfl,trivial,h.C1,(by rw[Bq,Ei];exact HV e'<|by decide),?_⟩
  rw[<-Nb]
  refine k _ e'<|h.setStack e' fun y hy=>?_
  rcases Ce.mp hy with q | q
  ·exact q▸Dk x
  ·exact h.good.sti y q
def Ff(x:Int):x%4294967296=AD (Ht.unsigned x):=by
 unfold Ht.unsigned
 have h:0<=x%4294967296:=bV _<|by decide
 exact(Lu h).symm
def Ck :OF P w base 3 27 ["number","count"] SU:=by
 refine T.within.F.Vm ["number","count"] fun H vs Q E hr h=>?_
 obtain⟨x,cc,rfl,he,k⟩:=h
 refine⟨_,(AB (Aq (A0 U_ (Ah FN T.Gh<|Af AH) AV) (AF<|CJ T.c.fault BK (hr.mono<|by decide) outF rfl<|Af AE) AX)<|AF<|AY<|Ah FN T.Gh<|Af AH),_,rfl,trivial,A7 (fun e=>?_) fun e=>?_⟩
 ·have e':=An e
  rw[Ff]at e'
  exact⟨_,rfl,he<|Bf.mp e'⟩
 ·have e':=Ey (Er.mpr e)
  rw[Ff]at e'
  refine⟨_,rfl,trivial,?_⟩
  rw[Ff]
  exact k<|ee fun z=>e'<|Bf.mpr z
def Uw :O0 P w base 1 23 ["self","number"] (cK K A):=by
 refine T.XI.F.DQ ["self","number"] fun H vs Q E hr h=>?_
 obtain⟨W,g,v,m,z,rfl,h,hz,k⟩:=h
 refine⟨_,(AB (Aq (A0 BD AV AE) (AF<|AY<|AR<|AR AH) AX)<|AF<|AY<|AR<|AR AH),rfl,A7 (fun e=>?_) fun e=>?_⟩
 ·have e':z=0:=by have q:=V.int.inj<|An e;exact B7 q
  subst e'
  exact⟨h.run,AL,A_,h.gr,AW,gN,k⟩
 ·have e':z=1:=by
   have:z≠0:=fun y=>e<|by rw[y];rfl
   lia
  subst e'
  exact⟨h.run,AL,A_,h.gr,AW,G_,k⟩
def Kk{l:List V}{j:Nat}{x:V}(h:l[j]?=some x):XA l (AD j)=some x:=Em h
def Z4{g:B4}(h:i<n):((BO n).map fun i=>V.ref<|g.pp z i)[i]?=some (.ref<|g.pp z i):=by
 rw[CZ,Gq h]
 rfl
def jx{g:B4}:(((BO n).map fun i=>V.ref<|g.pp z i).length:Int)=AD n:=by
 rw[A8,CO]
 rfl
def Hs :OF P w base 4 24 ["self","zone_number","number"] (px K A):=by
 refine T.GP.F.Vm ["self","zone_number","number","zone"] fun H vs Q E hr h=>?_
 obtain⟨W,g,v,m,x,z,rfl,h,hz,he,k⟩:=h
 refine⟨_,(AB (AO 3<|Be AH Uw T.XI<|Af AV)<|AF<|AY<|A9 Ab A6<|Ah Ck T.within<|Ax Aj<|Dc T.k.CD<|Af A6),h.run,uz,hV h hz<|⟨.inl<|BF.of<|h.zl hz,?_⟩⟩
 rw[jx]
 exact Y7 (fun e=>(he e).ex h) fun e=>⟨BF.of<|h.zl hz,Kk<|Z4 e,k e⟩
def vR(h:p<3):XA [V.int<|AD m.z0,.int<|AD m.z1,.int<|AD m.z2] (AD p)=some (.int<|AD<|zp m p):=by
 rcases p with _ | _ | _ | p
 ·rfl
 ·rfl
 ·rfl
 ·lia
def uN(h:p<3):XA [V.int m.r0,.int m.r1,.int m.r2] (AD p)=some (.int<|rp m p):=by
 rcases p with _ | _ | _ | p
 ·rfl
 ·rfl
 ·rfl
 ·lia
def A5 :OF P w base 5 25 ["self","pointer","number"] (Wc K A):=by
 refine T.BV.F.Vm ["self","pointer","number"] fun H vs Q E hr h=>?_
 obtain⟨W,g,v,m,x,p,rfl,h,hp,he,k⟩:=h
 exact⟨_,(AF<|AY<|Be AH Hs T.GP<|Ax (A9 Ab (AR AH) AV) Aj),h.run,Mr,h.run,AL,C8,BF.of h.Bj,vR hp,mq h (Ci h.good p) he k⟩
def CM :OF P w base 6 26 ["self","which","pointer"] (Wj K A):=by
 refine T.Cv.F.Vm ["self","which","pointer"] fun H vs Q E hr h=>?_
 obtain⟨W,g,v,m,r,p,rfl,h,hr',hp,he,k⟩:=h
 exact⟨_,(AF<|AY<|Be AH A5 T.BV<|Ax Aj<|A9 Ab (AR AH) AV),h.run,B5,h.run,AL,CK,BF.of h.refs,uN hr',aS h hp he k⟩
def AA5(b k:Nat):BN (AD b) (AD k)=AD (b/k):=by
 show BN (b:Int) (k:Int)=_
 rw[GD _<|FP k]
 rfl
def ABk(w b:Nat)(hw:w=6\/w=7):CU (AD w) (AD b)=(if b/64%4=0 then Ht.down (if w=6 then 16384 else 11585) 2 else if b/64%4=2 then 2*(if w=6 then 16384 else 11585)else if w=6 then 16384 else 11585):=by
 unfold CU Ht.down
 have e1:BN (AD b) 64%4=AD (b/64%4):=by rw[show(64:Int)=AD 64 from rfl,AA5];rfl
 rw[e1]
 generalize b/64%4=q
 have e2:(AD q=0)=(q=0):=MI ⟨fun h=>B7 h,fun h=>by rw[h];rfl⟩
 have e3:(AD q=2)=(q=2):=MI ⟨fun h=>B7 h,fun h=>by rw[h];rfl⟩
 have e4:(AD w=6)=(w=6):=MI ⟨fun h=>B7 h,fun h=>by rw[h];rfl⟩
 simp only[e2,e3,e4]
def ACR(p:Int)(b:Nat):OZ p (AD b)=(if b%16=0 then Ht.down (p-1) 256 else Ht.down (Ht.down (p*(AD (b%16)-4)) 8) 256):=by
 unfold OZ Ht.down
 have e1:AD b%16=AD (b%16):=rfl
 rw[e1]
 generalize b%16=q
 have e2:(AD q=0)=(q=0):=MI ⟨fun h=>B7 h,fun h=>by rw[h];rfl⟩
 simp only[e2]
def AAZ(w b:Nat)(hw:w=6\/w=7)(d:Int):Pa (AD w) (AD b) d=Ht.roundedSize w b d:=by
 unfold Pa c8 Ht.roundedSize
 have e1:BN (AD b) 16%4=AD (b/16%4):=by rw[show(16:Int)=AD 16 from rfl,AA5];rfl
 rw[ABk w b hw,ACR,e1]
 rcases hw with rfl | rfl
 ·rfl
 ·rfl
def size_eq(w b:Nat)(hw:w<=7)(d:Int):gh (AD w) (AD b) d=Ht.roundedSize w b d:=by
 have:=xh (x:=w)<|by lia
 rcases this with rfl | rfl | rfl | rfl | rfl | rfl | rfl | rfl
 ·rfl
 ·rfl
 ·rfl
 ·rfl
 ·rfl
 ·rfl
 ·exact AAZ 6 b (.inl rfl) d
 ·exact AAZ 7 b (.inr rfl) d
def Y0(w b:Nat)(hw:w<=7)(d:Int):UP (AD w) (AD b) d=Ht.rounded w b d:=by
 unfold UP Ht.rounded
 rw[size_eq w b hw]
 by_cases h:d<0
 ·simp only[AI h]
 ·simp only[AG h]
def Cb :O0 P w base 5 22 ["self","number"] (RU K A):=by
 refine T.Cj.F.DQ ["self","number"] fun H vs Q E hr h=>?_
 obtain⟨W,g,v,m,x,rfl,h,k⟩:=h
 refine⟨_,(AF<|AY<|Ah Ys T.rounded<|CH (AR AH) (AR AH) AV),h.run,AL,ka,h.run,AL,VS,_,_,_,rfl,trivial,?_⟩
 rw[Y0 _ _ h.good.way]
 exact k
structure RL(K:AS)(A:B3)(W:Hp)(g:B4)(v:Var)(m:Ht.M)(H:Hp)(l:AK)(o:HO):Prop where
 r:R K A W g v m H
 at_:H l=some o
 w:W l=none
 ne: ∀ t a o',want A g v m t=some (a,o')->a≠l
section
variable{W:Hp}{g:B4}{v:Var}{m:Ht.M}{H:Hp}{l:AK}{o o':HO}
def RL.kQ(h:R K A W g v m H)(f:H l=none):RL K A W g v m (upd H l o) l o:=⟨h.new f,AJ,h.free f,fun t a o' e z=>by rw[z]at e;rw[h.at_ e]at f;cases f⟩
def RL.ACg(h:RL K A W g v m H l o):RL K A W g v m (upd H l o') l o':=by
 refine⟨h.r.core (fun _=>none) (fun t a o e=>⟨by rw[AQ<|h.ne t a o e];exact h.r.at_ e,.inr ⟨rfl,_,e⟩⟩) (fun a o e=>?_) h.r.good,AJ,h.w,h.ne⟩
 ·have n:a≠l:=fun z=>by rw[z,h.w]at e;cases e
  exact⟨by rw[AQ n];exact h.r.sub _ _ e,.inr ⟨rfl,_,e⟩⟩
def RL.ko(h:RL K A W g v m H l o):R K A (upd W l o) g v m H:=by
 refine h.r.core (fun b=>if b=l then some .rest else none) (fun t a o e=>⟨h.r.at_ e,.inr ⟨AG<|h.ne t a o e,_,e⟩⟩) (fun a oa e=>?_)<|h.r.good.mono<|Bd h.w
 ·by_cases n:a=l
  ·subst n
   rw[AJ]at e
   cases e
   exact⟨h.at_,.inl<|AI rfl⟩
  ·rw[AQ n]at e
   exact⟨h.r.sub _ _ e,.inr ⟨AG n,_,e⟩⟩
def RL.setStack(h:RL K A W g v m H l o)(hl:s.length<=128)(hi: ∀ x∈s,FE x):RL K A W g v (Bs m<|s) (upd H g.C1<|.lst<|iV s.reverse) l o:=by
 have n:=h.ne .C1 _ _ rfl
 refine⟨h.r.setStack hl hi,by rw[AQ n.symm];exact h.at_,h.w,fun t a o' e=>?_⟩
 by_cases ht:t= .C1
 ·subst ht;cases e;exact n
 ·have s:want A g v (Bs m<|s) t=want A g v m t:=by cases t<;>first | rfl | exact absurd rfl ht
  rw[s]at e
  exact h.ne t a o' e
end
def take_snoc{s:List Int}(e:s.drop i=a::r):s.take (i+1)=s.take i++ [a]:=by
 rw[pM]
 have h:s[i]?=some a:=by
  have q:=BL (fun l:List Int=>l[0]?) e
  simpa using q
 rw[h]
 rfl
def sd{s:List Int}(e:s.drop i=a::r):s.drop (i+1)=r:=by
 rw[<-FD,e]
 rfl
def aG:iV (a++b)=iV a++iV b:=E6
noncomputable def gQ(H:Hp)(l:AK):Nat:=match H l with
 | some (.lst xs)=>xs.length
 | _=>0
def G6 :OF P w base 3 19 ["self","count"] (MZ K A):=by
 refine T.HL.F.Vm ["self","count","taken"] @fun _ _ _ s H vs Q E hr h=>?_
 obtain⟨W,g,v,m,n,rfl,h,he,k⟩:=h
 refine⟨_,(AB (Aq (A0 DE AV<|Dc T.k.CD<|Af<|AR AH) (AF<|CJ T.c.fault BK (hr.mono<|by decide) outF rfl<|Af AE) AX)<|AB (AO 2<|Ba Es)<|AB (JO PassesOwn.leaving (A0 Dn (Dc T.k.CD<|Af Aj) AV)<|AF<|Ad<|VC FG TN SQ LD Aj<|Af<|cy FG Ws Wi kz<|AR AH)<|AF<|AY Aj),h.run,AL,FI,.inl<|BF.of h.C1,A7 (fun e=>?_) fun e=>?_⟩
 ·have e':=An e
  rw[Bq,Ei]at e'
  exact⟨_,rfl,(he<|BQ.mp e').ex h⟩
 ·have e':=Ey (Er.mpr e)
  rw[Bq,Ei]at e'
  have e2:=Ec fun z=>e'<|BQ.mpr z
  refine⟨by decide,fun l hl=>?_⟩
  have h0:RL K A W g v (Bs m<|m.stack.drop 0) (upd H l<|.lst []) l (.lst<|iV<|m.stack.take 0):=RL.kQ h hl
  refine Nm (fun σ H'=> ∃ i,i<=n/\σ= [some<|.ref g.run,some<|.int<|AD n,some<|.ref l]/\RL K A W g v (Bs m<|m.stack.drop i) H' l (.lst<|iV<|m.stack.take i)) (fun σ H'=>n-gQ H' l) ⟨0,B6 _,rfl,h0⟩ ?_ fun σ H1 Q1 Q2 hq h=>Je.mono h fun x h=>QK.mono h fun p ⟨e,h⟩=>⟨e,Je.mono h fun y h=>RI.mono h fun i h=>RI.mono h fun j h=>hq _ _ h⟩
  ·rintro σ H1 ⟨i,hi,rfl,hL⟩
   have hl1:(iV<|m.stack.take i).length=i:=by rw[Bq,HN];lia
   refine⟨.inl<|BF.of hL.at_,A7 (fun e=>?_) fun e=>?_⟩
   ·have ei:i<n:=by
     have q:=An e
     rw[hl1]at q
     exact BQ.mp q
    cases ed:m.stack.drop i with
    | nil=>have q:=BL WL ed;rw[G3]at q;simp at q;lia
    | cons a s=>
     have hs:=hL.r.C1
     rw[show((Bs m<|m.stack.drop i):Ht.M).stack=a::s from ed]at hs
     have b1:=hL.r.good.st
     have b2:=hL.r.good.sti
     rw[ed]at b1 b2
     have hN:=(hL.setStack (MA b1) fun x hx=>b2 x<|Cz _ hx)
     refine⟨.inl ⟨rfl,_,BF.of hL.at_⟩,hL.r.run,AL,FI,.inl ⟨rfl,_,BF.of hs⟩,_,_,_,rfl,rfl,hs,iF,?_⟩
     rw[gZ]
     refine⟨hN.at_,(by rw[hl1];exact HV ei<|Ez e2<|Ez h.good.st<|by decide),?_⟩
     have hF:=hN.ACg (o':= .lst<|iV<|m.stack.take<|i+1)
     rw[take_snoc ed,aG]at hF
     refine⟨⟨i+1,ei,rfl,?_⟩,?_⟩
     ·rw[take_snoc ed,aG,sd ed]
      exact hF
     ·have c1:gQ H1 l=i:=by unfold gQ;rw[hL.at_];exact hl1
      have c2:gQ (upd (upd H1 g.C1<|.lst<|iV s.reverse) l<|.lst<|iV (m.stack.take i)++ [V.int a]) l=i+1:=by unfold gQ;rw[AJ];show(iV (m.stack.take i)++ [V.int a]).length=i+1;rw[E5,hl1];rfl
      rw[c1,c2]
      lia
   ·have ei:i=n:=by
     have q:=Ey<|Er.mpr e
     rw[hl1]at q
     have:=fun z=>q<|BQ.mpr z
     exact qA hi<|Ec this
    subst ei
    exact k l H1 e2 hL.w hL.ko
def D8 :OF P w base 4 20 ["self"] (L4 K A):=by
 refine T.EL.F.Vm ["self","numbers"] fun H vs Q E hr h=>?_
 obtain⟨W,g,v,m,rfl,h,he,k⟩:=h
 exact⟨_,(AB (AO 1<|Be AH G6 T.HL<|Af<|AR AH)<|AB (BC AH AE)<|AF<|AY AV),h.run,NX,h.run,AL,ABn,gz h he fun l H1 e f h1=>⟨h1.run,AL,(B8 rfl),k l _ e f<|h1.setLoop 1<|by decide⟩⟩
end GF
end
section
namespace GF
open PySem PySem.Spec PyProof.Rows L2
noncomputable def KD(P:BH)(w:Ao)(K:AS)(a:AK)(BU:List (Key×V)):Prop:=(a==G5)=false/\ ∃ vs,KV BU vs/\ ∀ h,K.In h->h.DictOf (DW P w) a vs
noncomputable def ADj(P:BH)(w:Ao)(K:AS)(td ty:TE):TE:=fun σ H Q=>td σ H fun x H1=>ty σ H1 fun y H2=> ∃ a BU k v,x= .ref a/\KD P w K a BU/\y=kV k/\E1 BU k=some v/\Q v H2
noncomputable def lG(P:BH)(w:Ao)(K:AS)(td ty:TE):TE:=fun σ H Q=>td σ H fun x H1=> ∃ a BU,x= .ref a/\KD P w K a BU/\ty σ H1 fun y H2=> ∃ k,y=kV k/\Q ((E1 BU k).getD .non) H2
section
variable{X:Cx}{o i e:Expr}{pos apos cpos:Pos}{td ty:TE}
def eU(ho:PE X o td)(hi:PE X i ty)(hs:AD9 i):PE X (.Subscript o i pos) (ADj X.prog X.w X.K td ty):=by
 intro pins s σ H Q I h
 refine xr PySem.F.slot_dict_getitem.lookup hs<|HI (ho pins s σ H _ I h) fun u s1 x H1 I1 rx q1=>HI (hi pins s1 σ H1 _ I1 q1) fun iv s2 y H2 I2 ry q_=>?_
 obtain⟨a,BU,k,v,ex,kd,ey,l,q2⟩:=q_
 subst ex ey
 obtain rfl:u=CY a:=rx
 obtain⟨hd,vs,rel,dd⟩:=kd
 have dd:=dd _ I2.QQ
 obtain⟨w',hw,rw'⟩:=Pk.some_of<|by rw[<-l];exact rel.val k
 exact⟨dd.typeIs,wpAny_getItem_of (gU ry) dd.mapOf hw ⟨v,H2,I2.tok _,rw',q2⟩⟩
def N8(ho:PE X o td)(he:PE X e ty)(m:M1 X o "get" apos e cpos):PE X (.Call (.Attribute o "get" apos) [e] [] cpos) (lG X.prog X.w X.K td ty):=by
 intro pins s σ H Q I h
 refine nV m.base m.ZA m.line pU Se nM<|HI (ho pins s σ H _ I h) fun u s1 x H1 I1 rx q_=>?_
 obtain⟨a,BU,ex,kd,q1⟩:=q_
 subst ex
 obtain rfl:u=CY a:=rx
 obtain⟨hd,vs,rel,dds⟩:=kd
 have d1:=dds _ I1.QQ
 obtain⟨ob,_,_,h1,h2,_⟩:=d1
 refine⟨(dds _ I1.QQ).typeIs,fun b q=>by cases q;exact⟨ob,h1,h2.2.1⟩,?_⟩
 rw[m.trees]
 refine XE rfl<|dD<|fC<|HI (he pins s1 σ H1 _ I1 q1) fun iv s2 y H2 I2 ry ⟨k,ey,q2⟩=>cQ ?_
 subst ey
 have dd:=dds _ I2.QQ
 refine e_ Se dd.typeIs dj (ff _ _) (nY (DW X.prog X.w) a (gU ry) hd) ⟨_,dd.mapOf,_,H2,I2.tok _,(rel.val k).getD<|show L2.RelV V.non Rt from rfl,q2⟩
end
end GF
end
section
namespace GF
open PySem PySem.Spec PyProof.Rows L2
variable{P:BH}{w:Ao}{K:AS}{mg:Str->Option AN}{base:Az}{A:B3}[T:Txt K mg A]
def vZ(h:j<(iV l).length):XA (iV l) (AD j)=some (.int<|l.getD j 0):=by
 rw[Bq]at h
 refine Em ?_
 unfold iV
 rw[CZ,CQ h,Cc,CQ h]
 rfl
def ixn(h:j<n):uA n (AD j)=some j:=by
 unfold uA
 rw[AI<|show(0:Int)<=AD j from FP j,AI<|show AD j<(n:Int)from BQ.mpr h]
 rfl
def gH{s:List Int}(h:1<=a/\a<=AD (iV s.reverse).length):AD (iV s.reverse).length-a=AD (s.length-a.toNat)/\s.length-a.toNat<s.length/\s.length-1- (s.length-a.toNat)=a.toNat-1:=by
 have e:(iV s.reverse).length=s.length:=by rw[Bq,Ei]
 rw[e]at h ⊢
 have h1:a=AD a.toNat:=(Lu<|by lia).symm
 have h2:a.toNat<=s.length:=by
  have:=h.2
  rw[h1]at this
  exact Bf.mp this
 have h3:1<=a.toNat:=by lia
 refine⟨?_,by lia,by lia⟩
 lia
def xS{s:List Int}(h:1<=a/\a<=AD (iV s.reverse).length):(iV s.reverse)[s.length-a.toNat]?=some (.int<|s.getD (a.toNat-1) 0):=by
 obtain⟨h1,h2,h3⟩:=gH h
 unfold iV
 rw[CZ,mF h2,h3,Cc,CQ<|by lia]
 rfl
def AFm{s:List Int}(h:1<=a/\a<=AD (iV s.reverse).length):XA (iV s.reverse) (AD (iV s.reverse).length-a)=some (.int<|s.getD (a.toNat-1) 0):=by
 rw[(gH h).1]
 exact Em<|xS h
def yS{s:List Int}(h:1<=a/\a<=AD (iV s.reverse).length):WX (AD (iV s.reverse).length-a) (iV s.reverse).length=some (s.length-a.toNat):=by
 rw[(gH h).1]
 exact(fg<|ixn<|by rw[Bq,Ei];exact(gH h).2.1).1
def ABJ{s:List Int}(h:1<=a/\a<=AD (iV s.reverse).length): -(2^63)<=AD (iV s.reverse).length-a:=by
 rw[(gH h).1]
 exact Int.le_trans (by decide)<|FP _
def ABC{s:List Int}(h:1<=a/\a<=AD (iV s.reverse).length)(b:s.length<=128):AD (iV s.reverse).length-a<2^63:=by
 rw[Bq,Ei]
 have:=Bf.mpr b
 lia
def tG{s:List Int}(h:1<=a/\a<=AD (iV s.reverse).length):(iV s.reverse).eraseIdx (s.length-a.toNat)=iV (s.eraseIdx<|a.toNat-1).reverse:=by
 have e:(iV s.reverse).length=s.length:=by rw[Bq,Ei]
 rw[tX,sy (by lia) (by
  have:=h.2
  rw[e]at this
  have q:a=AD a.toNat:=(Lu<|by lia).symm
  rw[q]at this
  exact Bf.mp this)]
def E3 :OF P w base 4 122 ["run","truth"] (eo K A):=by
 refine T.Gw.F.Vm ["run","truth"] fun H vs Q E hr h=>?_
 unfold eo at h
 obtain⟨z,W,v,m,b,F,rfl,c,k⟩:=h
 refine⟨_,(AF<|Ad<|Be AH A1 T.BW<|Af<|Bn (MV AV) AE AE),c.rn,B2,?_⟩
 cases b
 ·exact(Bp c k)
 ·exact(Bp c k)
def J2 :OF P w base 4 114 ["run"] (dv K A):=by
 refine T.Iz.F.Vm ["run","from_top"] @fun _ _ _ s H vs Q E hr h=>?_
 unfold dv at h
 obtain⟨z,W,v,m,F,rfl,c,k⟩:=h
 refine⟨_,(AB (AO 1<|BI AH AM T.AZ)<|AB (Aq (PW.pt<|Gg (A0 Dn AV AE)<|GZ<|A0 DE AV<|Dc T.k.CD<|Af<|AR AH) (AF<|CJ T.c.fault BK (hr.mono<|by decide) outF rfl<|Af AE) AX)<|AF<|AY<|AU B1 (Dc T.k.CD<|Af<|AR AH) AV),c.rn,Al,Am c fun a s H1 i c=>ER c (fun e1 c=>?_) fun e1 c=>?_⟩
 ·exact(⟨_,rfl,fun d hd=>c.raise d hd⟩)
 ·exact⟨c.rn,AL,FI,.inl<|BF.of c.h.C1,ER c (fun e2 c=>⟨_,rfl,fun d hd=>c.raise d hd⟩) fun e2 c=>⟨c.rn,AL,FI,.inl<|BF.of c.h.C1,k a s _ ⟨by lia,fO.mp e2⟩ c⟩⟩
inductive nF(vs:List V)(H:Hp)(Q:VK)(E_:XK):Prop
 | mk: ∀ b x y,vs= [.int b,.int x,.int y]->Q (.bl (MJ b x y)) H->nF vs H Q E_
def ur :O0 P w base 1 123 ["byte","first","second"] nF:=by
 refine T.holds.F.DQ ["byte","first","second"] fun H vs Q E hr h=>?_
 obtain⟨b,x,y,rfl,q⟩:=h
 refine⟨_,(AB (Aq (A0 BD AH AE) (AF<|AY<|Hu Dn AV Aj) AX)<|AB (Aq (A0 BD AH AE) (AF<|AY<|Hu IM AV Aj) AX)<|AB (Aq (A0 BD AH AE) (AF<|AY<|Hu DE AV Aj) AX)<|AB (Aq (A0 BD AH AE) (AF<|AY<|Hu U_ AV Aj) AX)<|AB (Aq (A0 BD AH AE) (AF<|AY<|Hu BD AV Aj) AX)<|AF<|AY<|Hu Ep AV Aj),?_⟩
 unfold MJ at q
 refine⟨rfl,A7 (fun e=>?_) fun e=>?_⟩
 ·rw[AI<|V.int.inj<|An e]at q;exact q
 rw[AG fun z=>e<|Av<|BL V.int z]at q
 refine⟨rfl,A7 (fun e=>?_) fun e=>?_⟩
 ·rw[AI<|V.int.inj<|An e]at q;exact q
 rw[AG fun z=>e<|Av<|BL V.int z]at q
 refine⟨rfl,A7 (fun e=>?_) fun e=>?_⟩
 ·rw[AI<|V.int.inj<|An e]at q;exact q
 rw[AG fun z=>e<|Av<|BL V.int z]at q
 refine⟨rfl,A7 (fun e=>?_) fun e=>?_⟩
 ·rw[AI<|V.int.inj<|An e]at q;exact q
 rw[AG fun z=>e<|Av<|BL V.int z]at q
 refine⟨rfl,A7 (fun e=>?_) fun e=>?_⟩
 ·rw[AI<|V.int.inj<|An e]at q;exact⟨rfl,q⟩
 rw[AG fun z=>e<|Av<|BL V.int z]at q
 exact⟨rfl,q⟩
def AA6(h:FE x): -(2^64)<x/\x<2^64:=by unfold FE at h;lia
def ACS(h: ¬ x=0):(if x<0 then-x else x)≠0:=by split<;>lia
def ACH(h:FE x):(if x<0 then-x else x).natAbs<2^200:=by
 unfold FE at h
 have:(if x<0 then-x else x).natAbs<=4294967296:=by split<;>lia
 exact Ez this<|by decide
noncomputable def NR(g:B4)(m:Ht.M):Ht.R Ht.M:=tk m fun m1 a1=>gv m1 a1 fun m2=>gv m2 a1 fun m3=> .ok m3
def br :OA P w base 4 109 NR:=by
 exact T.aw.F.act ["run","number"] fun H Q E W g v m hr hb c=>⟨_,(AB (AO 1<|BI AH AM T.AZ)<|AB (Ad<|Be AH A1 T.BW<|Af AV)<|AF<|Ad<|Be AH A1 T.BW<|Af AV),c.rn,Al,Am c fun a1 s2 H3 i4 c=>⟨c.rn,B2,Bp c fun H5 e6 c=>⟨c.rn,B2,Bp c fun H7 e8 c=>c.done⟩⟩⟩
noncomputable def JD(g:B4)(m:Ht.M):Ht.R Ht.M:=tk m fun m1 a1=> .ok m1
def R3 :OA P w base 4 110 JD:=by
 exact T.drop.F.act ["run"] fun H Q E W g v m hr hb c=>⟨_,(AF<|Ad<|BI AH AM T.AZ),c.rn,Al,Am c fun a1 s2 H3 i4 c=>c.done⟩
noncomputable def pq(g:B4)(m:Ht.M):Ht.R Ht.M:=let m1:Ht.M:=(Bs m<|[]);.ok m1
def v8 :OB P w base 1 111 pq:=by
 refine T.empty.F.ji ["run"] @fun _ _ _ s H Q E W g v m hr hb c=>⟨_,(AF<|Ad<|cy FG PySem.F.slot_list_clear PySem.F.type_list_clear wJ<|AR AH),c.rn,AL,FI,.inl ⟨rfl,_,BF.of c.h.C1⟩,_,_,rfl,rfl,c.h.C1,?_⟩
 replace c:=c.go same_refl<|c.h.setStack (by decide) fun x hx=>absurd hx<|Ir
 exact c.done
noncomputable def jg(g:B4)(m:Ht.M):Ht.R Ht.M:=tk m fun m1 a1=>tk m1 fun m2 a5=>gv m2 a1 fun m3=>gv m3 a5 fun m4=> .ok m4
def zH :OA P w base 4 112 jg:=by
 exact T.swap.F.act ["run","top","below"] fun H Q E W g v m hr hb c=>⟨_,(AB (AO 1<|BI AH AM T.AZ)<|AB (AO 2<|BI AH AM T.AZ)<|AB (Ad<|Be AH A1 T.BW<|Af AV)<|AF<|Ad<|Be AH A1 T.BW<|Af Aj),c.rn,Al,Am c fun a1 s2 H3 i4 c=>⟨c.rn,Al,Am c fun a5 s6 H7 i8 c=>⟨c.rn,B2,Bp c fun H9 e10 c=>⟨c.rn,B2,Bp c fun H11 e12 c=>c.done⟩⟩⟩⟩
noncomputable def L_(g:B4)(m:Ht.M):Ht.R Ht.M:=gv m (AD (iV m.stack.reverse).length) fun m1=> .ok m1
def ZG :OA P w base 4 113 L_:=by
 exact T.X8.F.act ["run"] fun H Q E W g v m hr hb c=>⟨_,(AF<|Ad<|Be AH A1 T.BW<|Af<|Dc T.k.CD<|Af<|AR AH),c.rn,B2,c.rn,AL,FI,.inl<|BF.of c.h.C1,Bp c fun H1 e2 c=>c.done⟩
noncomputable def F9(g:B4)(m:Ht.M):Ht.R Ht.M:=depth m fun m1 a1=>gv m1 (m1.stack.getD (HX a1-1) 0) fun m2=> .ok m2
def RC :OA P w base 5 115 F9:=by
 exact T.M0.F.act ["run","place"] fun H Q E W g v m hr hb c=>⟨_,(AB (AO 1<|Ah J2 T.Iz<|Af AH)<|AF<|Ad<|Be AH A1 T.BW<|Af<|A9 Ab (AR AH) AV),lq c fun a1 s2 H3 e4 c=>⟨c.rn,B2,c.rn,AL,FI,BF.of c.h.C1,AFm e4,Bp c fun H6 e7 c=>c.done⟩⟩
noncomputable def Gi(g:B4)(m:Ht.M):Ht.R Ht.M:=depth m fun m1 a1=>let m2:Ht.M:=(Bs m1<|m1.stack.eraseIdx<|HX a1-1);gv m2 (m1.stack.getD (HX a1-1) 0) fun m3=> .ok m3
def Qr :OA P w base 5 116 Gi:=by
 refine T.Mx.F.act ["run","place"] @fun _ _ _ s H Q E W g v m hr hb c=>⟨_,(AB (AO 1<|Ah J2 T.Iz<|Af AH)<|AF<|Ad<|Be AH A1 T.BW<|Af<|VC FG Ws Wi xX (AR AH)<|Af AV),lq c fun a1 s2 H3 e4 c=>⟨c.rn,B2,c.rn,AL,FI,.inl ⟨rfl,_,BF.of c.h.C1⟩,_,_,_,_,_,rfl,rfl,c.h.C1,ABJ e4,ABC e4 c.h.good.st,yS e4,xS e4,?_⟩⟩
 rw[tG e4]
 replace c:=c.go same_refl<|c.h.setStack (s:=s2.eraseIdx<|HX a1-1) (CC (Tg _ _) c.h.good.st) fun x hx=>c.h.good.sti x<|mem_erase hx
 exact Bp c fun H6 e7 c=>c.done
noncomputable def kh(g:B4)(m:Ht.M):Ht.R Ht.M:=tk m fun m1 a1=>tk m1 fun m2 a5=>tk m2 fun m3 a9=>gv m3 a5 fun m4=>gv m4 a1 fun m5=>gv m5 a9 fun m6=> .ok m6
def xn :OA P w base 4 117 kh:=by
 exact T.roll.F.act ["run","third","second","first"] fun H Q E W g v m hr hb c=>⟨_,(AB (AO 1<|BI AH AM T.AZ)<|AB (AO 2<|BI AH AM T.AZ)<|AB (AO 3<|BI AH AM T.AZ)<|AB (Ad<|Be AH A1 T.BW<|Af Aj)<|AB (Ad<|Be AH A1 T.BW<|Af AV)<|AF<|Ad<|Be AH A1 T.BW<|Af A6),c.rn,Al,Am c fun a1 s2 H3 i4 c=>⟨c.rn,Al,Am c fun a5 s6 H7 i8 c=>⟨c.rn,Al,Am c fun a9 s10 H11 i12 c=>⟨c.rn,B2,Bp c fun H13 e14 c=>⟨c.rn,B2,Bp c fun H15 e16 c=>⟨c.rn,B2,Bp c fun H17 e18 c=>c.done⟩⟩⟩⟩⟩⟩
noncomputable def Lm(g:B4)(m:Ht.M):Ht.R Ht.M:=tk m fun m1 a1=>tk m1 fun m2 a5=>wi a5 (iV m1.cells).length fun j10=>let m3:Ht.M:={m2 with cells:=m2.cells.set j10 a1};.ok m3
def Zp :OA P w base 4 118 Lm:=by
 refine T.YJ.F.act ["run","number","cells"] fun H Q E W g v m hr hb c=>⟨_,(AB (AO 1<|BI AH AM T.AZ)<|AB (AO 2<|AR<|AR AH)<|AF<|Hy AV<|IC Aj (Ah Ck T.within<|Ax (BI AH AM T.AZ)<|Dc T.k.CD<|Af Aj) set_list),c.rn,Al,Am c fun a1 s2 H3 i4 c=>⟨c.rn,AL,A_,c.h.gr,AW,jL,c.rn,Al,Am c fun a5 s6 H7 i8 c=>⟨.inl<|BF.of c.h.cells,DR c fun w9 c=>⟨_,_,_,_,rfl,rfl,c.h.cells,ixn w9,?_⟩⟩⟩⟩
 rw[dh]
 replace c:=c.go same_refl<|c.h.tR (i:=Ht.unsigned a5) (x:=a1) i4
 exact c.done
noncomputable def Nk(g:B4)(m:Ht.M):Ht.R Ht.M:=tk m fun m1 a1=>wi a1 (iV m.cells).length fun j6=>gv m1 (m.cells.getD j6 0) fun m2=> .ok m2
def b7 :OA P w base 4 119 Nk:=by
 exact T.aK.F.act ["run","cells"] fun H Q E W g v m hr hb c=>⟨_,(AB (AO 1<|AR<|AR AH)<|AF<|Ad<|Be AH A1 T.BW<|Af<|A9 Ab AV<|Ah Ck T.within<|Ax (BI AH AM T.AZ)<|Dc T.k.CD<|Af AV),c.rn,AL,A_,c.h.gr,AW,jL,c.rn,B2,c.rn,Al,Am c fun a1 s2 H3 i4 c=>⟨.inl<|BF.of c.h.cells,DR c fun w5 c=>⟨BF.of c.h.cells,vZ w5,Bp c fun H7 e8 c=>c.done⟩⟩⟩
noncomputable def EJ(g:B4)(m:Ht.M):Ht.R Ht.M:=tk m fun m1 a1=>(if(AD g.byte)=112 then tk m1 fun m2 a6=>wi a6 (iV m1.values).length fun j11=>let m3:Ht.M:={m2 with values:=m2.values.set j11<|Ht.cut<|Ht.near (64*a1*(AD m1.dots))<|AD m1.units};.ok m3 else tk m1 fun m4 a12=>wi a12 (iV m1.values).length fun j17=>let m5:Ht.M:={m4 with values:=m4.values.set j17 a1};.ok m5)
def K9 :OA P w base 4 120 EJ:=by
 refine T.Kj.F.act ["run","number","controls"] fun H Q E W g v m hr hb c=>⟨_,(AB (AO 1<|BI AH AM T.AZ)<|AB (Aq (A0 BD (AR AH) AE) (AF<|AO 1<|Ah K6 T.scaled<|CH AV (AR<|AR AH)<|AR<|AR AH) AX)<|AB (AO 2<|AR<|AR AH)<|AF<|Hy AV<|IC Aj (Ah Ck T.within<|Ax (BI AH AM T.AZ)<|Dc T.k.CD<|Af Aj) set_list),c.rn,Al,Am c fun a1 s2 H3 i4 c=>⟨c.rn,AL,BM,rfl,He c (fun e5 c=>?_) fun e5 c=>?_⟩⟩
 ·refine⟨c.rn,AL,A_,c.h.gr,AW,Wy,c.rn,AL,A_,c.h.gr,AW,gp,_,_,_,rfl,scl c.h.good,c.rn,AL,A_,c.h.gr,AW,Hi,c.rn,Al,Am c fun a6 s7 H8 i9 c=>⟨.inl<|BF.of c.h.Cq,DR c fun w10 c=>⟨_,_,_,_,rfl,rfl,c.h.Cq,ixn w10,?_⟩⟩⟩
  rw[dh]
  replace c:=c.go same_refl<|c.h.Qh (i:=Ht.unsigned a6) (x:=(Ht.cut<|Ht.near (64*a1*(AD m.dots))<|AD m.units))<|Dk _
  exact c.done
 ·refine⟨c.rn,AL,A_,c.h.gr,AW,Hi,c.rn,Al,Am c fun a12 s13 H14 i15 c=>⟨.inl<|BF.of c.h.Cq,DR c fun w16 c=>⟨_,_,_,_,rfl,rfl,c.h.Cq,ixn w16,?_⟩⟩⟩
  rw[dh]
  replace c:=c.go same_refl<|c.h.Qh (i:=Ht.unsigned a12) (x:=a1) i4
  exact c.done
noncomputable def JQ(g:B4)(m:Ht.M):Ht.R Ht.M:=tk m fun m1 a1=>wi a1 (iV m.values).length fun j6=>gv m1 (m.values.getD j6 0) fun m2=> .ok m2
def VM :OA P w base 4 121 JQ:=by
 exact T.Rz.F.act ["run","controls"] fun H Q E W g v m hr hb c=>⟨_,(AB (AO 1<|AR<|AR AH)<|AF<|Ad<|Be AH A1 T.BW<|Af<|A9 Ab AV<|Ah Ck T.within<|Ax (BI AH AM T.AZ)<|Dc T.k.CD<|Af AV),c.rn,AL,A_,c.h.gr,AW,Hi,c.rn,B2,c.rn,Al,Am c fun a1 s2 H3 i4 c=>⟨.inl<|BF.of c.h.Cq,DR c fun w5 c=>⟨BF.of c.h.Cq,vZ w5,Bp c fun H7 e8 c=>c.done⟩⟩⟩
noncomputable def DI(g:B4)(m:Ht.M):Ht.R Ht.M:=tk m fun m1 a1=>tk m1 fun m2 a5=>gv m2 (bI<|MJ (AD g.byte) a5 a1) fun m3=> .ok m3
def G9 :OA P w base 5 124 DI:=by
 exact T.compare.F.act ["run","second","first"] fun H Q E W g v m hr hb c=>⟨_,(AB (AO 1<|BI AH AM T.AZ)<|AB (AO 2<|BI AH AM T.AZ)<|AF<|Ad<|Ah E3 T.Gw<|Ax AH<|Ah ur T.holds<|CH (AR AH) Aj AV),c.rn,Al,Am c fun a1 s2 H3 i4 c=>⟨c.rn,Al,Am c fun a5 s6 H7 i8 c=>⟨c.rn,AL,BM,_,_,_,rfl,LZ c fun H9 e10 c=>c.done⟩⟩⟩
noncomputable def GA(g:B4)(m:Ht.M):Ht.R Ht.M:=tk m fun m1 a1=>gv m1 (bI<|decide (V.bl (decide (V.int (((BN (m1.round a1) 64)%2))=V.int (1)))=V.bl (decide (V.int ((AD g.byte))=V.int (86))))) fun m2=> .ok m2
def QJ :OA P w base 6 125 GA:=by
 exact T.QR.F.act ["run","odd"] fun H Q E W g v m hr hb c=>⟨_,(AB (AO 1<|Hu BD (AU Dz (AU Bm (Be AH Cb T.Cj<|Af<|BI AH AM T.AZ) AE) AE) AE)<|AF<|Ad<|Ah E3 T.Gw<|Ax AH<|Hu BD AV<|Hu BD (AR AH) AE),c.rn,B_,c.rn,Al,Am c fun a1 s2 H3 i4 c=>Ji c<|⟨⟨by decide,by decide⟩,(by show(0:Int)<_;decide),rfl,c.rn,AL,BM,rfl,rfl,LZ c fun H5 e6 c=>c.done⟩⟩
noncomputable def QW(g:B4)(m:Ht.M):Ht.R Ht.M:=tk m fun m1 a1=>tk m1 fun m2 a5=>(if a5=0 then gv m2 (bI<|false) fun m3=> .ok m3 else gv m2 (bI<|!decide (V.int (a1)=V.int (0))) fun m4=> .ok m4)
def iH :OA P w base 5 126 QW:=by
 refine T.iR.F.act ["run","second","first"] fun H Q E W g v m hr hb c=>⟨_,(AB (AO 1<|BI AH AM T.AZ)<|AB (AO 2<|BI AH AM T.AZ)<|AF<|Ad<|Ah E3 T.Gw<|Ax AH<|ABG (Hu Ep Aj AE)<|uY<|Hu Ep AV AE),c.rn,Al,Am c fun a1 s2 H3 i4 c=>⟨c.rn,Al,Am c fun a5 s6 H7 i8 c=>⟨rfl,UT c (fun e9 c=>?_) fun e9 c=>?_⟩⟩⟩
 ·exact LZ c fun H10 e11 c=>c.done
 ·exact⟨rfl,LZ c fun H12 e13 c=>c.done⟩
noncomputable def Ma(g:B4)(m:Ht.M):Ht.R Ht.M:=tk m fun m1 a1=>tk m1 fun m2 a5=>(if a5=0 then gv m2 (bI<|!decide (V.int (a1)=V.int (0))) fun m3=> .ok m3 else gv m2 (bI<|true) fun m4=> .ok m4)
def ZN :OA P w base 5 127 Ma:=by
 refine T.Xk.F.act ["run","second","first"] fun H Q E W g v m hr hb c=>⟨_,(AB (AO 1<|BI AH AM T.AZ)<|AB (AO 2<|BI AH AM T.AZ)<|AF<|Ad<|Ah E3 T.Gw<|Ax AH<|AEx (Hu Ep Aj AE)<|uY<|Hu Ep AV AE),c.rn,Al,Am c fun a1 s2 H3 i4 c=>⟨c.rn,Al,Am c fun a5 s6 H7 i8 c=>⟨rfl,UT c (fun e9 c=>?_) fun e9 c=>?_⟩⟩⟩
 ·exact⟨rfl,LZ c fun H10 e11 c=>c.done⟩
 ·exact LZ c fun H12 e13 c=>c.done
noncomputable def Qw(g:B4)(m:Ht.M):Ht.R Ht.M:=tk m fun m1 a1=>gv m1 (bI<|decide (V.int (a1)=V.int (0))) fun m2=> .ok m2
def gE :OA P w base 5 128 Qw:=by
 exact T.jX.F.act ["run"] fun H Q E W g v m hr hb c=>⟨_,(AF<|Ad<|Ah E3 T.Gw<|Ax AH<|Hu BD (BI AH AM T.AZ) AE),c.rn,Al,Am c fun a1 s2 H3 i4 c=>⟨rfl,LZ c fun H5 e6 c=>c.done⟩⟩
noncomputable def Tp(g:B4)(m:Ht.M):Ht.R Ht.M:=tk m fun m1 a1=>tk m1 fun m2 a5=>gv m2 (a5+a1) fun m3=> .ok m3
def kX :OA P w base 4 129 Tp:=by
 exact T.qZ.F.act ["run","second"] fun H Q E W g v m hr hb c=>⟨_,(AB (AO 1<|BI AH AM T.AZ)<|AF<|Ad<|Be AH A1 T.BW<|Af<|AU BJ (BI AH AM T.AZ) AV),c.rn,Al,Am c fun a1 s2 H3 i4 c=>⟨c.rn,B2,c.rn,Al,Am c fun a5 s6 H7 i8 c=>Bp c fun H9 e10 c=>c.done⟩⟩
noncomputable def Nf(g:B4)(m:Ht.M):Ht.R Ht.M:=tk m fun m1 a1=>tk m1 fun m2 a5=>gv m2 (a5-a1) fun m3=> .ok m3
def fJ :OA P w base 4 130 Nf:=by
 exact T.af.F.act ["run","second"] fun H Q E W g v m hr hb c=>⟨_,(AB (AO 1<|BI AH AM T.AZ)<|AF<|Ad<|Be AH A1 T.BW<|Af<|AU B1 (BI AH AM T.AZ) AV),c.rn,Al,Am c fun a1 s2 H3 i4 c=>⟨c.rn,B2,c.rn,Al,Am c fun a5 s6 H7 i8 c=>Bp c fun H9 e10 c=>c.done⟩⟩
noncomputable def Yt(g:B4)(m:Ht.M):Ht.R Ht.M:=tk m fun m1 a1=>tk m1 fun m2 a5=>(if a1=0 then .error 8 else(if(decide (a5<0))=(decide (a1<0))then gv m2 (BN (64*(if a5<0 then-a5 else a5))<|if a1<0 then-a1 else a1) fun m3=> .ok m3 else gv m2 (-(BN (64*(if a5<0 then-a5 else a5))<|if a1<0 then-a1 else a1)) fun m4=> .ok m4))
def sj :OA P w base 4 131 Yt:=by
 refine T.divide.F.act ["run","below","above","size"] fun H Q E W g v m hr hb c=>⟨_,(AB (AO 1<|BI AH AM T.AZ)<|AB (AO 2<|BI AH AM T.AZ)<|AB (Aq (A0 BD AV AE) (AF<|CJ T.c.fault BK (hr.mono<|by decide) outF rfl<|Af AE) AX)<|AB (AO 3<|AU Bm (AU Bb AE<|EZ Hl rfl T.k.VF NM<|Af Aj)<|EZ Hl rfl T.k.VF NM<|Af AV)<|AF<|Ad<|Be AH A1 T.BW<|Af<|Bn (A0 BD (Hu Dn Aj AE)<|Hu Dn AV AE) A6<|LL HA A6),c.rn,Al,Am c fun a1 s2 H3 i4 c=>⟨c.rn,Al,Am c fun a5 s6 H7 i8 c=>⟨rfl,He c (fun e9 c=>⟨_,rfl,fun d hd=>c.raise d hd⟩) fun e9 c=>?_⟩⟩⟩
 ·refine⟨_,rfl,.inl ⟨by decide,by decide⟩,_,rfl,⟨ACS e9,ACH i4⟩,c.rn,B2,rfl,AAr c (fun e10 c=>?_) fun e10 c=>?_⟩
  ·exact Bp c fun H11 e12 c=>c.done
  ·exact Bp c fun H13 e14 c=>c.done
noncomputable def Qy(g:B4)(m:Ht.M):Ht.R Ht.M:=tk m fun m1 a1=>tk m1 fun m2 a5=>gv m2 (Ht.near (a5*a1) 64) fun m3=> .ok m3
def ig :OA P w base 4 132 Qy:=by
 exact T.multiply.F.act ["run","second"] fun H Q E W g v m hr hb c=>⟨_,(AB (AO 1<|BI AH AM T.AZ)<|AF<|Ad<|Be AH A1 T.BW<|Af<|Ah GV T.near<|Ax (AU Bb (BI AH AM T.AZ) AV) AE),c.rn,Al,Am c fun a1 s2 H3 i4 c=>⟨c.rn,B2,c.rn,Al,Am c fun a5 s6 H7 i8 c=>⟨.inl<|AA6 i8,_,_,rfl,⟨by decide,by decide⟩,Bp c fun H9 e10 c=>c.done⟩⟩⟩
noncomputable def NQ(g:B4)(m:Ht.M):Ht.R Ht.M:=tk m fun m1 a1=>gv m1 (if a1<0 then-a1 else a1) fun m2=> .ok m2
def cw :OA P w base 4 133 NQ:=by
 exact T.Z7.F.act ["run"] fun H Q E W g v m hr hb c=>⟨_,(AF<|Ad<|Be AH A1 T.BW<|Af<|EZ Hl rfl T.k.VF NM<|Af<|BI AH AM T.AZ),c.rn,B2,c.rn,Al,Am c fun a1 s2 H3 i4 c=>⟨_,rfl,Bp c fun H5 e6 c=>c.done⟩⟩
noncomputable def XX(g:B4)(m:Ht.M):Ht.R Ht.M:=tk m fun m1 a1=>gv m1 (-a1) fun m2=> .ok m2
def tS :OA P w base 4 134 XX:=by
 exact T.negate.F.act ["run"] fun H Q E W g v m hr hb c=>⟨_,(AF<|Ad<|Be AH A1 T.BW<|Af<|LL HA<|BI AH AM T.AZ),c.rn,B2,c.rn,Al,Am c fun a1 s2 H3 i4 c=>Bp c fun H5 e6 c=>c.done⟩
noncomputable def UH(g:B4)(m:Ht.M):Ht.R Ht.M:=tk m fun m1 a1=>gv m1 (64*(BN a1 64)) fun m2=> .ok m2
def lF :OA P w base 4 135 UH:=by
 exact T.pF.F.act ["run"] fun H Q E W g v m hr hb c=>⟨_,(AF<|Ad<|Be AH A1 T.BW<|Af<|AU Bb AE<|AU Bm (BI AH AM T.AZ) AE),c.rn,B2,c.rn,Al,Am c fun a1 s2 H3 i4 c=>⟨⟨by decide,by decide⟩,.inl ⟨by decide,by decide⟩,Bp c fun H5 e6 c=>c.done⟩⟩
noncomputable def fV(g:B4)(m:Ht.M):Ht.R Ht.M:=tk m fun m1 a1=>gv m1 (64*(BN (a1+63) 64)) fun m2=> .ok m2
def vo :OA P w base 4 136 fV:=by
 exact T.AAm.F.act ["run"] fun H Q E W g v m hr hb c=>⟨_,(AF<|Ad<|Be AH A1 T.BW<|Af<|AU Bb AE<|AU Bm (AU BJ (BI AH AM T.AZ) AE) AE),c.rn,B2,c.rn,Al,Am c fun a1 s2 H3 i4 c=>⟨⟨by decide,by decide⟩,.inl ⟨by decide,by decide⟩,Bp c fun H5 e6 c=>c.done⟩⟩
noncomputable def JU(g:B4)(m:Ht.M):Ht.R Ht.M:=tk m fun m1 a1=>tk m1 fun m2 a5=>gv m2 (if a1>a5 then a1 else a5) fun m3=> .ok m3
def Vf :OA P w base 4 137 JU:=by
 exact T.Sg.F.act ["run","second"] fun H Q E W g v m hr hb c=>⟨_,(AB (AO 1<|BI AH AM T.AZ)<|AF<|Ad<|Be AH A1 T.BW<|Af<|EZ (tU rfl) rfl T.k.AD6 ABB<|Ax (BI AH AM T.AZ) AV),c.rn,Al,Am c fun a1 s2 H3 i4 c=>⟨c.rn,B2,c.rn,Al,Am c fun a5 s6 H7 i8 c=>⟨_,_,rfl,Bp c fun H9 e10 c=>c.done⟩⟩⟩
noncomputable def KY(g:B4)(m:Ht.M):Ht.R Ht.M:=tk m fun m1 a1=>tk m1 fun m2 a5=>gv m2 (if a1<a5 then a1 else a5) fun m3=> .ok m3
def Xa :OA P w base 4 138 KY:=by
 exact T.Ur.F.act ["run","second"] fun H Q E W g v m hr hb c=>⟨_,(AB (AO 1<|BI AH AM T.AZ)<|AF<|Ad<|Be AH A1 T.BW<|Af<|EZ (rP rfl) rfl T.k.AEV ACr<|Ax (BI AH AM T.AZ) AV),c.rn,Al,Am c fun a1 s2 H3 i4 c=>⟨c.rn,B2,c.rn,Al,Am c fun a5 s6 H7 i8 c=>⟨_,_,rfl,Bp c fun H9 e10 c=>c.done⟩⟩⟩
noncomputable def CV(g:B4)(m:Ht.M):Ht.R Ht.M:=tk m fun m1 a1=>gv m1 (m1.round a1) fun m2=> .ok m2
def FL :OA P w base 6 139 CV:=by
 exact T.F8.F.act ["run"] fun H Q E W g v m hr hb c=>⟨_,(AF<|Ad<|Be AH A1 T.BW<|Af<|Be AH Cb T.Cj<|Af<|BI AH AM T.AZ),c.rn,B2,c.rn,B_,c.rn,Al,Am c fun a1 s2 H3 i4 c=>Ji c<|Bp c fun H5 e6 c=>c.done⟩
noncomputable def Dt(g:B4)(m:Ht.M):Ht.R Ht.M:=tk m fun m1 a1=>gv m1 a1 fun m2=> .ok m2
def Il :OA P w base 4 140 Dt:=by
 exact T.K0.F.act ["run"] fun H Q E W g v m hr hb c=>⟨_,(AF<|Ad<|Be AH A1 T.BW<|Af<|BI AH AM T.AZ),c.rn,B2,c.rn,Al,Am c fun a1 s2 H3 i4 c=>Bp c fun H5 e6 c=>c.done⟩
noncomputable def Hf(g:B4)(m:Ht.M):Ht.R Ht.M:=gv m (AD m.dots) fun m1=> .ok m1
def S8 :OA P w base 4 141 Hf:=by
 exact T.Th.F.act ["run"] fun H Q E W g v m hr hb c=>⟨_,(AF<|Ad<|Be AH A1 T.BW<|Af<|AR<|AR AH),c.rn,B2,c.rn,AL,A_,c.h.gr,AW,Wy,Bp c fun H1 e2 c=>c.done⟩
noncomputable def Ni(g:B4)(m:Ht.M):Ht.R Ht.M:=tk m fun m1 a1=>(if(a1%2)=1 then gv m1 40 fun m2=> .ok m2 else gv m1 0 fun m3=> .ok m3)
def fh :OA P w base 4 142 Ni:=by
 refine T.aE.F.act ["run"] fun H Q E W g v m hr hb c=>⟨_,(AF<|Ad<|Be AH A1 T.BW<|Af<|Bn (A0 BD (AU Dz (BI AH AM T.AZ) AE) AE) AE AE),c.rn,B2,c.rn,Al,Am c fun a1 s2 H3 i4 c=>⟨(by show(0:Int)<_;decide),rfl,He c (fun e5 c=>?_) fun e5 c=>?_⟩⟩
 ·exact Bp c fun H6 e7 c=>c.done
 ·exact Bp c fun H8 e9 c=>c.done
def qw(h:0<=a): ∃ n:Nat,a=(n:Int):=OY h
section
variable{W:Hp}{v:Var}{m:Ht.M}{H:Hp}{Q:VK}{E E':XK}{z:Fx}{r:Ht.R Ht.M}{a b:AK}{x y:Ht.Pos}{i j d:Int}
def uM(c:BX K A E z W v m H r)(b:i.natAbs<2^40/\j.natAbs<2^40)(k: ∀ p H',BX K A E z (upd W p<|.tup<|pV<|Ht.unit (i,j)) v m H' r->Q (.ref p) H'):cN [.int i,.int j] H Q E':=⟨i,j,rfl,b,fun p hp=>k p _<|c.M4 hp⟩
def UJ(c:BX K A E z W v m H r)(ha:H a=some (.lst<|pV x))(hb:H b=some (.lst<|pV y))(k: ∀ p H',W p=none->BX K A E z (upd W p<|.tup<|pV<|Ht.less x y) v m H' r->Q (.ref p) H'):dU K [.ref a,.ref b] H Q E':=⟨a,b,x,y,rfl,BF.of ha,BF.of hb,fun p hp=>k p _ (c.h.free hp)<|c.M4 hp⟩
def k7(c:BX K A E z W v m H r)(ha:Dd K W a (pV x))(s:Sm x)(k: ∀ p H',W p=none->BX K A E z (upd W p<|.tup<|pV<|Ht.times d x) v m H' r->Q (.ref p) H'):kj K [.ref a,.int d] H Q E':=⟨a,x.1,x.2,d,rfl,BZ c.h.sub ha,s,fun p hp=>k p _ (c.h.free hp)<|c.M4 hp⟩
end
noncomputable def tbA(A:B3)(l:List (Int×Nat)):List (Key×V):=l.map fun x=>(.inl x.1,.ref<|A.ad x.2)
noncomputable def QD(A:B3):List (Key×V):=tbA A EG.Uo
noncomputable def IL(A:B3):List (Key×V):=tbA A EG.QM
noncomputable def LF(A:B3):List (Key×V):= [(.inl 93,.int 0),(.inl 113,.int 16),(.inl 114,.int 32),(.inl 115,.int 0),(.inl 116,.int 16),(.inl 117,.int 32)]
noncomputable def KL(A:B3):List (Key×V):=tbA A EG.Mh
noncomputable def JJ(A:B3):List (Key×V):=tbA A EG.Ib
noncomputable def h_(A:B3):List (Key×V):= [(.inl 24,.int 1),(.inl 25,.int 0),(.inl 61,.int 2),(.inl 125,.int 3),(.inl 124,.int 4),(.inl 122,.int 5)]
noncomputable def Nl(A:B3):List (Key×V):=tbA A EG.Fy
noncomputable def aq(A:B3):List (Key×V):=tbA A EG.o8
structure Ku(P:BH)(w:Ao)(K:AS)(A:B3):Prop where
 sX:KD P w K (A.tg 2) (QD A)
 U8:KD P w K (A.tg 3) (IL A)
 b6:KD P w K (A.tg 4) (LF A)
 ZQ:KD P w K (A.tg 5) (KL A)
 Xf:KD P w K (A.tg 6) (JJ A)
 AFt:KD P w K (A.tg 7) (h_ A)
 kH:KD P w K (A.tg 8) (Nl A)
 ADZ:KD P w K (A.tg 9) (aq A)
def G0 :O0 P w base 1 144 ["run","vector"] (j2 K A):=by
 refine T.HU.F.DQ ["run","vector"] fun H vs Q E hr h=>?_
 unfold j2 at h
 obtain⟨z,W,v,m,r,E',a,x,rfl,c,t,sm,k⟩:=h
 refine⟨_,(AB (BC AH AV)<|AF<|BC AH AV),c.rn,AL,(B8 rfl),?_⟩
 replace c:=c.go same_refl<|c.h.AEE t sm
 refine⟨c.rn,AL,(B8 rfl),?_⟩
 replace c:=c.go same_refl<|c.h.AEk t sm
 exact k _ c
noncomputable def Cm(g:B4)(m:Ht.M):Ht.R Ht.M:=(if((AD g.byte)%2)=1 then(if(AD g.byte)<4 then let m1:Ht.M:={m with P:=Ht.X,Q:=Ht.X};(if(AD g.byte)<2 then let m2:Ht.M:={m1 with F:=Ht.X};.ok m2 else(if 3<(AD g.byte)then let m3:Ht.M:={m1 with F:=Ht.X};.ok m3 else .ok m1))else(if(AD g.byte)<2 then let m4:Ht.M:={m with F:=Ht.X};.ok m4 else(if 3<(AD g.byte)then let m5:Ht.M:={m with F:=Ht.X};.ok m5 else .ok m)))else(if(AD g.byte)<4 then let m6:Ht.M:={m with P:=Ht.Y,Q:=Ht.Y};(if(AD g.byte)<2 then let m7:Ht.M:={m6 with F:=Ht.Y};.ok m7 else(if 3<(AD g.byte)then let m8:Ht.M:={m6 with F:=Ht.Y};.ok m8 else .ok m6))else(if(AD g.byte)<2 then let m9:Ht.M:={m with F:=Ht.Y};.ok m9 else(if 3<(AD g.byte)then let Tx:Ht.M:={m with F:=Ht.Y};.ok Tx else .ok m))))
def Fj :OB P w base 2 145 Cm:=by
 refine T.Ja.F.ji ["run","axis"] fun H Q E W g v m hr hb c=>⟨_,(AB (AO 1<|Bn (A0 BD (AU Dz (AR AH) AE) AE) (DX rfl T.k.Ri<|show L2.RelV (.ref<|A.tg 0) _ from rfl)<|DX rfl T.k.xQ<|show L2.RelV (.ref<|A.tg 1) _ from rfl)<|AB (Aq (A0 Dn (AR AH) AE) (AF<|Ad<|Ah G0 T.HU<|Ax AH AV) AX)<|AF<|Aq (PW.pt<|Gg (A0 Dn (AR AH) AE)<|GZ<|A0 DE (AR AH) AE) (AF<|BC AH AV) AX),?_⟩
 refine⟨c.rn,AL,BM,(by show(0:Int)<_;decide),rfl,He c (fun e1 c=>?_) fun e1 c=>?_⟩
 ·refine⟨c.rn,AL,BM,ER c (fun e2 c=>?_) fun e2 c=>?_⟩
  ·refine fG c (T.k.Hj _) (vO) fun H3 c=>⟨c.rn,AL,BM,ER c (fun e4 c=>?_) fun e4 c=>?_⟩
   ·refine(⟨c.rn,AL,(B8 rfl),?_⟩)
    replace c:=c.go same_refl<|c.h.Xs (T.k.Hj _)<|vO
    exact c.done
   ·refine⟨c.rn,AL,BM,ER c (fun e5 c=>?_) fun e5 c=>c.done⟩
    ·refine⟨c.rn,AL,(B8 rfl),?_⟩
     replace c:=c.go same_refl<|c.h.Xs (T.k.Hj _)<|vO
     exact c.done
  ·refine⟨c.rn,AL,BM,ER c (fun e6 c=>?_) fun e6 c=>?_⟩
   ·refine(⟨c.rn,AL,(B8 rfl),?_⟩)
    replace c:=c.go same_refl<|c.h.Xs (T.k.Hj _)<|vO
    exact c.done
   ·refine⟨c.rn,AL,BM,ER c (fun e7 c=>?_) fun e7 c=>c.done⟩
    ·refine⟨c.rn,AL,(B8 rfl),?_⟩
     replace c:=c.go same_refl<|c.h.Xs (T.k.Hj _)<|vO
     exact c.done
 ·refine⟨c.rn,AL,BM,ER c (fun e8 c=>?_) fun e8 c=>?_⟩
  ·refine fG c (T.k.NO _) (wL) fun H9 c=>⟨c.rn,AL,BM,ER c (fun e10 c=>?_) fun e10 c=>?_⟩
   ·refine(⟨c.rn,AL,(B8 rfl),?_⟩)
    replace c:=c.go same_refl<|c.h.Xs (T.k.NO _)<|wL
    exact c.done
   ·refine⟨c.rn,AL,BM,ER c (fun e11 c=>?_) fun e11 c=>c.done⟩
    ·refine⟨c.rn,AL,(B8 rfl),?_⟩
     replace c:=c.go same_refl<|c.h.Xs (T.k.NO _)<|wL
     exact c.done
  ·refine⟨c.rn,AL,BM,ER c (fun e12 c=>?_) fun e12 c=>?_⟩
   ·refine(⟨c.rn,AL,(B8 rfl),?_⟩)
    replace c:=c.go same_refl<|c.h.Xs (T.k.NO _)<|wL
    exact c.done
   ·refine⟨c.rn,AL,BM,ER c (fun e13 c=>?_) fun e13 c=>c.done⟩
    ·refine⟨c.rn,AL,(B8 rfl),?_⟩
     replace c:=c.go same_refl<|c.h.Xs (T.k.NO _)<|wL
     exact c.done
noncomputable def D4(g:B4)(m:Ht.M):Ht.R Ht.M:=tk m fun m1 a1=>tk m1 fun m2 a5=>(if(AD g.byte)=10 then let m3:Ht.M:={m2 with P:=(Ht.unit ((Ht.half a5),(Ht.half a1))),Q:=(Ht.unit ((Ht.half a5),(Ht.half a1)))};.ok m3 else let m4:Ht.M:={m2 with F:=(Ht.unit ((Ht.half a5),(Ht.half a1)))};.ok m4)
def KC :OA P w base 4 149 D4:=by
 refine T.JK.F.act ["run","y","x"] fun H Q E W g v m hr hb c=>⟨_,(AB (AO 1<|Ah Lf T.Oe<|Af<|BI AH AM T.AZ)<|AB (AO 2<|Ah Lf T.Oe<|Af<|BI AH AM T.AZ)<|AF<|Aq (A0 BD (AR AH) AE) (AF<|Ad<|Ah G0 T.HU<|Ax AH<|Ah Sx T.unit<|Ax Aj AV)<|AF<|BC AH<|Ah Sx T.unit<|Ax Aj AV),c.rn,Al,Am c fun a1 s2 H3 i4 c=>⟨_,rfl,trivial,c.rn,Al,Am c fun a5 s6 H7 i8 c=>⟨_,rfl,trivial,c.rn,AL,BM,rfl,He c (fun e9 c=>?_) fun e9 c=>?_⟩⟩⟩
 ·exact uM c ⟨Wr _,Wr _⟩ fun t10 H11 c=>fG c (Dd.of AJ) (fE _) fun H12 c=>c.done
 ·refine uM c ⟨Wr _,Wr _⟩ fun t13 H14 c=>⟨c.rn,AL,(B8 rfl),?_⟩
  replace c:=c.go same_refl<|c.h.Xs (Dd.of AJ)<|fE _
  exact c.done
noncomputable def E2(g:B4)(m:Ht.M):Ht.R Ht.M:=(if(AD g.byte)=12 then gv m m.P.1 fun m1=>gv m1 m.P.2 fun m2=> .ok m2 else gv m m.F.1 fun m3=>gv m3 m.F.2 fun m4=> .ok m4)
def Nv :OA P w base 4 150 E2:=by
 refine T.NV.F.act ["run","vector"] fun H Q E W g v m hr hb c=>⟨_,(AB (AO 1<|Bn (A0 BD (AR AH) AE) (AR AH)<|AR AH)<|AB (Ad<|Be AH A1 T.BW<|Af<|A9 By AV AE)<|AF<|Ad<|Be AH A1 T.BW<|Af<|A9 By AV AE),c.rn,AL,BM,rfl,He c (fun e1 c=>?_) fun e1 c=>?_⟩
 ·exact⟨c.rn,AL,EB,c.rn,B2,c.h.tP,rfl,Bp c fun H2 e3 c=>⟨c.rn,B2,c.h.tP,rfl,Bp c fun H4 e5 c=>c.done⟩⟩
 ·exact⟨c.rn,AL,Fm,c.rn,B2,c.h.tF,rfl,Bp c fun H6 e7 c=>⟨c.rn,B2,c.h.tF,rfl,Bp c fun H8 e9 c=>c.done⟩⟩
noncomputable def IQ(g:B4)(m:Ht.M):Ht.R Ht.M:=let m1:Ht.M:={m with F:=m.P};.ok m1
def Nn :OB P w base 1 151 IQ:=by
 refine T.KP.F.ji ["run"] fun H Q E W g v m hr hb c=>⟨_,(AF<|BC AH<|AR AH),c.rn,AL,EB,c.rn,AL,(B8 rfl),?_⟩
 replace c:=c.go same_refl<|c.h.Xs (c.h.good.tP)<|c.h.good.sP
 exact c.done
noncomputable def Qi(g:B4)(m:Ht.M):Ht.R Ht.M:=tk m fun m1 a1=>(if a1<1 then .error 3 else(if 65535<a1 then .error 3 else let m2:Ht.M:={m1 with loop:=HX a1};.ok m2))
def gu :OA P w base 4 155 Qi:=by
 refine T.iB.F.act ["run","number"] fun H Q E W g v m hr hb c=>⟨_,(AB (AO 1<|BI AH AM T.AZ)<|AB (Aq (PW.pt<|Gg (A0 Dn AV AE)<|GZ<|A0 DE AV<|Bt T.k.cg) (AF<|CJ T.c.fault BK (hr.mono<|by decide) outF rfl<|Af AE) AX)<|AF<|BC AH AV),c.rn,Al,Am c fun a1 s2 H3 i4 c=>ER c (fun e5 c=>?_) fun e5 c=>?_⟩
 ·exact(⟨_,rfl,fun d hd=>c.raise d hd⟩)
 ·refine ER c (fun e6 c=>⟨_,rfl,fun d hd=>c.raise d hd⟩) (fun e6 c=>?_)
  ·refine⟨c.rn,AL,(B8 rfl),?_⟩
   obtain⟨n,rfl⟩:=qw<|show 0<=a1 by lia
   replace c:=c.go same_refl<|c.h.setLoop n<|by lia
   exact c.done
noncomputable def CW(g:B4)(m:Ht.M):Ht.R Ht.M:=tk m fun m1 a1=>let m2:Ht.M:={m1 with byte:=Ht.unsigned a1%256};(if(AD g.byte)=118 then let m3:Ht.M:={m2 with way:=HX 6};.ok m3 else let m4:Ht.M:={m2 with way:=HX 7};.ok m4)
def Fg :OA P w base 4 157 CW:=by
 refine T.Ej.F.act ["run"] fun H Q E W g v m hr hb c=>⟨_,(AB (BC AH<|AU Dz (BI AH AM T.AZ) AE)<|AF<|BC AH<|Bn (A0 BD (AR AH) AE) (Bt T.k.Z6)<|Bt T.k.LC),c.rn,Al,Am c fun a1 s2 H3 i4 c=>⟨(by show(0:Int)<_;decide),c.rn,AL,(B8 rfl),?_⟩⟩
 replace c:=c.go same_refl<|by have q:=c.h.xm (Ht.unsigned a1%256) (E9 _<|by decide);rw[<-show a1%256=AD (Ht.unsigned a1%256)from xW ⟨16777216,rfl⟩<|by decide]at q;exact q
 refine⟨c.rn,AL,BM,rfl,He c (fun e5 c=>?_) fun e5 c=>?_⟩
 ·refine⟨c.rn,AL,(B8 rfl),?_⟩
  replace c:=c.go same_refl<|c.h.lI (HX 6)<|by decide
  exact c.done
 ·refine⟨c.rn,AL,(B8 rfl),?_⟩
  replace c:=c.go same_refl<|c.h.lI (HX 7)<|by decide
  exact c.done
noncomputable def Nh(g:B4)(m:Ht.M):Ht.R Ht.M:=tk m fun m1 a1=>let m2:Ht.M:={m1 with kept:={m1.kept with least:=a1}};.ok m2
def bZ :OA P w base 4 158 Nh:=by
 refine T.aV.F.act ["run"] fun H Q E W g v m hr hb c=>⟨_,(AF<|BC (AR<|AR AH)<|BI AH AM T.AZ),c.rn,Al,Am c fun a1 s2 H3 i4 c=>⟨c.rn,AL,A_,c.h.gr,AW,DZ,c.h.kp,BG,(B8 rfl),?_⟩⟩
 replace c:=c.go same_refl<|c.h.jm i4
 exact c.done
noncomputable def MM(g:B4)(m:Ht.M):Ht.R Ht.M:=tk m fun m1 a1=>let m2:Ht.M:={m1 with kept:={m1.kept with cutin:=a1}};.ok m2
def ZU :OA P w base 4 159 MM:=by
 refine T.YH.F.act ["run"] fun H Q E W g v m hr hb c=>⟨_,(AF<|BC (AR<|AR AH)<|BI AH AM T.AZ),c.rn,Al,Am c fun a1 s2 H3 i4 c=>⟨c.rn,AL,A_,c.h.gr,AW,DZ,c.h.kp,BG,(B8 rfl),?_⟩⟩
 replace c:=c.go same_refl<|c.h.jI i4
 exact c.done
noncomputable def Fe(g:B4)(m:Ht.M):Ht.R Ht.M:=tk m fun m1 a1=>let m2:Ht.M:={m1 with kept:={m1.kept with widthcut:=a1}};.ok m2
def Py :OA P w base 4 160 Fe:=by
 refine T.K2.F.act ["run"] fun H Q E W g v m hr hb c=>⟨_,(AF<|BC (AR<|AR AH)<|BI AH AM T.AZ),c.rn,Al,Am c fun a1 s2 H3 i4 c=>⟨c.rn,AL,A_,c.h.gr,AW,DZ,c.h.kp,BG,(B8 rfl),?_⟩⟩
 replace c:=c.go same_refl<|c.h.SA i4
 exact c.done
noncomputable def OR(g:B4)(m:Ht.M):Ht.R Ht.M:=tk m fun m1 a1=>let m2:Ht.M:={m1 with kept:={m1.kept with width:=(Ht.cut<|Ht.near (64*a1*(AD m1.dots))<|AD m1.units)}};.ok m2
def bW :OA P w base 4 161 OR:=by
 refine T.Zu.F.act ["run"] fun H Q E W g v m hr hb c=>⟨_,(AF<|BC (AR<|AR AH)<|Ah K6 T.scaled<|CH (BI AH AM T.AZ) (AR<|AR AH)<|AR<|AR AH),c.rn,Al,Am c fun a1 s2 H3 i4 c=>⟨c.rn,AL,A_,c.h.gr,AW,Wy,c.rn,AL,A_,c.h.gr,AW,gp,_,_,_,rfl,scl c.h.good,c.rn,AL,A_,c.h.gr,AW,DZ,c.h.kp,BG,(B8 rfl),?_⟩⟩
 replace c:=c.go same_refl<|c.h.jf (x:=(Ht.cut<|Ht.near (64*a1*(AD m.dots))<|AD m.units))<|Dk _
 exact c.done
noncomputable def JS(g:B4)(m:Ht.M):Ht.R Ht.M:=(if(AD g.byte)=77 then let m1:Ht.M:={m with kept:={m.kept with flip:=decide (1=1)}};.ok m1 else let m2:Ht.M:={m with kept:={m.kept with flip:=decide (0=1)}};.ok m2)
def Um :OB P w base 1 162 JS:=by
 refine T.YW.F.ji ["run"] fun H Q E W g v m hr hb c=>⟨_,(AF<|BC (AR<|AR AH)<|Bn (A0 BD (AR AH) AE) AE AE),c.rn,AL,BM,rfl,He c (fun e1 c=>?_) fun e1 c=>?_⟩
 ·refine⟨c.rn,AL,A_,c.h.gr,AW,DZ,c.h.kp,BG,(B8 rfl),?_⟩
  replace c:=c.go same_refl<|c.h.aX<|decide ((1:Int)=1)
  exact c.done
 ·refine⟨c.rn,AL,A_,c.h.gr,AW,DZ,c.h.kp,BG,(B8 rfl),?_⟩
  replace c:=c.go same_refl<|c.h.aX<|decide ((0:Int)=1)
  exact c.done
noncomputable def HB(g:B4)(m:Ht.M):Ht.R Ht.M:=tk m fun m1 a1=>let m2:Ht.M:={m1 with kept:={m1.kept with base:=Ht.unsigned a1%65536}};.ok m2
def Rf :OA P w base 4 163 HB:=by
 refine T.OS.F.act ["run"] fun H Q E W g v m hr hb c=>⟨_,(AF<|BC (AR<|AR AH)<|AU Dz (BI AH AM T.AZ) AE),c.rn,Al,Am c fun a1 s2 H3 i4 c=>⟨(by show(0:Int)<_;decide),c.rn,AL,A_,c.h.gr,AW,DZ,c.h.kp,BG,(B8 rfl),?_⟩⟩
 replace c:=c.go same_refl<|by have q:=c.h.Va (Ht.unsigned a1%65536) (E9 _<|by decide);rw[<-show a1%65536=AD (Ht.unsigned a1%65536)from xW ⟨65536,rfl⟩<|by decide]at q;exact q
 exact c.done
noncomputable def GU(g:B4)(m:Ht.M):Ht.R Ht.M:=tk m fun m1 a1=>(if a1<0 then .error 3 else(if 6<a1 then .error 3 else let m2:Ht.M:={m1 with kept:={m1.kept with shift:=HX a1}};.ok m2))
def RB :OA P w base 4 164 GU:=by
 refine T.Me.F.act ["run","number"] fun H Q E W g v m hr hb c=>⟨_,(AB (AO 1<|BI AH AM T.AZ)<|AB (Aq (PW.pt<|Gg (A0 Dn AV AE)<|GZ<|A0 DE AV<|Bt T.k.ZT) (AF<|CJ T.c.fault BK (hr.mono<|by decide) outF rfl<|Af AE) AX)<|AF<|BC (AR<|AR AH) AV),c.rn,Al,Am c fun a1 s2 H3 i4 c=>ER c (fun e5 c=>?_) fun e5 c=>?_⟩
 ·exact(⟨_,rfl,fun d hd=>c.raise d hd⟩)
 ·refine ER c (fun e6 c=>⟨_,rfl,fun d hd=>c.raise d hd⟩) (fun e6 c=>?_)
  ·refine⟨c.rn,AL,A_,c.h.gr,AW,DZ,c.h.kp,BG,(B8 rfl),?_⟩
   obtain⟨n,rfl⟩:=qw<|show 0<=a1 by lia
   replace c:=c.go same_refl<|c.h.Ui n<|by lia
   exact c.done
noncomputable def G7(g:B4)(m:Ht.M):Ht.R Ht.M:=tk m fun m1 a1=>tk m1 fun m2 a5=>(if a5=0 then(if(kI g.kind)=1 then(if a1=1 then let m3:Ht.M:={m2 with still:=decide (0=1)};.ok m3 else(if a1=2 then let m4:Ht.M:={m2 with plain:=decide (0=1)};.ok m4 else .ok m2))else .ok m2)else(if(kI g.kind)=1 then(if a1=1 then let m5:Ht.M:={m2 with still:=decide (1=1)};.ok m5 else(if a1=2 then let m6:Ht.M:={m2 with plain:=decide (1=1)};.ok m6 else .ok m2))else .ok m2))
def Rq :OA P w base 4 165 G7:=by
 refine T.Ny.F.act ["run","which","said"] fun H Q E W g v m hr hb c=>⟨_,(AB (AO 1<|BI AH AM T.AZ)<|AB (AO 2<|Bn (A0 BD (BI AH AM T.AZ) AE) AE AE)<|AB (Aq (A0 Ep (AR AH)<|Bt T.k.wX) (AF f6) AX)<|AF<|Aq (A0 BD AV AE) (AF<|BC (AR AH) Aj)<|AF<|Aq (A0 BD AV AE) (AF<|BC (AR AH) Aj) AX),c.rn,Al,Am c fun a1 s2 H3 i4 c=>⟨c.rn,Al,Am c fun a5 s6 H7 i8 c=>⟨rfl,He c (fun e9 c=>?_) fun e9 c=>?_⟩⟩⟩
 ·refine⟨c.rn,AL,j7,rfl,UT c (fun e10 c=>?_) fun e10 c=>c.done⟩
  ·refine⟨rfl,He c (fun e11 c=>?_) fun e11 c=>?_⟩
   ·refine⟨c.rn,AL,A_,c.h.gr,AW,(B8 rfl),?_⟩
    replace c:=c.go same_refl<|c.h.Z8<|decide ((0:Int)=1)
    exact c.done
   ·refine⟨rfl,He c (fun e12 c=>?_) fun e12 c=>c.done⟩
    ·refine⟨c.rn,AL,A_,c.h.gr,AW,(B8 rfl),?_⟩
     replace c:=c.go same_refl<|c.h.set_plain<|decide ((0:Int)=1)
     exact c.done
 ·refine⟨c.rn,AL,j7,rfl,UT c (fun e13 c=>?_) fun e13 c=>c.done⟩
  ·refine⟨rfl,He c (fun e14 c=>?_) fun e14 c=>?_⟩
   ·refine⟨c.rn,AL,A_,c.h.gr,AW,(B8 rfl),?_⟩
    replace c:=c.go same_refl<|c.h.Z8<|decide ((1:Int)=1)
    exact c.done
   ·refine⟨rfl,He c (fun e15 c=>?_) fun e15 c=>c.done⟩
    ·refine⟨c.rn,AL,A_,c.h.gr,AW,(B8 rfl),?_⟩
     replace c:=c.go same_refl<|c.h.set_plain<|decide ((1:Int)=1)
     exact c.done
noncomputable def wN(b:Nat):Nat:=if b=24 then 1 else if b=25 then 0 else if b=61 then 2 else if b=125 then 3 else if b=124 then 4 else 5
noncomputable def Jz(b:Nat):Prop:=b=24\/b=25\/b=61\/b=125\/b=124\/b=122
def yo(h:Jz b):E1 (h_ A) (.inl<|AD b)=some (.int<|AD<|wN b):=by
 rcases h with rfl | rfl | rfl | rfl | rfl | rfl<;>rfl
def yE(b:Nat):wN b<=7:=by
 unfold wN
 repeat' split
 all_goals decide
noncomputable def Br(g:B4)(m:Ht.M):Ht.R Ht.M:= .ok {m with way:=wN g.byte}
def Di (TD:Ku P w K A):OB P w base 1 156 Br (Jz):=by
 refine T.EC.F.ji ["run"] fun H Q E W g v m hr hb c=>⟨_,(AF<|BC AH<|eU (DX rfl T.k.ACF<|show L2.RelV (.ref<|A.tg 7) _ from rfl) (AR AH) fun _ _=>rfl),?_⟩
 refine⟨c.rn,AL,BM,_,_,.inl<|AD g.byte,_,rfl,TD.AFt,rfl,yo hb,c.rn,AL,(B8 rfl),?_⟩
 replace c:=c.go same_refl<|c.h.lI (wN g.byte)<|yE _
 exact c.done
noncomputable def C7(g:B4)(m:Ht.M):Ht.R Ht.M:=tk m fun m a=> .ok (if g.byte=16 then{m with r0:=a}else if g.byte=17 then{m with r1:=a}else{m with r2:=a})
noncomputable def Dy(g:B4)(m:Ht.M):Ht.R Ht.M:=tk m fun m a=>wi a 2 fun j=> .ok (if g.byte=19 then{m with z0:=j}else if g.byte=20 then{m with z1:=j}else{m with z2:=j})
noncomputable def Fc(g:B4)(m:Ht.M):Ht.R Ht.M:=tk m fun m a=>wi a 2 fun j=> .ok {m with z0:=j,z1:=j,z2:=j}
def Gv :OA P w base 4 152 C7 (fun b=>b=16\/b=17\/b=18):=by
 refine T.HJ.F.act ["run"] fun H Q E W g v m hr hb c=>⟨_,(AF<|Hy (BI AH AM T.AZ)<|IC (AR AH) (AU B1 (AR AH) AE) set_list),c.rn,Al,Am c fun a s1 H1 i1 c=>?_⟩
 rcases hb with hb | hb | hb
 ·refine⟨c.rn,AL,CK,c.rn,AL,BM,_,_,_,0,rfl,rfl,c.h.refs,(by rw[hb];rfl),?_⟩
  replace c:=(c.to<|BL G1<|AI hb).go same_refl<|c.h.eN i1
  exact c.done
 ·refine⟨c.rn,AL,CK,c.rn,AL,BM,_,_,_,1,rfl,rfl,c.h.refs,(by rw[hb];rfl),?_⟩
  replace c:=(c.to<|BL G1<|by rw[AG<|by lia,AI hb]).go same_refl<|c.h.fw i1
  exact c.done
 ·refine⟨c.rn,AL,CK,c.rn,AL,BM,_,_,_,2,rfl,rfl,c.h.refs,(by rw[hb];rfl),?_⟩
  replace c:=(c.to<|BL G1<|by rw[AG<|by lia,AG<|by lia]).go same_refl<|c.h.pP i1
  exact c.done
def JG :OA P w base 4 153 Dy (fun b=>b=19\/b=20\/b=21):=by
 refine T.Jg.F.act ["run"] fun H Q E W g v m hr hb c=>⟨_,(AF<|Hy (Ah Ck T.within<|Ax (BI AH AM T.AZ) AE)<|IC (AR AH) (AU B1 (AR AH) AE) set_list),c.rn,Al,Am c fun a s1 H1 i1 c=>DR c fun w1 c=>?_⟩
 rcases hb with hb | hb | hb
 ·refine⟨c.rn,AL,C8,c.rn,AL,BM,_,_,_,0,rfl,rfl,c.h.Bj,(by rw[hb];rfl),?_⟩
  replace c:=(c.to<|BL G1<|AI hb).go same_refl<|c.h.yl w1
  exact c.done
 ·refine⟨c.rn,AL,C8,c.rn,AL,BM,_,_,_,1,rfl,rfl,c.h.Bj,(by rw[hb];rfl),?_⟩
  replace c:=(c.to<|BL G1<|by rw[AG<|by lia,AI hb]).go same_refl<|c.h.yt w1
  exact c.done
 ·refine⟨c.rn,AL,C8,c.rn,AL,BM,_,_,_,2,rfl,rfl,c.h.Bj,(by rw[hb];rfl),?_⟩
  replace c:=(c.to<|BL G1<|by rw[AG<|by lia,AG<|by lia]).go same_refl<|c.h.yF w1
  exact c.done
def Pe :OA P w base 4 154 Fc:=by
 refine T.LM.F.act ["run","zone"] fun H Q E W g v m hr hb c=>⟨_,(AB (AO 1<|Ah Ck T.within<|Ax (BI AH AM T.AZ) AE)<|AF<|BC AH<|Ba<|CH AV AV AV),c.rn,Al,Am c fun a s1 H1 i1 c=>DR c fun w1 c=>⟨(by show 3<=sizeLine;decide),fun l hl=>?_⟩⟩
 refine⟨(c.h.new (o:= .lst [.int<|AD<|Ht.unsigned a,.int<|AD<|Ht.unsigned a,.int<|AD<|Ht.unsigned a]) hl).run,AL,(B8 rfl),?_⟩
 replace c:=c.go same_refl<|c.h.z_ w1 hl
 exact c.done
noncomputable def LO(g:B4)(x:Ht.Pos):Ht.Pos:=if AD g.byte%2=1 then Ht.unit (-x.2,x.1)else Ht.unit (x.1,x.2)
noncomputable def wY(x:Ht.Pos):Prop:=x.1.natAbs<2^40/\x.2.natAbs<2^40
def S2(g:B4)(x:Ht.Pos):Sm (LO g x):=by
 unfold LO
 split<;>exact fE _
def Ga(hx:LU x)(hy:LU y):wY (Ht.less x y):=by
 unfold wY Ht.less
 obtain⟨⟨a,b⟩,c,d⟩:=hx
 obtain⟨⟨e,f⟩,p,q⟩:=hy
 have:(2:Nat)^40=1099511627776:=by decide
 rw[this]
 constructor<;>dsimp only<;>lia
inductive uQ(K:AS)(A:B3)(vs:List V)(H:Hp)(Q:VK)(E:XK):Prop
 | mk: ∀ z W v m r E' a x,vs= [.ref z.g.run,.ref a]->BX K A E' z W v m H r->Dd K W a (pV x)->wY x->(∀ p H',W p=none->BX K A E' z (upd W p (.tup (pV (LO z.g x)))) v m H' r->Q (.ref p) H')->uQ K A vs H Q E
def vb(c:BX K A E z W v m H r)(t:Dd K W a (pV x))(b:wY x)(k: ∀ p H',W p=none->BX K A E z (upd W p<|.tup<|pV<|LO z.g x) v m H' r->Q (.ref p) H'):uQ K A [.ref z.g.run,.ref a] H Q E':=⟨z,W,v,m,r,E,a,x,rfl,c,t,b,k⟩
def qT(c:BX K A E z W v m H r)(b:i.natAbs<2^40/\j.natAbs<2^40)(k: ∀ p H',W p=none->BX K A E z (upd W p<|.tup<|pV<|Ht.unit (i,j)) v m H' r->Q (.ref p) H'):cN [.int i,.int j] H Q E':=by
 exact⟨i,j,rfl,b,fun p hp=>k p _ (c.h.free hp)<|c.M4 hp⟩
def Hw :O0 P w base 4 146 ["run","line"] (uQ K A):=by
 refine T.Ic.F.DQ ["run","line"] fun H vs Q E hr h=>?_
 obtain⟨z,W,v,m,r,E',a,x,rfl,c,t,b,k⟩:=h
 refine⟨_,(AB (Aq (A0 BD (AU Dz (AR AH) AE) AE) (AF<|AY<|Ah Sx T.unit<|Ax (LL HA<|A9 By AV AE)<|A9 By AV AE) AX)<|AF<|AY<|Ah Sx T.unit<|Ax (A9 By AV AE)<|A9 By AV AE),?_⟩
 have tH:=BZ c.h.sub t
 refine⟨c.rn,AL,BM,(by show(0:Int)<_;decide),rfl,A7 (fun e=>?_) fun e=>?_⟩
 ·have e':=V.int.inj (An e)
  refine⟨tH,rfl,tH,rfl,qT c ⟨by rw[lY];exact b.2,b.1⟩ fun p H1 f c=>k p H1 f ?_⟩
  unfold LO
  rw[AI e']
  exact c
 ·refine⟨tH,rfl,tH,rfl,qT c b fun p H1 f c=>k p H1 f ?_⟩
  unfold LO
  rw[AG fun q=>e<|Av<|BL V.int q]
  exact c
noncomputable def Ct(g:B4)(m:Ht.M):Ht.R Ht.M:=tk m fun m a=>tk m fun m b=>wi b (m.zone<|zp m 1).size fun i=>wi a (m.zone<|zp m 2).size fun j=>
 if AD g.byte<8 then .ok {m with P:=LO g<|Ht.less ((m.zone<|zp m 1).at_ i)<|(m.zone<|zp m 2).at_ j,Q:=LO g<|Ht.less ((m.zone<|zp m 1).at_ i)<|(m.zone<|zp m 2).at_ j}
 else .ok {m with F:=LO g<|Ht.less ((m.zone<|zp m 1).at_ i)<|(m.zone<|zp m 2).at_ j}
noncomputable def Dl(g:B4)(m:Ht.M):Ht.R Ht.M:=tk m fun m a=>tk m fun m b=>wi a (m.zone<|zp m 2).size fun j=>wi b (m.zone<|zp m 1).size fun i=>
 .ok {m with P:=LO g<|Ht.less ((m.zone<|zp m 1).at_ i)<|(m.zone<|zp m 2).at_ j,Q:=LO g<|Ht.less ((m.zone<|zp m 1).was i)<|(m.zone<|zp m 2).was j}
def GC :OA P w base 6 147 Ct:=by
 refine T.Hg.F.act ["run","second","first","line","vector"] fun H Q E W g v m hr hb c=>⟨_,(AB (AO 1<|BI AH AM T.AZ)<|AB (AO 2<|BI AH AM T.AZ)<|AB (AO 3<|Ah Fq T.less<|Ax (AR<|Be AH A5 T.BV<|Ax AE Aj)<|AR<|Be AH A5 T.BV<|Ax AE AV)<|AB (AO 4<|Ah Hw T.Ic<|Ax AH A6)<|AF<|Aq (A0 Dn (AR AH) AE) (AF<|Ad<|Ah G0 T.HU<|Ax AH CG)<|AF<|BC AH CG),c.rn,Al,Am c fun a s1 H1 i1 c=>⟨c.rn,Al,Am c fun b s2 H2 i2 c=>⟨c.rn,B5,B9 c (by decide) fun p1 c=>?_⟩⟩⟩
 have z1:=Ci c.h.good 1
 have z2:=Ci c.h.good 2
 refine⟨c.h.pt z1 p1,Aa,CF _ _ _,c.rn,B5,B9 c (by decide) fun p2 c=>⟨c.h.pt z2 p2,Aa,CF _ _ _,UJ c (c.h.pn z1 p1) (c.h.pn z2 p2) fun t H3 f c=>vb c (Dd.of AJ) (Ga (MX c.h.good z1 p1)<|MX c.h.good z2 p2) fun u H4 f2 c=>⟨c.rn,AL,BM,ER c (fun e c=>?_) fun e c=>?_⟩⟩⟩
 ·exact fG c (Dd.of AJ) (S2 _ _) fun H5 c=>c.done
 ·refine⟨c.rn,AL,(B8 rfl),?_⟩
  replace c:=c.go same_refl<|c.h.Xs (Dd.of AJ)<|S2 _ _
  exact c.done
def JF :OA P w base 6 148 Dl:=by
 refine T.H_.F.act ["run","second","first","start","end"] fun H Q E W g v m hr hb c=>⟨_,(AB (AO 1<|BI AH AM T.AZ)<|AB (AO 2<|BI AH AM T.AZ)<|AB (AO 3<|Be AH A5 T.BV<|Ax AE AV)<|AB (AO 4<|Be AH A5 T.BV<|Ax AE Aj)<|AB (BC AH<|Ah Hw T.Ic<|Ax AH<|Ah Fq T.less<|Ax (AR CG)<|AR A6)<|AF<|BC AH<|Ah Hw T.Ic<|Ax AH<|Ah Fq T.less<|Ax (AR CG)<|AR A6),c.rn,Al,Am c fun a s1 H1 i1 c=>⟨c.rn,Al,Am c fun b s2 H2 i2 c=>?_⟩⟩
 have z1:=Ci c.h.good 1
 have z2:=Ci c.h.good 2
 refine⟨c.rn,B5,B9 c (by decide) fun p2 c=>⟨c.rn,B5,B9 c (by decide) fun p1 c=>⟨c.h.pt z1 p1,Aa,Bx _ _ _,c.h.pt z2 p2,Aa,Bx _ _ _,UJ c (c.h.po z1 p1) (c.h.po z2 p2) fun t H3 f c=>vb c (Dd.of AJ) (Ga (Ge c.h.good z1 p1)<|Ge c.h.good z2 p2) fun u H4 f2 c=>⟨c.rn,AL,(B8 rfl),?_⟩⟩⟩⟩
 replace c:=c.go same_refl<|c.h.AEk (Dd.of AJ)<|S2 _ _
 refine⟨c.h.pt z1 p1,Aa,CF _ _ _,c.h.pt z2 p2,Aa,CF _ _ _,UJ c (c.h.pn z1 p1) (c.h.pn z2 p2) fun t H3 f c=>vb c (Dd.of AJ) (Ga (MX c.h.good z1 p1)<|MX c.h.good z2 p2) fun u H4 f2 c=>⟨c.rn,AL,(B8 rfl),?_⟩⟩
 replace c:=c.go same_refl<|c.h.AEE (Dd.of AJ)<|S2 _ _
 exact c.done
def ifP{c A B:Prop} [Decidable c](h:c)(x:A):if c then A else B:=by rw[AI h];exact x
section
variable{W:Hp}{g:B4}{v:Var}{m:Ht.M}{H:Hp}{Q:VK}{E:XK}{y i:Nat}{o n:Ht.Pos}{k k':Nat}{o' n':Ht.Pos}
def a7(hy:y<2):Cd (Cd m y i o n k) y i o' n' k'=Cd m y i o' n' k':=by
 unfold Cd
 rcases Qa hy with rfl | rfl
 ·simp only[Ht.M.setZone,Ht.M.zone,D6,nS]
 ·simp only[Ht.M.setZone,Ht.M.zone,Nat.one_ne_zero,FJ,nS]
def x5(h:Good K W g v m)(hy:y<2)(hi:i<(m.zone y).size):((Cd m y i o n k).zone y).at_ i=n/\((Cd m y i o n k).zone y).was i=o/\((Cd m y i o n k).zone y).mark i=k:=by
 have q:=E4 h hy
 rw[DS hy]
 refine⟨CI hi,CI ?_,CI ?_⟩
 ·have:=q.lo;unfold Ht.Zone.size at hi;lia
 ·have:=q.lm;unfold Ht.Zone.size at hi;lia
def AA8:(Cd m y i o n k).F=m.F:=by unfold Cd Ht.M.setZone;split<;>rfl
def sN:NI (Cd m y i o n k)=NI m:=by unfold NI;rw[AA8]
def vg(h:R K A W g v m H)(k:Q (.int<|NI m) H):bg K A [.ref g.run] H Q E:=⟨W,g,v,m,rfl,h,k⟩
def tW(h:R K A W g v m H)(k: ∀ a H',W a=none->R K A (upd W a<|.tup<|pV<|m.way_ d) g v m H'->Q (.ref a) H'):Wk K A [.ref g.run,.int d] H Q E:=⟨W,g,v,m,d,rfl,h,k⟩
def zY{w:Ht.Pos}(h:R K A W g v m H)(hy:y<2)(hi:i<(m.zone y).size)(t:Dd K W a (pV w))(k: ∀ v' H',R K A W g v' (m.shift true y i w) H'->Q .non H'):gJ K A [.ref g.run,.ref<|g.pp y i,.ref a] H Q E:=⟨W,g,v,m,y,i,a,w,rfl,h,⟨hy,hi⟩,t,k⟩
def yM(h:x<8):R4 (AD x) (NI m)=AD (m.touched x):=by
 unfold NI Ht.M.touched Ht.give Ht.has Ht.INX Ht.INY
 have:=xh<|by assumption
 by_cases a:m.F.1=0<;>by_cases b:m.F.2=0<;>simp only[a,b,D6,FJ,ne_eq,pE,qt]<;>rcases this with rfl | rfl | rfl | rfl | rfl | rfl | rfl | rfl<;>decide+kernel
def vv(h:x<8):De (AD x) (7-NI m)=AD (m.untouched x):=by
 unfold NI Ht.M.untouched Ht.lose Ht.has Ht.INX Ht.INY
 have:=xh<|by assumption
 by_cases a:m.F.1=0<;>by_cases b:m.F.2=0<;>simp only[a,b,D6,FJ,ne_eq,pE,qt]<;>rcases this with rfl | rfl | rfl | rfl | rfl | rfl | rfl | rfl<;>decide+kernel
end
def OT :O0 P w base 3 54 ["run","point"] (lA K A):=by
 refine T.X2.F.DQ ["run","point"] fun H vs Q E hr h=>?_
 obtain⟨W,g,v,m,y,i,rfl,h,hy,hi,k⟩:=h
 exact⟨_,(AF<|AY<|Ah K8 T.along<|CH (AR AH) (A9 Ab (AR AV) AE)<|A9 Ab (AR AV) AE),h.run,AL,EB,h.pt hy hi,Aa,CF _ _ _,BF.of<|h.pn hy hi,rfl,h.pt hy hi,Aa,CF _ _ _,BF.of<|h.pn hy hi,rfl,_,_,_,_,_,rfl,h.tP,h.good.sP,k⟩
def sR :O0 P w base 3 55 ["run","point"] (jy K A):=by
 refine T.vp.F.DQ ["run","point"] fun H vs Q E hr h=>?_
 obtain⟨W,g,v,m,y,i,rfl,h,hy,hi,k⟩:=h
 exact⟨_,(AF<|AY<|Ah K8 T.along<|CH (AR AH) (A9 Ab (AR AV) AE)<|A9 Ab (AR AV) AE),h.run,AL,Ko,h.pt hy hi,Aa,Bx _ _ _,BF.of<|h.po hy hi,rfl,h.pt hy hi,Aa,Bx _ _ _,BF.of<|h.po hy hi,rfl,_,_,_,_,_,rfl,h.tQ,h.good.sQ,k⟩
def DT :O0 P w base 3 56 ["run","point","base"] (lB K A):=by
 refine T.D9.F.DQ ["run","point","base","line"] fun H vs Q E hr h=>?_
 obtain⟨W,g,v,m,y,i,y',i',rfl,h,⟨hy,hi⟩,⟨hy',hi'⟩,k⟩:=h
 refine⟨_,(AB (AO 3<|Ah Fq T.less<|Ax (AR AV)<|AR Aj)<|AF<|AY<|Ah K8 T.along<|CH (AR AH) (A9 By A6 AE)<|A9 By A6 AE),h.pt hy hi,Aa,CF _ _ _,h.pt hy' hi',Aa,CF _ _ _,_,_,_,_,rfl,BF.of<|h.pn hy hi,BF.of<|h.pn hy' hi',fun p hp=>?_⟩
 have h1:=h.new (o:= .tup<|pV<|Ht.less ((m.zone y).at_ i)<|(m.zone y').at_ i') hp
 exact⟨h1.run,AL,EB,Dd.of AJ,rfl,Dd.of AJ,rfl,_,_,_,_,_,rfl,h1.tP,h1.good.sP,k _ h1⟩
def EU :O0 P w base 3 57 ["run","point","base"] (kb K A):=by
 refine T.Fi.F.DQ ["run","point","base","line"] fun H vs Q E hr h=>?_
 obtain⟨W,g,v,m,y,i,y',i',rfl,h,⟨hy,hi⟩,⟨hy',hi'⟩,k⟩:=h
 refine⟨_,(AB (AO 3<|Ah Fq T.less<|Ax (AR AV)<|AR Aj)<|AF<|AY<|Ah K8 T.along<|CH (AR AH) (A9 By A6 AE)<|A9 By A6 AE),h.pt hy hi,Aa,Bx _ _ _,h.pt hy' hi',Aa,Bx _ _ _,_,_,_,_,rfl,BF.of<|h.po hy hi,BF.of<|h.po hy' hi',fun p hp=>?_⟩
 have h1:=h.new (o:= .tup<|pV<|Ht.less ((m.zone y).was i)<|(m.zone y').was i') hp
 exact⟨h1.run,AL,Ko,Dd.of AJ,rfl,Dd.of AJ,rfl,_,_,_,_,_,rfl,h1.tQ,h1.good.sQ,k _ h1⟩
def UG :O0 P w base 3 58 ["run","distance"] (Wk K A):=by
 refine T.f9.F.DQ ["run","distance"] fun H vs Q E hr h=>?_
 obtain⟨W,g,v,m,d,rfl,h,k⟩:=h
 exact⟨_,(AF<|AY<|Ah ABV T.way<|CH (AR AH) (AR AH) AV),h.run,AL,Fm,h.run,AL,EB,_,_,_,_,_,_,_,rfl,h.tF,h.tP,⟨h.good.sF,h.good.sP⟩,fun p hp=>k p _ (h.free hp)<|h.M4 hp⟩
def P_ :O0 P w base 1 59 ["run"] (bg K A):=by
 refine T.Qv.F.DQ ["run","marks"] fun H vs Q E hr h=>?_
 obtain⟨W,g,v,m,rfl,h,k⟩:=h
 refine⟨_,(AB (AO 1 AE)<|AB (Aq (A0 Ep (A9 By (AR AH) AE) AE) (AF<|jH 1 (Bt T.k.OJ) fj) AX)<|AB (Aq (A0 Ep (A9 By (AR AH) AE) AE) (AF<|jH 1 (Bt T.k.NW) fj) AX)<|AF<|AY AV),h.run,AL,Fm,h.tF,rfl,rfl,?_⟩
 unfold NI at k
 by_cases a:m.F.1=0
 ·rw[AI a]at k
  refine vM (BL V.int a)<|⟨h.run,AL,Fm,h.tF,rfl,rfl,?_⟩
  by_cases b:m.F.2=0
  ·rw[AI b]at k
   exact vM (BL V.int b)<|k
  ·rw[AG b]at k
   exact ifP (by simp[b])<|⟨_,rfl,_,_,rfl,rfl,k⟩
 ·rw[AG a]at k
  refine ifP (by simp[a])<|⟨_,rfl,_,_,rfl,rfl,h.run,AL,Fm,h.tF,rfl,rfl,?_⟩
  by_cases b:m.F.2=0
  ·rw[AI b]at k
   exact vM (BL V.int b)<|k
  ·rw[AG b]at k
   exact ifP (by simp[b])<|⟨_,rfl,_,_,rfl,rfl,k⟩
def kM{lo ln:AK}:(Na lo ln k).lookup ("put":Str)=none:=rfl
def Xh{lo ln:AK}:(Na lo ln k).lookup ("shift":Str)=none:=rfl
def bQ{lo ln:AK}:(Na lo ln k).lookup ("mark":Str)=none:=rfl
def aJ{lo ln:AK}:(Na lo ln k).lookup ("unmark":Str)=none:=rfl
def gf(x w:Ht.Pos):LU (Ht.plus x w):=⟨Dk _,Dk _⟩
def EF :O0 P w base 3 60 ["run","point","step"] (gJ K A):=by
 refine T.EH.F.DQ ["run","point","step"] fun H vs Q E hr h=>?_
 obtain⟨W,g,v,m,y,i,a,w,rfl,h,⟨hy,hi⟩,t,k⟩:=h
 refine⟨_,(AB (Ad<|Be AV NH T.Nt<|Af Aj)<|AF<|Ad<|Be AV KW T.Mb<|Af<|Ah P_ T.Qv<|Af AH),h.pt hy hi,Xh,_,_,_,_,_,_,_,w,rfl,h.pt hy hi,h.pn hy hi,BZ h.sub t,fun ln hl=>?_⟩
 have h1:=h.vd hy hi (gf ((m.zone y).at_ i) w) hl
 have hi1:i<((Cd m y i ((m.zone y).was i) (Ht.plus ((m.zone y).at_ i) w)<|(m.zone y).mark i).zone y).size:=by rw[Fh hy hy];exact hi
 obtain⟨e1,e2,e3⟩:=x5 h.good hy hi
 refine⟨h1.pt hy hi1,bQ,vg h1<|⟨_,_,_,_,_,_,rfl,h1.pt hy hi1,?_⟩⟩
 have h2:=h1.lP hy hi1<|k6 (m:=m)<|J8 h.good hy hi
 rw[e1,e2,a7 hy]at h2
 rw[Y9 true hy]at k
 rw[e3,sN,yM<|J8 h.good hy hi]
 exact k _ _ h2
def HF :O0 P w base 4 61 ["run","point","distance"] (eM K A):=by
 refine T.move.F.DQ ["run","point","distance"] fun H vs Q E hr h=>?_
 obtain⟨W,g,v,m,y,i,d,rfl,h,⟨hy,hi⟩,k⟩:=h
 exact⟨_,(AF<|Ad<|Ah EF T.EH<|CH AH AV<|Ah UG T.f9<|Ax AH Aj),tW h fun a H1 f h1=>zY h1 hy hi (Dd.of AJ) fun v2 H2 h2=>k _ _ _ (Bd f) h2⟩
def E8:(TZ c).length=c.length:=A8 ..
def ABs(h:p<c.length):(TZ c)[p]?=some (.int<|AD<|Ht.byteAt c p):=by
 unfold TZ Ht.byteAt
 rw[CZ,CQ h,Cc,CQ h]
 rfl
def OK(h:p<c.length):XA (TZ c) (AD p)=some (.int<|AD<|Ht.byteAt c p):=Em (ABs h)
def yY(c:Ht.Bytes)(p:Nat):Ht.byteAt c p<256:=by unfold Ht.byteAt;exact UInt8.toNat_lt _
noncomputable def DA(c:Ht.Bytes)(p:Nat):Nat:=if Ht.byteAt c p=64\/Ht.byteAt c p=65 then(if p+1=c.length then 2 else 2+(Ht.byteAt c p-63)*Ht.byteAt c (p+1))else if 176<=Ht.byteAt c p/\Ht.byteAt c p<=183 then 2+(Ht.byteAt c p-176)else if 184<=Ht.byteAt c p/\Ht.byteAt c p<=191 then 3+2*(Ht.byteAt c p-184)else 1
def Y4(c:Ht.Bytes)(p:Nat):1<=DA c p:=by
 unfold DA
 split
 ·split<;>lia
 ·split
  ·lia
  ·split<;>lia
def Gy(h:p<c.length):Ht.lengthAt c p=if p+DA c p<=c.length then some (DA c p)else none:=by
 unfold Ht.lengthAt DA
 generalize hb:Ht.byteAt c p=b
 dsimp only
 by_cases e1:b=64
 ·subst e1
  simp only[D6,true_or]
  by_cases e2:p+1=c.length
  ·rw[AG<|by lia,AI e2,AG<|by lia]
  ·rw[AI<|by lia,AG e2]
   simp only[Nat.reduceSub,ql]
 ·by_cases e2:b=65
  ·subst e2
   simp only[D6,or_true,Nat.reduceEqDiff,FJ]
   by_cases e3:p+1=c.length
   ·rw[AG<|show ¬ p+1<c.length by lia,AI e3,AG<|show ¬ p+2<=c.length by lia]
   ·rw[AI<|show p+1<c.length by lia,AG e3]
  ·rw[AG e1,AG e2,AG<|show ¬(b=64\/b=65) by lia]
   by_cases e3:176<=b/\b<=183
   ·rw[AI e3,AI e3]
   ·rw[AG e3,AG e3]
    by_cases e4:184<=b/\b<=191
    ·rw[AI e4,AI e4,show 1+2*(b-184+1)=3+2*(b-184) by lia]
    ·rw[AG e4,AG e4]
inductive AAl(K:AS)(vs:List V)(H:Hp)(Q:VK)(E_:XK):Prop
 | mk: ∀ a c p,vs= [.ref a,.int (AD p)]->BF K H a (TZ c)->p<c.length->Q (.int (AD (DA c p))) H->AAl K vs H Q E_
def ZK :O0 P w base 1 29 ["code","place"] (AAl K):=by
 refine T.YY.F.DQ ["code","place","byte"] fun H vs Q E hr h=>?_
 obtain⟨a,c,p,rfl,hl,hp,q⟩:=h
 refine⟨_,(AB (AO 2<|A9 Ab AH AV)<|AB (Aq (PW.pt<|Gg (A0 BD Aj AE)<|GZ<|A0 BD Aj AE) (AB (Aq (A0 BD (AU BJ AV AE)<|Dc T.k.CD<|Af AH) (AF<|AY AE) AX)<|AF<|AY<|AU BJ AE<|AU Bb (AU B1 Aj AE)<|A9 Ab AH<|AU BJ AV AE) AX)<|AB (Aq (LH IM IM AE Aj AE) (AF<|AY<|AU BJ AE<|AU B1 Aj AE) AX)<|AB (Aq (LH IM IM AE Aj AE) (AF<|AY<|AU BJ AE<|AU Bb AE<|AU B1 Aj AE) AX)<|AF<|AY AE),hl,OK hp,?_⟩
 have fin: ∀ x:Int,x=AD (DA c p)->Q (.int x) H:=fun x e=>e▸q
 unfold DA at fin
 have pair:p+1≠c.length->XA (TZ c) (AD p+1)=some (.int<|AD<|Ht.byteAt c<|p+1):=fun n=>OK<|by lia
 generalize hb:Ht.byteAt c p=b at*
 generalize hb2:Ht.byteAt c (p+1)=b2 at*
 have two:(b=64\/b=65)->vm (vS (XY<|g5 rEq (g5 (WT fun i j=> .int<|i+j) (Jd 1)<|tC<|.int 1)<|tCB (ABI K)<|KH (Jd 0) UC) (dF<|tC<|.int 2) Zw) (dF<|g5 (WT fun i j=> .int<|i+j) (tC<|.int 2)<|g5 (rI rR fun i j=> .int<|i*j) (g5 (WT fun i j=> .int<|i-j) (Jd 2)<|tC<|.int 63)<|g5 (xD K) (Jd 0)<|g5 (WT fun i j=> .int<|i+j) (Jd 1)<|tC<|.int 1) {nx:=fun _ H'=>Q .non H',rt:=Q} [some<|.ref a,some<|.int<|AD p,some<|.int<|AD b] H:=by
  intro e12
  rw[AI e12]at fin
  refine⟨.inl hl,rfl,A7 (fun e=>?_) fun e=>?_⟩
  ·have e':=V.int.inj (An e)
   rw[E8]at e'
   have e2:=B7 e'
   rw[AI e2]at fin
   exact fin _ rfl
  ·have e2:p+1≠c.length:=fun z=>e (Av<|by rw[E8,<-z];rfl)
   rw[AG e2]at fin
   refine⟨hl,pair e2,.inl<|by lia,fin _ ?_⟩
   have:(AD b-63)=AD (b-63):=by show(b:Int)-63=((b-63:Nat):Int);lia
   rw[this]
   rfl
 refine⟨rfl,A7 (fun e=>(two<|.inl<|B7<|V.int.inj<|An e)) fun e=>?_⟩
 have n1:b≠64:=fun z=>e<|Av<|by rw[z];rfl
 refine⟨rfl,A7 (fun e=>two<|.inr<|B7<|V.int.inj<|An e) fun e=>?_⟩
 have n2:b≠65:=fun z=>e<|Av<|by rw[z];rfl
 rw[AG<|by lia]at fin
 have third: ¬(176<=b/\b<=183)->vm (vS (XY<|cY (WT fun i j=> .bl<|decide (i<=j)) (WT fun i j=> .bl<|decide (i<=j)) (tC<|.int 184) (Jd 2)<|tC<|.int 191) (dF<|g5 (WT fun i j=> .int<|i+j) (tC<|.int 3)<|g5 (rI rR fun i j=> .int<|i*j) (tC<|.int 2)<|g5 (WT fun i j=> .int<|i-j) (Jd 2)<|tC<|.int 184) Zw) (dF<|tC<|.int 1) {nx:=fun _ H'=>Q .non H',rt:=Q} [some<|.ref a,some<|.int<|AD p,some<|.int<|AD b] H:=by
  intro n3
  rw[AG n3]at fin
  refine⟨_,rfl,A7 (fun e=>?_) fun e=>?_⟩
  ·have e3:=Bf.mp (An e)
   refine A7 (fun e=>?_) fun e=>?_
   ·have e4:=Bf.mp (An e)
    rw[AI ⟨e3,e4⟩]at fin
    refine⟨.inl ⟨by decide,by decide⟩,fin _ ?_⟩
    lia
   ·have e4: ¬ b<=191:=fun z=>e (Av<|Bf.mpr z)
    rw[AG fun z=>e4 z.2]at fin
    exact fin _ rfl
  ·have e3: ¬ 184<=b:=fun z=>e (Av<|Bf.mpr z)
   rw[AG fun z=>e3 z.1]at fin
   exact(fin _ rfl)
 refine⟨_,rfl,A7 (fun e=>?_) fun e=>(third fun z=>e<|Av<|Bf.mpr z.1)⟩
 ·have e3:=Bf.mp (An e)
  refine A7 (fun e=>?_) fun e=>third fun z=>e<|Av<|Bf.mpr z.2
  ·have e4:=Bf.mp (An e)
   rw[AI ⟨e3,e4⟩]at fin
   refine fin _ ?_
   lia
inductive i_(K:AS)(vs:List V)(H:Hp)(Q:VK)(E:XK):Prop
 | mk: ∀ a c p,vs= [.ref a,.int (AD p)]->BF K H a (TZ c)->p<c.length->((c.length<p+DA c p->Ex E H 4))->((p+DA c p<=c.length->Q (.int (AD (p+DA c p))) H))->i_ K vs H Q E
def Ts :OF P w base 3 30 ["code","place"] (i_ K):=by
 refine T.behind.F.Vm ["code","place","after"] fun H vs Q E hr h=>?_
 obtain⟨a,c,p,rfl,hl,hp,he,k⟩:=h
 refine⟨_,(AB (AO 2<|AU BJ AV<|Ah ZK T.YY<|Ax AH AV)<|AB (Aq (A0 DE Aj<|Dc T.k.CD<|Af AH) (AF<|CJ T.c.fault BK (hr.mono<|by decide) outF rfl<|Af AE) AX)<|AF<|AY Aj),_,_,_,rfl,hl,hp,.inl hl,A7 (fun e=>?_) fun e=>?_⟩
 ·have e':=An e
  rw[E8]at e'
  exact⟨_,rfl,he<|BQ.mp e'⟩
 ·have e':=Ey (Er.mpr e)
  rw[E8]at e'
  exact k<|Ec fun z=>e'<|BQ.mpr z
inductive ABz(K:AS)(vs:List V)(H:Hp)(Q:VK)(E:XK):Prop
 | mk: ∀ a c p e,vs= [.ref a,.int (AD p),.bl e]->BF K H a (TZ c)->p<=c.length->((∀ n,Ht.sought c e (c.length+1) p 0= .error n->Ex E H n))->((∀ q,Ht.sought c e (c.length+1) p 0= .ok q->Q (.int (AD q)) H))->ABz K vs H Q E
inductive ABc(K:AS)(vs:List V)(H:Hp)(Q:VK)(E:XK):Prop
 | mk: ∀ a c p,vs= [.ref a,.int (AD p)]->BF K H a (TZ c)->p<=c.length->((∀ n,Ht.ended c (c.length+1) p= .error n->Ex E H n))->((∀ q,Ht.ended c (c.length+1) p= .ok q->Q (.int (AD q)) H))->ABc K vs H Q E
noncomputable def slot1(σ:List (Option V)):Nat:=match σ.getD 1 none with
 | some (V.int i)=>i.toNat
 | _=>0
theorem ki(hn:c.length<p+n)(hp:c.length<=p)(hp2:p<=c.length):Ht.sought c e n p d= .error 4:=by
 cases n with
 | zero=>lia
 | succ n=>unfold Ht.sought;rw[AI hp];rfl
theorem lD(hp:p<c.length)(hn:c.length<p+n)(hk:c.length<p+DA c p):Ht.sought c e n p d= .error 4:=by
 cases n with
 | zero=>lia
 | succ n=>unfold Ht.sought;rw[AG<|by lia,Gy hp,AG<|by lia];rfl
def U3(hp:p<c.length)(hk:p+DA c p<=c.length):Ht.sought c e (n+1) p d=
  if Ht.byteAt c p=0x58 then Ht.sought c e n (p+DA c p) (d+1)
  else if Ht.byteAt c p=0x59 then(if d=0 then .ok (p+DA c p)else Ht.sought c e n (p+DA c p) (d-1))
  else if Ht.byteAt c p=0x1B/\d=0/\e=true then .ok (p+DA c p)
  else Ht.sought c e n (p+DA c p) d:=by
 conv=>lhs;unfold Ht.sought
 rw[AG<|by lia,Gy hp,AI hk]
theorem rS(hn:c.length<p+n)(hp:c.length<=p)(hp2:p<=c.length):Ht.ended c n p= .error 4:=by
 cases n with
 | zero=>lia
 | succ n=>unfold Ht.ended;rw[AI hp];rfl
theorem rm(hp:p<c.length)(hn:c.length<p+n)(hk:c.length<p+DA c p):Ht.ended c n p= .error 4:=by
 cases n with
 | zero=>lia
 | succ n=>unfold Ht.ended;rw[AG<|by lia,Gy hp,AG<|by lia];rfl
def Xn(hp:p<c.length)(hk:p+DA c p<=c.length):Ht.ended c (n+1) p=
  if Ht.byteAt c p=0x2C then .error 6 else if Ht.byteAt c p=0x2D then .ok (p+DA c p)else Ht.ended c n (p+DA c p):=by
 conv=>lhs;unfold Ht.ended
 rw[AG<|by lia,Gy hp,AI hk]
 rfl
theorem O9: ∀{n p d q:Nat},Ht.sought c e n p d= .ok q->q<=c.length
 | 0,p,d,q,h=>by unfold Ht.sought at h;cases h
 | n+1,p,d,q,h=>by
  by_cases hp:p<c.length
  ·by_cases hk:p+DA c p<=c.length
   ·rw[U3 hp hk]at h
    split at h
    ·exact O9 h
    ·split at h
     ·split at h
      ·cases h;exact hk
      ·exact O9 h
     ·split at h
      ·cases h;exact hk
      ·exact O9 h
   ·unfold Ht.sought at h;rw[AG<|by lia,Gy hp,AG hk]at h;cases h
  ·unfold Ht.sought at h;rw[AI<|by lia]at h;cases h
theorem iI: ∀{n p q:Nat},Ht.ended c n p= .ok q->q<=c.length
 | 0,p,q,h=>by unfold Ht.ended at h;cases h
 | n+1,p,q,h=>by
  by_cases hp:p<c.length
  ·by_cases hk:p+DA c p<=c.length
   ·rw[Xn hp hk]at h
    split at h
    ·cases h
    ·split at h
     ·cases h;exact hk
     ·exact iI h
   ·unfold Ht.ended at h;rw[AG<|by lia,Gy hp,AG hk]at h;cases h
  ·unfold Ht.ended at h;rw[AI<|by lia]at h;cases h
def Kr :OF P w base 4 31 ["code","place","else_ends"] (ABz K):=by
 refine T.Kb.F.Vm ["code","place","else_ends","nested","byte"] fun H vs Q E hr h=>?_
 obtain⟨a,c,p,e,rfl,hl,hp,he,k⟩:=h
 refine⟨_,(AB (AO 3 AE)<|AB (JO PassesOwn.leaving (A0 Dn AV<|Dc T.k.CD<|Af AH)<|AB (AO 4<|A9 Ab AH AV)<|AB (AO 1<|Ah Ts T.behind<|Ax AH AV)<|AF<|Aq (A0 BD CG<|Bt T.k.AFk) (AF<|jH 3 AE fj)<|AF<|Aq (PW.pt<|UZ (A0 BD A6 AE)<|Oq<|PW.pt<|Gg (A0 BD CG<|Bt T.k.AAq)<|GZ<|PW.pt<|UZ (MV Aj)<|Oq<|A0 BD CG<|Bt T.k.AB7) (AF<|AY AV)<|AF<|Aq (A0 BD CG<|Bt T.k.AAq) (AF<|jH 3 AE ACN) AX)<|AF<|CJ T.c.fault BK (hr.mono<|by decide) outF rfl<|Af AE),Nm (fun σ H'=>H'=H/\ ∃(p' n' d:Nat) (x:Option V),σ= [some<|.ref a,some<|.int<|AD p',some<|.bl e,some<|.int<|AD d,x]/\p'<=c.length/\c.length<p'+n'/\Ht.sought c e n' p' d=Ht.sought c e (c.length+1) p 0) (fun σ _=>c.length-slot1 σ) ⟨rfl,p,c.length+1,0,none,rfl,hp,by lia,rfl⟩ ?_ fun σ H1 Q1 Q2 hq h=>Je.mono h fun x h=>Je.mono h fun y h=>QK.mono h fun p ⟨e,h⟩=>⟨e,RI.mono h fun i h=>hq _ _ h⟩⟩
 ·rintro σ H1 ⟨rfl,p',n',d,x,rfl,hp',hn,hs⟩
  refine⟨.inl hl,A7 (fun t=>?_) fun t=>?_⟩
  ·have t':=An t
   rw[E8]at t'
   have hlt:=BQ.mp t'
   refine⟨hl,OK hlt,⟨_,_,_,rfl,hl,hlt,fun bad=>(he 4<|hs.symm.trans<|lD hlt hn bad),fun hk=>?_⟩⟩
   obtain⟨n'',rfl⟩: ∃ z,n'=z+1:=⟨n'-1,by lia⟩
   rw[U3 hlt hk]at hs
   have lp:=Y4 c p'
   have μ': ∀(y z u:Option V),c.length-slot1 [some<|.ref a,some<|.int<|AD<|p'+DA c p',y,z,u]<c.length-slot1 [some<|.ref a,some<|.int<|AD p',some<|.bl e,some<|.int<|AD d,x]:=fun y z u=>by
    show c.length- (p'+DA c p')<c.length-p'
    lia
   have fl:c.length<p'+DA c p'+n'':=by lia
   generalize hb:Ht.byteAt c p'=b at hs ⊢
   refine⟨rfl,A7 (fun t=>?_) fun t=>?_⟩
   ·rw[AI<|B7<|V.int.inj<|An t]at hs
    exact⟨_,rfl,_,_,rfl,rfl,⟨rfl,_,n'',d+1,_,rfl,hk,fl,hs⟩,μ' _ _ _⟩
   have n1: ¬ b=88:=fun z=>t<|Av<|by rw[z];rfl
   rw[AG n1]at hs
   refine⟨rfl,A7 (fun t=>?_) fun t=>?_⟩
   ·have d0:=B7 (V.int.inj<|An t)
    subst d0
    refine⟨rfl,A7 (fun t=>?_) fun t=>?_⟩
    ·have e2:=B7 (V.int.inj<|An t)
     rw[AI e2,AI rfl]at hs
     exact(k _ hs.symm)
    have n2: ¬ b=89:=fun z=>t<|Av<|by rw[z];rfl
    rw[AG n2]at hs
    cases e
    ·rw[AG fun z=>D0 z.2.2]at hs
     exact(⟨rfl,A7 (fun t=>absurd (B7<|V.int.inj<|An t) n2) fun t=>⟨⟨rfl,_,n'',0,_,rfl,hk,fl,hs⟩,μ' _ _ _⟩⟩)
    ·refine⟨rfl,A7 (fun t=>?_) fun t=>?_⟩
     ·rw[AI ⟨B7<|V.int.inj<|An t,rfl,rfl⟩]at hs
      exact k _ hs.symm
     ·have n3: ¬ b=27:=fun z=>t (Av<|by rw[z];rfl)
      rw[AG fun z=>n3 z.1]at hs
      exact⟨rfl,A7 (fun t=>absurd (B7<|V.int.inj<|An t) n2) fun t=>⟨⟨rfl,_,n'',0,_,rfl,hk,fl,hs⟩,μ' _ _ _⟩⟩
   ·have d1: ¬ d=0:=fun z=>t (Av<|by rw[z];rfl)
    refine⟨rfl,A7 (fun t=>?_) fun t=>?_⟩
    ·rw[AI<|B7<|V.int.inj<|An t,AG d1]at hs
     obtain⟨d',rfl⟩: ∃ z,d=z+1:=⟨d-1,by lia⟩
     refine⟨_,rfl,_,_,rfl,rfl,⟨rfl,_,n'',d',some<|.int<|AD b,?_,hk,fl,hs⟩,μ' _ _ _⟩
     show [some<|V.ref a,_,_,some<|V.int<|AD (d'+1)-1,_]= [some<|V.ref a,_,_,some<|V.int<|AD d',_]
     rw[show AD (d'+1)-1=AD d' by show((d'+1:Nat):Int)-1=(d':Int);lia]
    ·have n2: ¬ b=89:=fun z=>t (Av<|by rw[z];rfl)
     rw[AG n2,AG fun z=>d1 z.2.1]at hs
     exact⟨⟨rfl,_,n'',d,_,rfl,hk,fl,hs⟩,μ' _ _ _⟩
  ·have t':=Ey (Er.mpr t)
   rw[E8]at t'
   exact⟨_,rfl,he 4<|hs.symm.trans<|ki hn (Ec fun z=>t'<|BQ.mpr z) hp'⟩
def Q7 :OF P w base 4 32 ["code","place"] (ABc K):=by
 refine T.Mt.F.Vm ["code","place","byte"] fun H vs Q E hr h=>?_
 obtain⟨a,c,p,rfl,hl,hp,he,k⟩:=h
 refine⟨_,(AB (JO PassesOwn.leaving (A0 Dn AV<|Dc T.k.CD<|Af AH)<|AB (AO 2<|A9 Ab AH AV)<|AB (AO 1<|Ah Ts T.behind<|Ax AH AV)<|AB (Aq (A0 BD Aj<|Bt T.k.ACG) (AF<|CJ T.c.fault BK (hr.mono<|by decide) outF rfl<|Af AE) AX)<|AF<|Aq (A0 BD Aj<|Bt T.k.ABT) (AF<|AY AV) AX)<|AF<|CJ T.c.fault BK (hr.mono<|by decide) outF rfl<|Af AE),Nm (fun σ H'=>H'=H/\ ∃(p' n':Nat) (x:Option V),σ= [some<|.ref a,some<|.int<|AD p',x]/\p'<=c.length/\c.length<p'+n'/\Ht.ended c n' p'=Ht.ended c (c.length+1) p) (fun σ _=>c.length-slot1 σ) ⟨rfl,p,c.length+1,none,rfl,hp,by lia,rfl⟩ ?_ fun σ H1 Q1 Q2 hq h=>Je.mono h fun x h=>Je.mono h fun y h=>QK.mono h fun p ⟨e,h⟩=>⟨e,RI.mono h fun i h=>hq _ _ h⟩⟩
 ·rintro σ H1 ⟨rfl,p',n',x,rfl,hp',hn,hs⟩
  refine⟨.inl hl,A7 (fun t=>?_) fun t=>?_⟩
  ·have t':=An t
   rw[E8]at t'
   have hlt:=BQ.mp t'
   refine⟨hl,OK hlt,⟨_,_,_,rfl,hl,hlt,fun bad=>(he 4<|hs.symm.trans<|rm hlt hn bad),fun hk=>?_⟩⟩
   obtain⟨n'',rfl⟩: ∃ z,n'=z+1:=⟨n'-1,by lia⟩
   rw[Xn hlt hk]at hs
   have lp:=Y4 c p'
   generalize hb:Ht.byteAt c p'=b at hs ⊢
   refine⟨rfl,A7 (fun t=>?_) fun t=>?_⟩
   ·have e1:=B7 (V.int.inj<|An t)
    rw[AI e1]at hs
    exact⟨_,rfl,he 6 hs.symm⟩
   have n1: ¬ b=44:=fun z=>t<|Av<|by rw[z];rfl
   rw[AG n1]at hs
   refine⟨rfl,A7 (fun t=>?_) fun t=>?_⟩
   ·have e2:=B7 (V.int.inj<|An t)
    rw[AI e2]at hs
    exact k _ hs.symm
   ·have n2: ¬ b=45:=fun z=>t (Av<|by rw[z];rfl)
    rw[AG n2]at hs
    refine⟨⟨rfl,_,n'',_,rfl,hk,by lia,hs⟩,?_⟩
    show c.length- (p'+DA c p')<c.length-p'
    lia
  ·have t':=Ey (Er.mpr t)
   rw[E8]at t'
   exact⟨_,rfl,he 4<|hs.symm.trans<|rS hn (Ec fun z=>t'<|BQ.mpr z) hp'⟩
end GF
end
section
namespace GF
open PySem PySem.Spec PyProof.Rows L2
section
variable{K:AS}{A:B3}{W W':Hp}{g:B4}{v v':Var}{m m':Ht.M}{H H':Hp}{Q:VK}{E:XK}{z:Fx}
def BX.fin(c:BX K A E z W v m H (.ok m'))(s:Bc W W')(h:R K A W' z.g v' m' H')(hs:m'.steps=m.steps:=by rfl):z.Q .non H':=c.q _ _ _ (fun b o e=>s b o<|c.s b o e) h (hs.trans c.hs)
theorem AE4: ∀ n (l:List Nat),l.Nodup->(∀ x∈l,x<n)->l.length<=n
 | 0,l,_,h=>by
  cases l with
  | nil=>exact BS _
  | cons a l=>have:=h a<|Dx ..;lia
 | n+1,l,nd,h=>by
  have:=AE4 n (l.erase n) (nd.erase _) (fun x hx=>by
   have hx2:=(zg nd).mp hx
   have:=h x hx2.2
   have:=hx2.1
   lia)
  rw[List.length_erase]at this
  split at this<;>lia
noncomputable def AGF:Key->Nat
 | .inl i=>i.toNat
 | .inr _=>0
def pig(n:Nat)(l:List Key)(nd:l.Nodup)(h: ∀ x∈l,∃ k,k<n/\x=II (AD k)):l.length<=n:=by
 have q:=AE4 n (l.map AGF) (qQ.mpr<|yd (fun{a b} ha hb ne=>by
  obtain⟨k,_,rfl⟩:=h a ha
  obtain⟨j,_,rfl⟩:=h b hb
  exact fun e=>ne<|BL (fun t:Nat=>(II (AD t):Key))<|e) nd) (fun x hx=>by
   obtain⟨y,hy,e⟩:=Fv.mp hx
   obtain⟨k,hk,rfl⟩:=h y hy
   rw[<-e]
   exact hk)
 rwa[A8]at q
def wa(BU:List (Key×V))(k:Key)(x:V): ∀ p∈putK BU k x,p=(k,x)\/p∈BU:=by
 intro p hp
 unfold putK at hp
 split at hp
 ·obtain⟨q,hq,e⟩:=Fv.mp hp
  split at e
  ·rename_i e2;exact .inl<|by rw[<-e,e2]
  ·exact .inr<|e▸hq
 ·rcases Ly.mp hp with q | q
  ·exact .inr q
  ·exact .inl<|bp.mp q
theorem zt{BU:List (Key×V)}{k:Key}{x:V}(hn:(BU.map (·.1)).Nodup):((putK BU k x).map (·.1)).Nodup:=by
 cases e:E1 BU k with
 | none=>exact xy x hn e
 | some y=>
  have a:(BU.any fun kv=>decide (kv.1=k))=true:=by rw[JP,e];rfl
  have:(putK BU k x).map (·.1)=BU.map (·.1):=by
   unfold putK
   rw[AI a,Om]
   apply PM
   intro q _
   show(if q.1=k then(q.1,x)else q).1=q.1
   split<;>rfl
  rw[this]
  exact hn
def ZP.put(h:ZP BU funs)(hn:n<256):ZP (putK BU (.inl<|AD n)<|.int<|AD p) ((n,p)::funs):=by
 obtain⟨h1,h2,h3,h4⟩:=h
 have keys: ∀ q∈putK BU (.inl<|AD n) (.int<|AD p),∃ n k:Nat,n<256/\q=(.inl<|AD n,.int<|AD k):=fun q hq=>by
  rcases wa _ _ _ q hq with e | e
  ·exact⟨n,p,hn,e⟩
  ·exact h3 q e
 have nd:=zt (k:= .inl<|AD n) (x:= .int<|AD p) h2
 refine⟨?_,nd,keys,fun j=>?_⟩
 ·have:=pig 256 _ nd (fun x hx=>by
   obtain⟨q,hq,e⟩:=Fv.mp hx
   obtain⟨a,b,ha,e2⟩:=keys q hq
   exact⟨a,ha,by rw[<-e,e2]⟩)
  rwa[A8]at this
 ·have q:=wU BU (.inl<|AD n) (.inl<|AD j) (V.int<|AD p)
  unfold E1 at q
  rw[q,h4 j,Jm]
  by_cases e:j=n
  ·subst e
   rw[AI rfl]
   simp
  ·rw[AG fun z=>e<|B7<|fy z]
   have:=Jt.mpr fun z=>e z.symm
   rw[this]
def R.AB0(h:R K A W g v m H)(hf:g.kind= .font)(hn:n<256)(hp:p<=g.c.font.length):R K A W g {v with BU:=putK v.BU (.inl<|AD n)<|.int<|AD p} {m with funs:=(n,p)::m.funs} (upd H g.fn<|.dK<|putK v.BU (.inl<|AD n)<|.int<|AD p):=
 h.Ef .fn (AI hf) (AI hf) {h.good with
  fns:=fun z=>absurd hf z,Vh:=h.good.Vh.put hn,bq:=fun x hx=>by
                                rcases Ce.mp hx with q | q
                                ·rw[q];exact hp
                                ·exact h.good.bq x q}
def Vp{y:Ht.Going}{l:List Ht.Going}:l.length<(y::l).length:=PD _
def Sa{y:Ht.Going}{l:List Ht.Going}{j:Nat}(h:j<l.length):j<(y::l).length:=V0 h
def YQ{y:Ht.Going}{l:List Ht.Going}{j:Nat}(h: ¬ j<l.length)(ne:j≠l.length): ¬ j<(y::l).length:=by show ¬ j<l.length+1;lia
def cj{y:Ht.Going}{l:List Ht.Going}{d:Ht.Going}:(y::l).reverse.getD l.length d=y:=by
 rw[qj,Cc,WN<|by rw[Ei];exact BS _,Ei,TL]
 rfl
def cF{y:Ht.Going}{l:List Ht.Going}{d:Ht.Going}{j:Nat}(h:j<l.length):(y::l).reverse.getD j d=l.reverse.getD j d:=by
 rw[qj,Cc,Vn<|by rw[Ei];exact h,Cc]
def R.AEi(h:R K A W g v m H)(e:m.going=y::l):H (v.K1 l.length)=some (.ins (A.cl 2) (v.cp l.length)<|XD g y):=by
 have q:=h.fr<|by rw[e];exact PD _
 rw[e,cj]at q
 exact q
def R.ABQ(h:R K A W g v m H)(e:m.going=y::l)(x:Int):R K A W g v {m with going:={y with left:=x}::l} (upd H (v.K1 l.length)<|.ins (A.cl 2) (v.cp l.length)<|DJ "left" (.int x)<|XD g y):=by
 refine h.Ef (.fr l.length) (o:= .ins (A.cl 2) (v.cp l.length)<|XD g y) ?_ ?_ (s:=fun u hu=>?_) {h.good with going:=?_,gS:=?_,eQ:=?_}
 ·simp only[want]
  rw[e,AI Vp,cj]
 ·show(if l.length<({y with left:=x}::l:List Ht.Going).length then some (v.K1 l.length,HO.ins (A.cl 2) (v.cp l.length)<|XD g<|({y with left:=x}::l:List Ht.Going).reverse.getD l.length ⟨0,0,0,false⟩)else none)=_
  rw[AI Vp,cj]
  rfl
 ·have:=h.good.going;rw[e]at this;exact this
 ·have q:=h.good.gS;rw[e]at q
  intro z hz
  rcases Ce.mp hz with r | r
  ·rw[r];exact q y<|Dx ..
  ·exact q z<|Cz _ r
 ·have q:=h.good.eQ;rw[e]at q;exact q
 ·cases u with
  | CL=>simp only[want];rw[e];rfl
  | fr j=>
   have ne:j≠l.length:=fun q=>hu<|by rw[q]
   show(if j<({y with left:=x}::l:List Ht.Going).length then some (v.K1 j,HO.ins (A.cl 2) (v.cp j)<|XD g<|({y with left:=x}::l:List Ht.Going).reverse.getD j ⟨0,0,0,false⟩)else none)=(if j<m.going.length then some (v.K1 j,HO.ins (A.cl 2) (v.cp j)<|XD g<|m.going.reverse.getD j ⟨0,0,0,false⟩)else none)
   rw[e]
   by_cases q:j<l.length
   ·rw[AI<|Sa q,AI<|Sa q,cF q,cF q]
   ·rw[AG<|YQ q ne,AG<|YQ q ne]
  | _=>rfl
def R.AEc(h:R K A W g v m H)(e:m.going=y::l):R K A W g v {m with going:=l} (upd H g.CL<|.lst<|(BO l.length).map fun j=> .ref<|v.K1 j):=by
 have e0:want A g v m .CL=some (g.CL,.lst<|(BO m.going.length).map fun j=> .ref<|v.K1 j):=rfl
 have gd:=h.good
 refine h.core (fun _=>none) (fun t a o et=>?_) (fun a o ea=>⟨by rw[AQ<|h.Q3 e0 ea];exact h.sub _ _ ea,.inr ⟨rfl,_,ea⟩⟩) {gd with going:=?_,gS:=?_,eQ:=?_}
 ·by_cases ht:t= .CL
  ·subst ht
   cases et
   exact⟨AJ,.inr ⟨rfl,_,e0⟩⟩
  ·have et2:want A g v m t=some (a,o):=by
    cases t with
    | fr j=>
     have et':(if j<l.length then some (v.K1 j,HO.ins (A.cl 2) (v.cp j)<|XD g<|l.reverse.getD j ⟨0,0,0,false⟩)else none)=some (a,o):=et
     by_cases q:j<l.length
     ·rw[AI q]at et'
      show(if j<m.going.length then some (v.K1 j,HO.ins (A.cl 2) (v.cp j)<|XD g<|m.going.reverse.getD j ⟨0,0,0,false⟩)else none)=some (a,o)
      rw[e,AI<|Sa q,cF q]
      exact et'
     ·rw[AG q]at et';cases et'
    | CL=>exact absurd rfl ht
    | _=>exact et
   exact⟨by rw[AQ<|h.apart e0 et2 ht];exact h.at_ et2,.inr ⟨rfl,_,et2⟩⟩
 ·have:=gd.going;rw[e]at this;exact MA this
 ·have q:=gd.gS;rw[e]at q
  exact fun z hz=>q z<|Cz _ hz
 ·have q:=gd.eQ;rw[e]at q
  rw[q.1]
  exact q.2.tt
structure RO(A:B3)(W:Hp)(g:B4)(v:Var)(m:Ht.M)(H:Hp):Prop where
 o: ∃ O:AK->Tag,(∀ t a o,want A g v m t=some (a,o)->H a=some o/\O a=t)/\ ∀ a o,W a=some o->H a=some o/\O a= .rest
def R.ro(h:R K A W g v m H):RO A W g v m H:=⟨h.o⟩
def RO.at_(h:RO A W g v m H){t:Tag}{o:HO}(e:want A g v m t=some (a,o)):H a=some o:=by
 obtain⟨O,h1,_⟩:=h.o
 exact(h1 t a o e).1
def RO.run(h:RO A W g v m H):H g.run=some (.ins (A.cl 1) g.Qn<|DV g v m):=h.at_ (t:= .run) rfl
def RO.Ef(h:RO A W g v m H)(t:Tag){a:AK}{o o':HO}(e:want A g v m t=some (a,o))(e':want A g v' m' t=some (a,o'))(s: ∀ u,u≠t->want A g v' m' u=want A g v m u):RO A W g v' m' (upd H a o'):=by
 obtain⟨O,h1,h2⟩:=h.o
 refine⟨O,fun u b ob eb=>?_,fun b ob eb=>?_⟩
 ·by_cases hu:u=t
  ·subst hu
   rw[e']at eb
   cases eb
   exact⟨AJ,(h1 u a o e).2⟩
  ·rw[s u hu]at eb
   have ne:b≠a:=fun q=>hu<|by rw[q]at eb;exact(h1 u a ob eb).2.symm.trans (h1 t a o e).2
   exact⟨by rw[AQ ne];exact(h1 u b ob eb).1,(h1 u b ob eb).2⟩
 ·have ne:b≠a:=fun q=>dN e (by rw[q]at eb;exact(h1 t a o e).2.symm.trans (h2 a ob eb).2)
  exact⟨by rw[AQ ne];exact(h2 b ob eb).1,(h2 b ob eb).2⟩
def RO.fZ(h:RO A W g v m H)(t u:Tag){a l:AK}{o o' ou:HO}(f:H l=none)(e:want A g v m t=some (a,o))(e':want A g v' m' t=some (a,o'))(eu:want A g v' m' u=some (l,ou))
  (s: ∀ x,x≠t->x≠u->want A g v' m' x=want A g v m x) (tu:u≠t):RO A W g v' m' (upd (upd H l ou) a o'):=by
 obtain⟨O,h1,h2⟩:=h.o
 have al:=Ac (h1 t a o e).1 f
 refine⟨fun b=>if b=l then u else O b,fun x b ob eb=>?_,fun b ob eb=>?_⟩
 ·by_cases hx:x=t
  ·subst hx
   rw[e']at eb
   cases eb
   exact⟨AJ,(AG al).trans (h1 x a o e).2⟩
  ·by_cases hu:x=u
   ·subst hu
    rw[eu]at eb
    cases eb
    exact⟨by rw[AQ al.symm];exact AJ,AI rfl⟩
   ·rw[s x hx hu]at eb
    have n:=Ac (h1 x b ob eb).1 f
    have ne:b≠a:=fun q=>hx<|by rw[q]at eb;exact(h1 x a ob eb).2.symm.trans (h1 t a o e).2
    exact⟨by rw[AQ ne,AQ n];exact(h1 x b ob eb).1,(AG n).trans (h1 x b ob eb).2⟩
 ·have n:=Ac (h2 b ob eb).1 f
  have ne:b≠a:=fun q=>dN e<|by rw[q]at eb;exact(h1 t a o e).2.symm.trans (h2 a ob eb).2
  exact⟨by rw[AQ ne,AQ n];exact(h2 b ob eb).1,(AG n).trans (h2 b ob eb).2⟩
noncomputable def h8(v:Var)(n:Nat)(x dx:AK):Var:={v with K1:=fun j=>if j=n then x else v.K1 j,cp:=fun j=>if j=n then dx else v.cp j}
def zu:(BO n).map (fun j=>V.ref<|(h8 v n x dx).K1 j)=(BO n).map fun j=> .ref (v.K1 j):=by
 apply PM
 intro j hj
 have:j≠n:=DN<|PV.mp hj
 show V.ref (if j=n then x else v.K1 j)=_
 rw[AG this]
def RO.ABv(h:RO A W g v m H){y:Ht.Going}(f:H x=none):
  RO A W g (h8 v m.going.length x dx) {m with going:=y::m.going} (upd (upd H x<|.ins (A.cl 2) dx<|XD g y) g.CL<|.lst<|(BO m.going.length).map (fun j=>V.ref<|v.K1 j)++ [.ref x]):=by
 refine h.fZ .CL (.fr m.going.length) f rfl ?_ ?_ (fun u hu hw=>?_)<|by intro z;cases z
 ·show some (g.CL,HO.lst<|(BO<|m.going.length+1).map fun j=>V.ref<|(h8 v m.going.length x dx).K1 j)=_
  rw[Ha,E6,zu]
  show some (g.CL,HO.lst<|_++ [V.ref<|if m.going.length=m.going.length then x else v.K1 m.going.length])=_
  rw[AI rfl]
 ·show(if m.going.length<(y::m.going).length then some ((h8 v m.going.length x dx).K1 m.going.length,HO.ins (A.cl 2) ((h8 v m.going.length x dx).cp m.going.length)<|XD g<|(y::m.going).reverse.getD m.going.length ⟨0,0,0,false⟩)else none)=_
  rw[AI Vp,cj]
  show some ((if m.going.length=m.going.length then x else _),HO.ins (A.cl 2) (if m.going.length=m.going.length then dx else _)<|XD g y)=_
  rw[AI rfl,AI rfl]
 ·cases u with
  | fr j=>
   have ne:j≠m.going.length:=fun q=>hw<|by rw[q]
   show(if j<(y::m.going).length then some ((if j=m.going.length then x else v.K1 j),HO.ins (A.cl 2) (if j=m.going.length then dx else v.cp j)<|XD g<|(y::m.going).reverse.getD j ⟨0,0,0,false⟩)else none)=(if j<m.going.length then some (v.K1 j,HO.ins (A.cl 2) (v.cp j)<|XD g<|m.going.reverse.getD j ⟨0,0,0,false⟩)else none)
   rw[AG ne,AG ne]
   by_cases q:j<m.going.length
   ·rw[AI<|Sa q,AI q,cF q]
   ·rw[AG<|YQ q ne,AG q]
  | CL=>exact absurd rfl hu
  | _=>rfl
end
end GF
end
section
namespace GF
open PySem PySem.Spec PyProof.Rows L2
variable{P:BH}{w:Ao}{K:AS}{mg:Str->Option AN}{base:Az}{A:B3}[T:Txt K mg A]
section
variable{W W':Hp}{g:B4}{v:Var}{m:Ht.M}{H:Hp}{Q:VK}{E:XK}{z:Fx}{a:AK}{c:Ht.Bytes}{p:Nat}{e:Bool}
def ADd(k:BX K A E z W v m H (Ht.on (Ht.sought c e (c.length+1) p 0) F))(hl:BF K H a (TZ c))(hp:p<=c.length)(q: ∀ j,j<=c.length->BX K A E z W v m H (F j)->Q (.int<|AD j) H):ABz K [.ref a,.int<|AD p,.bl e] H Q E:=
 ⟨a,c,p,e,rfl,hl,hp,fun n h=>(k.to<|lQ h).raise,fun j h=>q j (O9 h)<|k.to<|wH h⟩
def AF_(k:BX K A E z W v m H (Ht.on (Ht.ended c (c.length+1) p) F))(hl:BF K H a (TZ c))(hp:p<=c.length)(q: ∀ j,j<=c.length->BX K A E z W v m H (F j)->Q (.int<|AD j) H):ABc K [.ref a,.int<|AD p] H Q E:=
 ⟨a,c,p,rfl,hl,hp,fun n h=>(k.to<|lQ h).raise,fun j h=>q j (iI h)<|k.to<|wH h⟩
end
noncomputable def Iw(g:B4)(m:Ht.M):Ht.R Ht.M:=tk m fun m a=>if a=0 then Ht.on (Ht.sought (codeB g m.inFont) true ((codeB g m.inFont).length+1) m.place 0) fun q=> .ok {m with place:=q}else .ok m
noncomputable def JC(g:B4)(m:Ht.M):Ht.R Ht.M:=Ht.on (Ht.sought (codeB g m.inFont) false ((codeB g m.inFont).length+1) m.place 0) fun q=> .ok {m with place:=q}
noncomputable def Sz(g:B4)(m:Ht.M):Ht.R Ht.M:= .ok m
def VN :OA P w base 5 33 Iw:=by
 refine T.SX.F.act ["run"] fun H Q E W g v m hr hb c=>⟨_,(AF<|Aq (A0 BD (BI AH AM T.AZ) AE) (AF<|BC AH<|Ah Kr T.Kb<|CH (AR AH) (AR AH) aI) AX),c.rn,Al,Am c fun a s1 H1 i1 c=>⟨rfl,He c (fun e c=>?_) fun e c=>c.done⟩⟩
 ·refine⟨c.rn,AL,FR,c.rn,AL,HR,ADd c (BF.of<|c.h.codeAt _) c.h.good.place fun q hq c=>⟨c.rn,AL,(B8 rfl),?_⟩⟩
  replace c:=c.go same_refl<|c.h.JY q hq
  exact c.done
def Pj :OA P w base 5 34 JC:=by
 refine T.LQ.F.act ["run"] fun H Q E W g v m hr hb c=>⟨_,(AF<|BC AH<|Ah Kr T.Kb<|CH (AR AH) (AR AH) aI),c.rn,AL,FR,c.rn,AL,HR,ADd c (BF.of<|c.h.codeAt _) c.h.good.place fun q hq c=>⟨c.rn,AL,(B8 rfl),?_⟩⟩
 replace c:=c.go same_refl<|c.h.JY q hq
 exact c.done
def ZR :OB P w base 1 35 Sz:=by
 exact T.XU.F.ji ["run"] fun H Q E W g v m hr hb c=>⟨_,(AF zR),c.done⟩
noncomputable def xi(g:B4)(m:Ht.M)(t:Int):Ht.R Ht.M:=if t<0 then .error 4 else if AD (TZ<|codeB g m.inFont).length<t then .error 4 else .ok {m with place:=t.toNat}
inductive AAa(K:AS)(A:B3)(vs:List V)(H:Hp)(Q':VK)(E:XK):Prop
 | mk: ∀ z W v m o,vs= [.ref z.g.run,.int o]->BX K A E z W v m H (xi z.g m (AD z.g.place+o))->(∀ H',z.Q .non H'->Q' .non H')->AAa K A vs H Q' E
noncomputable def ABK(K:AS)(A:B3):Sp:=AAa K A
def iJ :OF P w base 3 36 ["run","offset"] (ABK K A):=by
 refine T.uu.F.Vm ["run","offset","place"] fun H vs Q E hr h=>?_
 obtain⟨z,W,v,m,o,rfl,c,k⟩:=h
 refine⟨_,(AB (AO 2<|AU BJ (AR AH) AV)<|AB (Aq (PW.pt<|Gg (A0 Dn Aj AE)<|GZ<|A0 DE Aj<|Dc T.k.CD<|Af<|AR AH) (AF<|CJ T.c.fault BK (hr.mono<|by decide) outF rfl<|Af AE) AX)<|AF<|BC AH Aj),c.rn,AL,HH,ER c (fun e1 c=>⟨_,rfl,fun d hd=>c.raise d hd⟩) fun e1 c=>?_⟩
 ·refine⟨c.rn,AL,FR,.inl<|BF.of<|c.h.codeAt _,ER c (fun e2 c=>⟨_,rfl,fun d hd=>c.raise d hd⟩) fun e2 c=>?_⟩
  ·obtain⟨n,hn⟩:=ABj (show 0<=AD z.g.place+o by lia)
   rw[hn]at e2 c
   refine⟨c.rn,AL,(B8 rfl),?_⟩
   have e3:n<=(codeB z.g m.inFont).length:=by
    have q:=fO.mp e2
    rw[E8]at q
    exact Bf.mp q
   have h1:=c.h.JY n e3
   rw[<-hn]at h1
   exact k _<|c.fin same_refl h1
def ADv(c:BX K A E z W v m H (xi z.g m<|AD z.g.place+o))(k: ∀ H',z.Q .non H'->Q .non H'):ABK K A [.ref z.g.run,.int o] H Q E:=by
 unfold ABK
 exact⟨z,W,v,m,o,rfl,c,k⟩
noncomputable def kP(g:B4)(m:Ht.M):Ht.R Ht.M:=tk m fun m a=>xi g m (AD g.place+a)
noncomputable def Kv(g:B4)(m:Ht.M):Ht.R Ht.M:=tk m fun m a=>tk m fun m o=>if(!decide (V.int a=V.int 0))=decide (V.int (AD g.byte)=V.int 120)then xi g m (AD g.place+o)else .ok m
def yi :OA P w base 4 37 kP:=by
 exact T.ADr.F.act ["run"] fun H Q E W g v m hr hb c=>⟨_,(AF<|Ad<|Ah iJ T.uu<|Ax AH<|BI AH AM T.AZ),c.rn,Al,Am c fun a s1 H1 i1 c=>ADv c fun H1 q=>q⟩
def Xc :OA P w base 4 38 Kv:=by
 exact T.ck.F.act ["run","asked","offset"] fun H Q E W g v m hr hb c=>⟨_,(AB (AO 1<|BI AH AM T.AZ)<|AB (AO 2<|BI AH AM T.AZ)<|AF<|Aq (A0 BD (Hu Ep AV AE)<|Hu BD (AR AH) AE) (AF<|Ad<|Ah iJ T.uu<|Ax AH Aj) AX),c.rn,Al,Am c fun a s1 H1 i1 c=>⟨c.rn,Al,Am c fun o s2 H2 i2 c=>⟨rfl,c.rn,AL,BM,rfl,rfl,AAr c (fun e c=>ADv c fun H1 q=>q) fun e c=>c.done⟩⟩⟩
noncomputable def OG(g:B4)(m:Ht.M):Ht.R Ht.M:=if kI g.kind=0 then(tk m fun m a=>wi a 256 fun j=>if(0:Int)<AD ((BO m.going.length).map fun j=>V.ref j).length then .error 6 else
 Ht.on (Ht.ended (codeB g m.inFont) ((codeB g m.inFont).length+1) m.place) fun q=> .ok {m with funs:=(j,m.place)::m.funs,place:=q})else .error 5
def ni(h:kI k=0):k= .font:=by cases k<;>first | rfl |(exact absurd h<|by decide)
def bL :OA P w base 5 39 OG:=by
 refine T.define.F.act ["run","number"] fun H Q E W g v m hr hb c=>⟨_,(AB (Aq (A0 Ep (AR AH)<|Bt T.k.jr) (AF<|CJ T.c.fault BK (hr.mono<|by decide) outF rfl<|Af AE) AX)<|AB (AO 1<|Ah Ck T.within<|Ax (BI AH AM T.AZ)<|Bt T.k.Kn)<|AB (Aq (A0 DE (Dc T.k.CD<|Af<|AR AH) AE) (AF<|CJ T.c.fault BK (hr.mono<|by decide) outF rfl<|Af AE) AX)<|AB (y1 (AAe hr) (AR AH) AV (AR AH) rfl)<|AF<|BC AH<|Ah Q7 T.Mt<|Ax (AR AH)<|AR AH),c.rn,AL,j7,rfl,UT c (fun e c=>?_) fun e c=>⟨_,rfl,fun d hd=>c.raise d hd⟩⟩
 ·have hk:=ni e
  refine⟨c.rn,Al,Am c fun a s1 H1 i1 c=>DR c fun w1 c=>?_⟩
  have le:(((BO m.going.length).map fun j=>V.ref<|v.K1 j).length:Int)=AD ((BO m.going.length).map fun j=>V.ref j).length:=by rw[A8,A8];rfl
  refine⟨c.rn,AL,JE,.inl<|BF.of c.h.CL,?_⟩
  rw[le]
  refine ER c (fun e2 c=>⟨_,rfl,fun d hd=>c.raise d hd⟩) fun e2 c=>?_
  ·have fd:H1 g.fn=some (.dK v.BU):=c.h.at_ (t:= .fn) (AI hk)
   have pl:m.place<=g.c.font.length:=by
    have q:=c.h.good.place
    have e4:codeB g m.inFont=g.c.font:=by
     unfold codeB
     split
     ·rfl
     ·exact(c.h.good.fk hk).2
    rw[e4]at q
    exact q
   refine⟨c.rn,AL,HR,c.rn,AL,Ut,_,_,rfl,uX.k (k:= .inl<|AD<|Ht.unsigned a) fd<|Ez c.h.good.Vh.1<|by decide,?_⟩
   have c2:=c.go same_refl<|c.h.AB0 hk w1 pl
   refine⟨c2.h.run,AL,FR,c2.h.run,AL,HR,AF_ c2 (BF.of<|c2.h.codeAt _) c2.h.good.place fun q hq c=>⟨c.rn,AL,(B8 rfl),?_⟩⟩
   replace c:=c.go same_refl<|c.h.JY q hq
   exact c.done
inductive AAu(C:AK)(vs:List V)(H:Hp)(Q:VK)(E_:XK):Prop
 | mk: ∀ p dx a b c d e,vs= [.ref p,a,b,c,d,e]->H p=some (.ins C dx [])->Q .non (upd H p (.ins C dx [("code",a),("whose",b),("back",c),("start",d),("left",e)]))->AAu C vs H Q E_
def ZO :O0 P w base 1 28 ["self","code","whose","back","start","left"] (AAu<|A.cl 2):=by
 refine T.Xx.1.DQ ["self","code","whose","back","start","left"] fun H vs Q E hr h=>?_
 obtain⟨p,dx,a,b,c,d,e,rfl,hp,q⟩:=h
 refine⟨_,(AB (BC AH AV)<|AB (BC AH Aj)<|AB (BC AH A6)<|AB (BC AH CG)<|AF<|BC AH ES),hp,El,(B8 rfl),AJ,El,(B8 rfl),AJ,El,(B8 rfl),AJ,El,(B8 rfl),AJ,El,(B8 rfl),?_⟩
 rw[Bl,Bl,Bl,Bl]
 exact q
noncomputable def Ed(g:B4)(m:Ht.M):Ht.R Ht.M:=match m.going with
 | []=> .error 6
 | y::l=>if 0<y.left-1 then .ok {m with going:={y with left:=y.left-1}::l,place:=y.start}else .ok {m with going:=l,place:=y.back,inFont:=y.backFont}
def tj{xs:List V}{a:V}:(xs++ [a])[(xs++ [a]).length-1]?=some a:=by simp
def f_{v:Var}:(((BO n).map fun j=>V.ref<|v.K1 j).length:Int)=AD n:=by
 rw[A8,CO]
 rfl
def ug{v:Var}:((BO<|n+1).map fun j=>V.ref<|v.K1 j)=((BO n).map fun j=>V.ref<|v.K1 j)++ [.ref<|v.K1 n]:=by
 rw[Ha,E6]
 rfl
theorem VV [T:Txt K mg A]:OA P w base 3 40 Ed:=by
 refine T.Rr.F.act ["run","frame"] fun H Q E W g v m hr hb c=>⟨_,(AB (Aq (A0 BD (Dc T.k.CD<|Af<|AR AH) AE) (AF<|CJ T.c.fault BK (hr.mono<|by decide) outF rfl<|Af AE) AX)<|AB (AO 1<|A9 Ab (AR AH)<|LL HA AE)<|AB (OU AV AE ACx)<|AB (Aq (A0 DE (AR AV) AE) (AB (BC AH<|AR AV)<|AF f6) AX)<|AB (Ad<|cy FG Ws Wi kz<|AR AH)<|AB (BC AH<|AR AV)<|AB (BC AH<|AR AV)<|AF<|BC AH<|AR AV),c.rn,AL,JE,.inl<|BF.of c.h.CL,rfl,?_⟩
 rw[f_]
 cases eg:m.going with
 | nil=>
  have c2:=c.to<|by unfold Ed;rw[eg]
  exact⟨_,rfl,fun d hd=>c2.raise d hd⟩
 | cons y l=>
  have c2:=c.to<|by unfold Ed;rw[eg]
  have hfr:=c.h.AEi eg
  have hfs:=c.h.CL
  rw[eg]at hfs
  have hfs':H g.CL=some (.lst<|((BO l.length).map fun j=>V.ref<|v.K1 j)++ [.ref<|v.K1 l.length]):=by rw[<-ug];exact hfs
  refine⟨c.rn,AL,JE,BF.of hfs',wZ _ _,hfr,El,pk,_,_,rfl,rfl,hfr,(B8 rfl),?_⟩
  have h1:=c.h.ABQ eg<|y.left-1
  have hf1:(upd H (v.K1 l.length)<|.ins (A.cl 2) (v.cp l.length)<|DJ "left" (.int<|y.left-1)<|XD g y) (v.K1 l.length)=some (.ins (A.cl 2) (v.cp l.length)<|XD g {y with left:=y.left-1}):=AJ
  have go:=c.h.good.gS
  rw[eg]at go
  have gy:=go y<|Dx ..
  have gc:=c.h.good.eQ
  rw[eg]at gc
  refine⟨hf1,El,pk,ER c2 (fun e c=>?_) fun e c=>?_⟩
  ·refine⟨hf1,El,wz,h1.run,AL,(B8 rfl),?_⟩
   have h2:=h1.JY y.start<|by show y.start<=(codeB g m.inFont).length;rw[gc.1];exact gy.1
   exact c.fin same_refl h2
  ·have neS:=aT hfr hfs' (by intro z;cases z)
   have neR:v.K1 l.length≠g.run:=c2.h.apart (t:= .run) (u:= .fr l.length) rfl (AI<|by rw[eg];exact Vp)<|by intro z;cases z
   have hfs1:(upd H (v.K1 l.length)<|.ins (A.cl 2) (v.cp l.length)<|DJ "left" (.int<|y.left-1)<|XD g y) g.CL=some (.lst<|((BO l.length).map fun j=>V.ref<|v.K1 j)++ [.ref<|v.K1 l.length]):=by rw[AQ neS.symm];exact hfs'
   refine⟨h1.run,AL,JE,.inl ⟨rfl,_,BF.of hfs1⟩,_,_,_,rfl,rfl,hfs1,tj,?_⟩
   rw[l_]
   have h2:=h1.AEc rfl
   have hf2:=(AQ (o:= .lst<|(BO l.length).map fun j=> .ref<|v.K1 j) neS).trans hf1
   refine⟨hf2,El,yV,h2.run,AL,(B8 rfl),((AQ neR).trans hf2),El,wx,AJ,AL,(B8 rfl),((AQ neR).trans<|(AQ neR).trans hf2),El,ze,AJ,AL,(B8 rfl),?_⟩
   rw[Bl,Bl]
   exact c.fin same_refl<|h2.Ef .run rfl rfl<|{h2.good with place:=gy.2,eQ:=gc.2}
noncomputable def Zy(g:B4)(m:Ht.M)(n f:Int):Ht.R Ht.M:=wi f 256 fun j=>match(m.funs.find? fun x=>x.1==j)with
 | none=> .error 3
 | some x=>if n<1 then .ok m else if AD m.going.length=8 then .error 6 else .ok {m with going:=⟨n,x.2,m.place,m.inFont⟩::m.going,place:=x.2,inFont:=true}
inductive iD(K:AS)(A:B3)(vs:List V)(H:Hp)(Q':VK)(E:XK):Prop
 | mk: ∀ z W v m n f,vs= [.ref z.g.run,.int f,.int n]->BX K A E z W v m H (Zy z.g m n f)->(∀ H',z.Q .non H'->Q' .non H')->iD K A vs H Q' E
noncomputable def eL(K:AS)(A:B3):Sp:=iD K A
def R.fnAt(h:R K A W g v m H):H g.fn=some (.dK v.BU):=by
 by_cases e:g.kind= .font
 ·exact h.at_ (t:= .fn)<|AI e
 ·exact h.sub _ _<|h.good.fns e
theorem gW [T:Txt K mg A]:OF P w base 4 41 ["run","number","times"] (eL K A):=by
 refine T.enter.F.Vm ["run","number","times","start"] fun H vs Q E hr h=>?_
 obtain⟨z,W,v,m,n,f,rfl,c,k⟩:=h
 refine⟨_,(AB (AO 3<|vy (AAe hr) (AR AH) (Ah Ck T.within<|Ax AV<|Bt T.k.Kn) ⟨rfl,rfl,rfl,rfl⟩)<|AB (Aq (Kd<|Ke A6) (AF<|CJ T.c.fault BK (hr.mono<|by decide) outF rfl<|Af AE) AX)<|AB (Aq (A0 Dn Aj AE) (AF f6) AX)<|AB (Aq (A0 BD (Dc T.k.CD<|Af<|AR AH)<|Bt T.k.Vg) (AF<|CJ T.c.fault BK (hr.mono<|by decide) outF rfl<|Af AE) AX)<|AB (Ad<|VC FG TN SQ LD (AR AH)<|Af<|GJ T.c.AAO ZO (hr.mono<|by decide) rfl T.c.zT T.Xx.2 .nil Gn<|Cs (AR AH)<|Rp (AR AH) (AR AH) A6 Aj)<|AB (BC AH<|AR AH)<|AB (BC AH AE)<|AF<|BC AH A6),c.rn,AL,Ut,_,rfl,.inl ⟨_,.inl c.h.fnAt⟩,DR c fun w1 c=>?_⟩
 have fnf:E1 v.BU (.inl<|AD<|Ht.unsigned f)=(m.funs.find? fun x=>x.1==Ht.unsigned f).map fun x=>V.int (AD x.2):=c.h.good.Vh.2.2.2<|Ht.unsigned f
 refine⟨_,uW.k (k:= .inl<|AD<|Ht.unsigned f) c.h.fnAt,?_⟩
 rw[fnf]
 cases ef:(m.funs.find? fun x=>x.1==Ht.unsigned f)with
 | none=>
  have c2:=c.to<|show(match(m.funs.find? fun x=>x.1==Ht.unsigned f)with
   | none=> .error 3
   | some x=>if n<1 then .ok m else if AD m.going.length=8 then .error 6 else .ok {m with going:=⟨n,x.2,m.place,m.inFont⟩::m.going,place:=x.2,inFont:=true})=(.error 3:Ht.R Ht.M) by rw[ef]
  exact⟨_,rfl,fun d hd=>c2.raise d hd⟩
 | some x=>
  have c2:=c.to<|show(match(m.funs.find? fun x=>x.1==Ht.unsigned f)with
   | none=> .error 3
   | some x=>if n<1 then .ok m else if AD m.going.length=8 then .error 6 else .ok {m with going:=⟨n,x.2,m.place,m.inFont⟩::m.going,place:=x.2,inFont:=true})=((if n<1 then .ok m else if AD m.going.length=8 then .error 6 else .ok {m with going:=⟨n,x.2,m.place,m.inFont⟩::m.going,place:=x.2,inFont:=true}):Ht.R Ht.M) by rw[ef]
  have xin:=c.h.good.bq x<|Vr ef
  refine ER c2 (fun e1 c=>k _ c.done) fun e1 c=>?_
  refine⟨c.rn,AL,JE,.inl<|BF.of c.h.CL,rfl,?_⟩
  rw[f_]
  refine He c (fun e2 c=>⟨_,rfl,fun d hd=>c.raise d hd⟩) fun e2 c=>?_
  have hl:m.going.length<8:=by
   have q:=c.h.good.going
   have:m.going.length≠8:=fun z=>e2<|by rw[z];rfl
   lia
  refine⟨c.rn,AL,JE,.inl ⟨rfl,_,BF.of c.h.CL⟩,c.rn,AL,FR,c.rn,AL,oA,c.rn,AL,HR,fun p dx np nd ned=>⟨p,dx,_,_,_,_,_,rfl,AJ,rfl,?_⟩⟩
  rw[Bl]
  have h0:=c.h.new (o:= .own p) nd
  have np':(upd H dx<|.own p) p=none:=by rw[AQ ned.symm];exact np
  have hfs:(upd (upd H dx<|.own p) p<|.ins (A.cl 2) dx<|XD z.g ⟨n,x.2,m.place,m.inFont⟩) z.g.CL=some (.lst<|(BO m.going.length).map fun j=>V.ref<|v.K1 j):=(h0.new np').CL
  refine⟨hfs,(by rw[A8,CO];exact HV hl<|by decide),?_⟩
  have h1:=h0.ro.ABv (y:=⟨n,x.2,m.place,m.inFont⟩) (dx:=dx) np'
  refine⟨h1.run,AL,ACC,h1.run,AL,(B8 rfl),AJ,AL,(B8 rfl),AJ,AL,(B8 rfl),?_⟩
  rw[Bl,Bl]
  exact k _<|c.fin same_refl ⟨(h1.Ef .run rfl rfl fun u hu=>by cases u<;>first | rfl | exact absurd rfl hu).o,{h0.good with going:=hl,gS:=(fun w hw=>(Ce.mp hw).elim (fun r=>by rw[r];exact⟨xin,h0.good.place⟩) fun r=>h0.good.gS w r),eQ:=⟨rfl,h0.good.eQ⟩,place:=xin}⟩
def oE(c:BX K A E z W v m H (Zy z.g m n f))(k: ∀ H',z.Q .non H'->Q .non H'):eL K A [.ref z.g.run,.int f,.int n] H Q E:=by
 unfold eL
 exact⟨z,W,v,m,n,f,rfl,c,k⟩
noncomputable def NN(g:B4)(m:Ht.M):Ht.R Ht.M:=tk m fun m f=>Zy g m 1 f
noncomputable def Lo(g:B4)(m:Ht.M):Ht.R Ht.M:=tk m fun m f=>tk m fun m n=>Zy g m n f
def dO :OA P w base 5 42 NN:=by
 exact T.aY.F.act ["run"] fun H Q E W g v m hr hb c=>⟨_,(AF<|Ad<|Ah gW T.enter<|CH AH (BI AH AM T.AZ) AE),c.rn,Al,Am c fun a s1 H1 i1 c=>oE c fun H1 q=>q⟩
def Zg :OA P w base 5 43 Lo:=by
 exact T.Xd.F.act ["run","number","times"] fun H Q E W g v m hr hb c=>⟨_,(AB (AO 1<|BI AH AM T.AZ)<|AB (AO 2<|BI AH AM T.AZ)<|AF<|Ad<|Ah gW T.enter<|CH AH AV Aj),c.rn,Al,Am c fun a s1 H1 i1 c=>⟨c.rn,Al,Am c fun o s2 H2 i2 c=>oE c fun H1 q=>q⟩⟩
end GF
end
section
namespace GF
open PySem PySem.Spec PyProof.Rows L2
section
variable{K:AS}{A:B3}{W W' Wl:Hp}{g:B4}{v v':Var}{m m':Ht.M}{H H':Hp}{Q:VK}{E E':XK}{z:Fx}{r:Ht.R Ht.M}{y i:Nat}{d:Int}{w x:Ht.Pos}{a:AK}
noncomputable def Kp(m m':Ht.M):Prop:= ∀ y i,y<2->i<(m.zone y).size->i<(m'.zone y).size
def yL(hy:y<2):Kp m (m.move y i d):=fun y' i' h1 h2=>by rw[aC hy h1];exact h2
def iS(hy:y<2):Kp m (m.shift t y i w):=fun y' i' h1 h2=>by rw[Q4 hy h1];exact h2
def ACc(hy:y<2):Kp m (m.put y i w):=fun y' i' h1 h2=>by rw[XR hy h1];exact h2
def zx(hy:y<2):Kp m (m.mark y i f):=fun y' i' h1 h2=>by rw[Z_ hy h1];exact h2
def DY(c:BX K A E z W v m H r)(hy:y<2)(hi:i<(m.zone y).size)(k: ∀ W' v' H',Bc W W'->Kp m (m.move y i d)->BX K A E z W' v' (m.move y i d) H' r->Q .non H'):eM K A [.ref z.g.run,.ref<|z.g.pp y i,.int d] H Q E':=
 ABr c hy hi fun W' v' H' s c=>k W' v' H' s (yL hy) c
def dZ(c:BX K A E z W v m H r)(hy:y<2)(hi:i<(m.zone y).size)(t:Dd K W a (pV w))(k: ∀ v' H',Kp m (m.shift true y i w)->BX K A E z W v' (m.shift true y i w) H' r->Q .non H'):gJ K A [.ref z.g.run,.ref<|z.g.pp y i,.ref a] H Q E':=
 AEl c hy hi t fun v' H' c=>k v' H' (iS hy) c
def xC(c:BX K A E z W v m H r)(hy:y<2)(hi:i<(m.zone y).size)(t:Pair K H a x)(e:c2 x=w)(k: ∀ v' H',Kp m (m.put y i w)->BX K A E z W v' (m.put y i w) H' r->Q .non H'):vh K (A.cl 3) [.ref<|z.g.pp y i,.ref a] H Q E':=by
 refine⟨_,_,_,_,a,_,x,rfl,c.h.pt hy hi,t,fun lo ln h1 h2 ne=>k (Pf v y i lo ln) _ (ACc hy) ?_⟩
 have iw:LU w:=e▸⟨Dk _,Dk _⟩
 rw[wb,e]
 exact c.go same_refl (c.h.ADm hy hi iw h1 h2 ne) FZ EY
def pH(c:BX K A E z W v m H r)(hy:y<2)(hi:i<(m.zone y).size)(t:Dd K W a (pV w))(k: ∀ v' H',Kp m (m.shift false y i w)->BX K A E z W v' (m.shift false y i w) H' r->Q .non H'):bu K (A.cl 3) [.ref<|z.g.pp y i,.ref a] H Q E':=by
 refine⟨_,_,_,_,a,_,(m.zone y).at_ i,w,rfl,c.h.pt hy hi,c.h.pn hy hi,BZ c.h.sub t,fun ln h1=>k (Pf v y i (v.lo y i) ln) _ (iS hy) ?_⟩
 rw[Y9 false hy]
 exact c.go same_refl (c.h.vd hy hi (gf ((m.zone y).at_ i) w) h1) FZ EY
def fF(c:BX K A E z W v m H r)(hy:y<2)(hi:i<(m.zone y).size)(e: ∀ x,x<8->f (AD x) q=AD (fn x)/\fn x<8)(k: ∀ H',Kp m (m.mark y i fn)->BX K A E z W v (m.mark y i fn) H' r->Q .non H'):cX (A.cl 3) f [.ref<|z.g.pp y i,.int q] H Q E':=by
 have em:=e _<|J8 c.h.good hy hi
 refine⟨_,_,_,_,_,q,rfl,c.h.pt hy hi,?_⟩
 rw[em.1]
 refine k _ (zx hy) ?_
 rw[Wg]
 exact c.go same_refl (c.h.lP hy hi em.2) FZ EY
def qL(x:Int):Ht.cut (Ht.cut x)=Ht.cut x:=by unfold Ht.cut;lia
def vH{x:Int}(h:FE x):Ht.cut x=x:=by unfold FE at h;unfold Ht.cut;lia
def ADn(h:LU x):c2 x=x:=by
 obtain⟨a,b⟩:=x
 show(Ht.cut a,Ht.cut b)=(a,b)
 rw[vH h.1,vH h.2]
def vA:c2 (Ht.times c f)=Ht.times c f:=by
 unfold c2 Ht.times
 rw[qL,qL]
noncomputable def Jn(K:AS)(A:B3)(E:XK)(z:Fx)(Wl:Hp)(S:List (Option V)->Prop)(X:Hp->Ht.M->Prop)(B:Int->Ht.M->(Ht.M->Ht.R Ht.M)->Ht.R Ht.M)(F:Ht.M->Ht.R Ht.M)(rest:List Int)(σ:List (Option V))(H:Hp):Prop:=
 S σ/\ ∃ W v m,Bc Wl W/\X W m/\BX K A E z W v m H (Du B rest m F)
theorem v_{x:V}(h:(iV l)[i]?=some x): ∃ a,x= .int a/\l.drop i=a::l.drop (i+1):=by
 unfold iV at h
 rw[CZ]at h
 cases e:l[i]? with
 | none=>rw[e]at h;cases h
 | some a=>
  rw[e]at h
  cases h
  have hi:i<l.length:=by
   rcases Dg i l.length with q | q
   ·exact q
   ·rw[EA q]at e;cases e
  refine⟨a,rfl,?_⟩
  rw[Vx hi]
  rw[CQ hi]at e
  cases e
  rfl
def Yu{gg:TG}{tb:TS}{D:Ends}(hl:Wl l=some (.lst<|iV nums))
  (S:List (Option V)->Prop) (X:Hp->Ht.M->Prop) (h0:Jn K A E z Wl S X B F nums σ H)
  (hs: ∀ a rest σ W v m H,a∈nums->S σ->Bc Wl W->X W m->BX K A E z W v m H (B a m fun m=>Du B rest m F)->gg (.int a) σ H fun σ2 H2=>tb {D with nx:=Jn K A E z Wl S X B F rest,ct:=Jn K A E z Wl S X B F rest,bk:=D.nx} σ2 H2)
  (hd: ∀ σ W v m H,S σ->Bc Wl W->X W m->BX K A E z W v m H (F m)->D.nx σ H):
  ∃ W:Nat->Nat->List (Option V)->Hp->Prop,(∃ m,W 0 m σ H)/\ ∀ i m σ H,W i m σ H->
   ((qV K l).stop i H/\D.nx σ H)\/((qV K l).go i H/\ ∃ N:List (Option V)->Hp->Prop,(∀ σ' H',N σ' H'-> ∃ m',m'<m/\W (i+1) m' σ' H')/\ ∀ x H',(qV K l).t_ i H x H'->gg x σ H' fun σ2 H2=>tb {D with nx:=N,ct:=N,bk:=D.nx} σ2 H2):=by
 refine Rh (K:=K) (a:=l) (xs:=iV nums) (fun i σ H=>Jn K A E z Wl S X B F (nums.drop i) σ H) (by rw[FH];exact h0) ?_ ?_ ?_
 ·rintro i σ H _ ⟨_,W,v,m,s,_,c⟩
  exact BF.of<|c.h.sub _ _<|s _ _ hl
 ·rintro i x σ H hx ⟨hS,W,v,m,s,hX,c⟩
  obtain⟨a,rfl,e⟩:=v_ hx
  rw[e]at c
  exact hs a _ σ W v m H (List.mem_of_mem_drop<|by rw[e];exact Dx ..) hS s hX c
 ·rintro σ H ⟨hS,W,v,m,s,hX,c⟩
  rw[show(iV nums).length=nums.length from Bq,dW]at c
  exact hd σ W v m H hS s hX c
end
end GF
end
section
namespace GF
open PySem PySem.Spec PyProof.Rows L2
variable{P:BH}{w:Ao}{K:AS}{mg:Str->Option AN}{base:Az}{A:B3}[T:Txt K mg A]
inductive Xw(K:AS)(A:B3)(vs:List V)(H:Hp)(Q:VK)(E:XK):Prop
 | mk: ∀ z W v m r E' x,vs= [.ref z.g.run,.int x]->BX K A E' z W v m H r->FE x->(∀ H',BX K A E' z W v {m with r0:=x,r1:=x} H' r->Q .non H')->Xw K A vs H Q E
def Hh(c:BX K A E z W v m H r)(i:FE x)(k: ∀ H',BX K A E z W v {m with r0:=x,r1:=x} H' r->Q .non H'):Xw K A [.ref z.g.run,.int x] H Q E':=⟨z,W,v,m,r,E,x,rfl,c,i,k⟩
inductive Yw(K:AS)(A:B3)(vs:List V)(H:Hp)(Q':VK)(E:XK):Prop
 | mk: ∀ z W v m x F,vs= [.ref z.g.run,.int x]->BX K A E z W v m H (wi x (iV m.values).length F)->((Ht.unsigned x<(iV m.values).length->BX K A E z W v m H (F (Ht.unsigned x))->Q' (.int (m.values.getD (Ht.unsigned x) 0)) H))->Yw K A vs H Q' E
noncomputable def bK(K:AS)(A:B3):Sp:=Yw K A
def bF(c:BX K A E z W v m H (wi x (iV m.values).length F))(k:Ht.unsigned x<(iV m.values).length->BX K A E z W v m H (F<|Ht.unsigned x)->Q (.int<|m.values.getD (Ht.unsigned x) 0) H):bK K A [.ref z.g.run,.int x] H Q E:=⟨z,W,v,m,x,F,rfl,c,k⟩
inductive YX(K:AS)(A:B3)(vs:List V)(H:Hp)(Q:VK)(E:XK):Prop
 | mk: ∀ W g v m x,vs= [.ref g.run,.int x]->R K A W g v m H->Q (.int (m.single x)) H->YX K A vs H Q E
def gm(c:BX K A E z W v m H r)(k:Q (.int<|m.single x) H):YX K A [.ref z.g.run,.int x] H Q E':=⟨W,z.g,v,m,x,rfl,c.h,k⟩
noncomputable def Rx(m:Ht.M)(c o:Int):Int:=m.round (if AD m.z0=AD m.z1 then(if m.kept.cutin<(if c-o<0 then-(c-o)else c-o)then o else c)else c)
inductive ve(K:AS)(A:B3)(vs:List V)(H:Hp)(Q:VK)(E:XK):Prop
 | mk: ∀ W g v m x o,vs= [.ref g.run,.int x,.int o]->R K A W g v m H->Q (.int (Rx m x o)) H->ve K A vs H Q E
def aA(c:BX K A E z W v m H r)(k:Q (.int<|Rx m x o) H):ve K A [.ref z.g.run,.int x,.int o] H Q E':=⟨W,z.g,v,m,x,o,rfl,c.h,k⟩
noncomputable def lE(l o d:Int):Int:=if 0<=o then(if d<l then l else d)else if-l<d then Ht.cut (-l)else d
inductive X_(K:AS)(A:B3)(vs:List V)(H:Hp)(Q:VK)(E:XK):Prop
 | mk: ∀ z W v m r E' x b,vs= [.ref z.g.run,.int x,.bl b]->BX K A E' z W v m H r->FE x->(∀ H',BX K A E' z W v (m.after x b) H' r->Q .non H')->X_ K A vs H Q E
def Rj(c:BX K A E z W v m H r)(i:FE x)(k: ∀ H',BX K A E z W v (m.after x b) H' r->Q .non H'):X_ K A [.ref z.g.run,.int x,.bl b] H Q E':=⟨z,W,v,m,r,E,x,b,rfl,c,i,k⟩
inductive v9(K:AS)(A:B3)(vs:List V)(H:Hp)(Q:VK)(E:XK):Prop
 | mk: ∀ z W v m r E' y i y' i' a w,vs= [.ref (z.g.pp y i),.ref (z.g.pp y' i'),.ref a]->BX K A E' z W v m H r->(y<2/\i<(m.zone y).size)->(y'<2/\i'<(m.zone y').size)->Dd K W a (pV w)->(∀ v' H',Kp m (m.put y i (Ht.plus ((m.zone y').was i') w))->BX K A E' z W v' (m.put y i (Ht.plus ((m.zone y').was i') w)) H' r->Q .non H')->v9 K A vs H Q E
def AAx{w:Ht.Pos}(c:BX K A E z W v m H r)(hy:y<2)(hi:i<(m.zone y).size)(hy':y'<2)(hi':i'<(m.zone y').size)(t:Dd K W a (pV w))
  (k: ∀ v' H',Kp m (m.put y i<|Ht.plus ((m.zone y').was i') w)->BX K A E z W v' (m.put y i<|Ht.plus ((m.zone y').was i') w) H' r->Q .non H'):v9 K A [.ref<|z.g.pp y i,.ref<|z.g.pp y' i',.ref a] H Q E':=⟨z,W,v,m,r,E,y,i,y',i',a,w,rfl,c,⟨hy,hi⟩,⟨hy',hi'⟩,t,k⟩
def Z2 :O0 P w base 1 68 ["run","number"] (Xw K A):=by
 refine T.anchor.F.DQ ["run","number"] fun H vs Q E hr h=>?_
 obtain⟨z,W,v,m,r,E',x,rfl,c,i,k⟩:=h
 refine⟨_,(AB (Hy AV<|IC (AR AH) AE set_list)<|AF<|Hy AV<|IC (AR AH) AE set_list),c.rn,AL,CK,_,_,_,0,rfl,rfl,c.h.refs,rfl,?_⟩
 replace c:=c.go same_refl<|c.h.eN i
 refine⟨c.rn,AL,CK,_,_,_,1,rfl,rfl,c.h.refs,rfl,?_⟩
 replace c:=c.go same_refl<|c.h.fw i
 exact k _ c
def QG :OF P w base 4 70 ["run","number"] (bK K A):=by
 refine T.Qq.F.Vm ["run","number","controls"] fun H vs Q E hr h=>?_
 obtain⟨z,W,v,m,x,F,rfl,c,k⟩:=h
 exact⟨_,(AB (AO 2<|AR<|AR AH)<|AF<|AY<|A9 Ab Aj<|Ah Ck T.within<|Ax AV<|Dc T.k.CD<|Af Aj),c.rn,AL,A_,c.h.gr,AW,Hi,.inl<|BF.of c.h.Cq,DR c fun w1 c=>⟨BF.of c.h.Cq,vZ w1,k w1 c⟩⟩
def AB6(x:Int):(if x<0 then-x else x)=AD x.natAbs:=by
 split
 ·show-x=(x.natAbs:Int);lia
 ·show x=(x.natAbs:Int);lia
def JL :O0 P w base 2 72 ["run","distance"] (YX K A):=by
 refine T.IK.F.DQ ["run","distance","kept"] fun H vs Q E hr h=>?_
 obtain⟨W,g,v,m,x,rfl,h,k⟩:=h
 refine⟨_,(AB (AO 2<|AR<|AR AH)<|AB (Aq (A0 U_ (EZ Hl rfl T.k.VF NM<|Af<|AU B1 AV<|AR Aj)<|AR Aj) (AF<|AY AV) AX)<|AF<|AY<|Bn (A0 U_ AV AE) (AR Aj)<|Ah Dv T.cut<|Af<|LL HA<|AR Aj),?_⟩
 unfold Ht.M.single Ht.nearer at k
 refine⟨h.run,AL,A_,h.gr,AW,DZ,h.kp,BG,Nj,_,rfl,h.kp,BG,Hz,?_⟩
 rw[AB6]
 refine A7 (fun e=>?_) fun e=>?_
 ·rw[AG<|by rw[MK];lia]at k
  exact k
 ·rw[AI<|Av<|by lia]at k
  refine A7 (fun e2=>?_) fun e2=>?_
  ·rw[AG<|by lia]at k
   exact⟨h.kp,BG,Nj,k⟩
  ·rw[AI<|by lia]at k
   exact⟨h.kp,BG,Nj,_,rfl,trivial,k⟩
def g8 :O0 P w base 2 73 ["least","original","distance"] (jk (fun _ _ _=>True) lE):=by
 refine T.iL.F.DQ ["least","original","distance"] fun H vs Q E hr h=>?_
 obtain⟨l,o,d,rfl,_,k⟩:=h
 refine⟨_,(AB (Aq (PW.pt<|UZ (A0 U_ AV AE)<|Oq<|A0 Dn Aj AH) (AF<|AY AH) AX)<|AB (Aq (PW.pt<|UZ (A0 Dn AV AE)<|Oq<|A0 DE Aj<|LL HA AH) (AF<|AY<|Ah Dv T.cut<|Af<|LL HA AH) AX)<|AF<|AY Aj),?_⟩
 unfold lE at k
 refine A7 (fun e=>?_) fun e=>?_
 ·have e1:=An e
  rw[AI e1]at k
  refine A7 (fun e=>?_) fun e=>?_
  ·have e2:=An e
   rw[AI e2]at k
   exact k
  ·have e2:=Ey (Er.mpr e)
   rw[AG e2]at k
   exact A7 (fun e=>absurd (An e)<|fO.mpr e1) fun e=>k
 ·have e1:=Ey (Er.mpr e)
  rw[AG e1]at k
  rw[AG D0]
  refine A7 (fun e=>?_) fun e=>absurd (Av<|Int.not_le.mp e1) e
  ·refine A7 (fun e=>?_) (fun e=>?_)
   ·have e2:=An e
    rw[AI e2]at k
    exact⟨_,rfl,trivial,k⟩
   ·rw[AG<|Ey<|Er.mpr e]at k
    exact k
def aB :O0 P w base 1 74 ["run","number","leads"] (X_ K A):=by
 refine T.je.F.DQ ["run","number","leads"] fun H vs Q E hr h=>?_
 obtain⟨z,W,v,m,r,E',x,b,rfl,c,i,k⟩:=h
 refine⟨_,(AB (Hy (A9 Ab (AR AH) AE)<|IC (AR AH) AE set_list)<|AB (Hy AV<|IC (AR AH) AE set_list)<|AF<|Aq (MV Aj) (AF<|Hy AV<|IC (AR AH) AE set_list) AX),c.rn,AL,CK,BF.of c.h.refs,rfl,c.rn,AL,CK,_,_,_,1,rfl,rfl,c.h.refs,rfl,?_⟩
 replace c:=c.go same_refl<|c.h.fw c.h.good.r0
 refine⟨c.rn,AL,CK,_,_,_,2,rfl,rfl,c.h.refs,rfl,?_⟩
 replace c:=c.go same_refl<|c.h.pP i
 cases b
 ·exact(k _ c)
 ·refine⟨c.rn,AL,CK,_,_,_,0,rfl,rfl,c.h.refs,rfl,?_⟩
  replace c:=c.go same_refl<|c.h.eN i
  exact k _ c
def YE :O0 P w base 6 77 ["run","control","original"] (ve K A):=by
 refine T.Uv.F.DQ ["run","control","original","same_zone"] fun H vs Q E hr h=>?_
 obtain⟨W,g,v,m,x,o,rfl,h,k⟩:=h
 refine⟨_,(AB (AO 3<|Hu BD (A9 Ab (AR AH) AE)<|A9 Ab (AR AH) AE)<|AB (Aq (PW.pt<|UZ (MV A6)<|Oq<|A0 DE (EZ Hl rfl T.k.VF NM<|Af<|AU B1 AV Aj)<|AR<|AR<|AR AH) (AF<|AO 1 Aj) AX)<|AF<|AY<|Be AH Cb T.Cj<|Af AV),?_⟩
 unfold Rx at k
 refine⟨h.run,AL,C8,BF.of h.Bj,rfl,h.run,AL,C8,BF.of h.Bj,rfl,rfl,A7 (fun e=>?_) fun e=>?_⟩
 ·rw[AI<|V.int.inj<|An e]at k
  refine⟨_,rfl,h.run,AL,A_,h.gr,AW,DZ,h.kp,BG,LI,A7 (fun e=>?_) fun e=>?_⟩
  ·rw[AI<|An e]at k
   exact⟨h.run,B_,Ob h k⟩
  ·rw[AG<|Ey<|Er.mpr e]at k
   exact⟨h.run,B_,Ob h k⟩
 ·rw[AG fun z=>e<|Av<|BL V.int z]at k
  exact⟨h.run,B_,Ob h k⟩
def Kt :O0 P w base 3 78 ["point","base","step"] (v9 K A):=by
 refine T.Kg.F.DQ ["point","base","step"] fun H vs Q E hr h=>?_
 obtain⟨z,W,v,m,r,E',y,i,y',i',a,w,rfl,c,⟨hy,hi⟩,⟨hy',hi'⟩,t,k⟩:=h
 refine⟨_,(AF<|Ad<|Be AH MC T.O_<|Af<|Iy<|Ax (AU BJ (A9 Ab (AR AV) AE)<|A9 By Aj AE)<|AU BJ (A9 Ab (AR AV) AE)<|A9 By Aj AE),?_⟩
 have tH:=BZ c.h.sub t
 refine⟨c.h.pt hy hi,kM,c.h.pt hy' hi',Aa,Bx _ _ _,BF.of<|c.h.po hy' hi',rfl,tH,rfl,c.h.pt hy' hi',Aa,Bx _ _ _,BF.of<|c.h.po hy' hi',rfl,tH,rfl,(by show 2<=sizeLine;decide),fun p hp=>?_⟩
 replace c:=c.new (o:= .tup<|pV (((m.zone y').was i').1+w.1,((m.zone y').was i').2+w.2)) hp
 exact xC (x:=(((m.zone y').was i').1+w.1,((m.zone y').was i').2+w.2)) (w:=Ht.plus ((m.zone y').was i') w) c hy hi (.inr<|Dd.of AJ) rfl k
noncomputable def Ho(g:B4)(m:Ht.M)(n o d:Int):Ht.R Ht.M:=(if(De (AD g.byte) 8)=0 then wi n (m.zone<|zp m 1).size fun j3=>wi (rp m 0) (m.zone<|zp m 0).size fun j6=>let m1:Ht.M:=m.move (zp m 1) j3<|d- (m.now2 (zp m 1) j3 (zp m 0) j6);let m2:Ht.M:=m1.after n<|!decide (V.int ((De (AD g.byte) 16))=V.int (0));.ok m2 else wi n (m.zone<|zp m 1).size fun j15=>wi (rp m 0) (m.zone<|zp m 0).size fun j18=>let m3:Ht.M:=m.move (zp m 1) j15<|(lE m.kept.least o d)- (m.now2 (zp m 1) j15 (zp m 0) j18);let m4:Ht.M:=m3.after n<|!decide (V.int ((De (AD g.byte) 16))=V.int (0));.ok m4)
inductive nQ(K:AS)(A:B3)(vs:List V)(H:Hp)(Q':VK)(E:XK):Prop
 | mk: ∀ z W v m n o d,vs= [.ref z.g.run,.int n,.int o,.int d]->BX K A E z W v m H (Ho z.g m n o d)->FE n->(∀ H',z.Q .non H'->Q' .non H')->nQ K A vs H Q' E
noncomputable def kT(K:AS)(A:B3):Sp:=nQ K A
def Mi :OF P w base 7 75 ["run","number","original","distance"] (kT K A):=by
 refine T.Ls.F.Vm ["run","number","original","distance","point"] fun H vs Q E hr h=>?_
 obtain⟨z,W,v,m,n,o,d,rfl,c,hn,k⟩:=h
 refine⟨_,(AB (Aq (A0 Ep (AU UQ (AR AH) AE) AE) (AF<|AO 3<|Ah g8 T.iL<|CH (AR<|AR<|AR AH) Aj A6) AX)<|AB (AO 4<|Be AH A5 T.BV<|Ax AE AV)<|AB (Ad<|Ah HF T.move<|CH AH CG<|AU B1 A6<|Ah DT T.D9<|CH AH CG<|Be AH CM T.Cv<|Ax AE AE)<|AF<|Ad<|Ah aB T.je<|CH AH AV<|Hu Ep (AU UQ (AR AH) AE) AE),c.rn,AL,BM,rfl,UT c (fun e1 c=>?_) fun e1 c=>?_⟩
 ·refine⟨c.rn,B5,B9 c (by decide) fun p2 c=>?_⟩
  have z4:=Ci c.h.good 1
  refine⟨c.rn,DF,Hb c (by decide) (by decide) fun p5 c=>?_⟩
  have z7:=Ci c.h.good 0
  refine Lz c z4 p2 z7 p5 fun H8 c=>DY c z4 p2 fun W9 v10 H11 sm12 kp c=>?_
  replace p2:=kp _ _ z4 p2
  replace p5:=kp _ _ z7 p5
  exact⟨c.rn,AL,BM,rfl,Rj c hn fun H13 c=>k _ c.done⟩
 ·refine⟨c.rn,AL,A_,c.h.gr,AW,DZ,c.h.kp,BG,Xz,_,_,_,rfl,trivial,c.rn,B5,B9 c (by decide) fun p14 c=>?_⟩
  have z16:=Ci c.h.good 1
  refine⟨c.rn,DF,Hb c (by decide) (by decide) fun p17 c=>?_⟩
  have z19:=Ci c.h.good 0
  refine Lz c z16 p14 z19 p17 fun H20 c=>DY c z16 p14 fun W21 v22 H23 sm24 kp c=>?_
  replace p14:=kp _ _ z16 p14
  replace p17:=kp _ _ z19 p17
  exact⟨c.rn,AL,BM,rfl,Rj c hn fun H25 c=>k _ c.done⟩
def Gd(c:BX K A E z W v m H (Ho z.g m n o d))(i:FE n)(k: ∀ H',z.Q .non H'->Q .non H'):kT K A [.ref z.g.run,.int n,.int o,.int d] H Q E:=by
 unfold kT
 exact⟨z,W,v,m,n,o,d,rfl,c,i,k⟩
noncomputable def Dp(g:B4)(m:Ht.M):Ht.R Ht.M:=tk m fun m1 a1=>wi a1 (m1.zone<|zp m1 2).size fun j6=>(if(AD g.byte)=70 then gv m1 (m1.now1 (zp m1 2) j6) fun m2=> .ok m2 else gv m1 (m1.old1 (zp m1 2) j6) fun m3=> .ok m3)
def JA :OA P w base 6 62 Dp:=by
 refine T.IG.F.act ["run","point"] fun H Q E W g v m hr hb c=>⟨_,(AB (AO 1<|Be AH A5 T.BV<|Ax AE<|BI AH AM T.AZ)<|AF<|Ad<|Be AH A1 T.BW<|Af<|Bn (A0 BD (AR AH) AE) (Ah OT T.X2<|Ax AH AV)<|Ah sR T.vp<|Ax AH AV),c.rn,B5,c.rn,Al,Am c fun a1 s2 H3 i4 c=>B9 c (by decide) fun p5 c=>?_⟩
 have z7:=Ci c.h.good 2
 refine⟨c.rn,B2,c.rn,AL,BM,rfl,He c (fun e8 c=>?_) fun e8 c=>?_⟩
 ·exact X6 c z7 p5<|Bp c fun H9 e10 c=>c.done
 ·exact ACV c z7 p5<|Bp c fun H11 e12 c=>c.done
noncomputable def Gx(g:B4)(m:Ht.M):Ht.R Ht.M:=tk m fun m1 a1=>tk m1 fun m2 a5=>wi a5 (m2.zone<|zp m2 2).size fun j10=>let m3:Ht.M:=m2.move (zp m2 2) j10<|a1- (m2.now1 (zp m2 2) j10);(if(AD m3.z2)=0 then let m4:Ht.M:=m3.put (zp m2 2) j10<|(m3.zone<|zp m2 2).at_ j10;.ok m4 else .ok m3)
def Sj :OA P w base 6 63 Gx:=by
 refine T.Nz.F.act ["run","wanted","point"] fun H Q E W g v m hr hb c=>⟨_,(AB (AO 1<|BI AH AM T.AZ)<|AB (AO 2<|Be AH A5 T.BV<|Ax AE<|BI AH AM T.AZ)<|AB (Ad<|Ah HF T.move<|CH AH Aj<|AU B1 AV<|Ah OT T.X2<|Ax AH Aj)<|AF<|Aq (A0 BD (A9 Ab (AR AH) AE) AE) (AF<|Ad<|Be Aj MC T.O_<|Af<|AR Aj) AX),c.rn,Al,Am c fun a1 s2 H3 i4 c=>⟨c.rn,B5,c.rn,Al,Am c fun a5 s6 H7 i8 c=>B9 c (by decide) fun p9 c=>?_⟩⟩
 have z11:=Ci c.h.good 2
 refine X6 c z11 p9<|DY c z11 p9 fun W12 v13 H14 sm15 kp c=>?_
 replace p9:=kp _ _ z11 p9
 refine⟨c.rn,AL,C8,BF.of c.h.Bj,rfl,rfl,He c (fun e16 c=>?_) fun e16 c=>c.done⟩
 ·refine⟨c.h.pt z11 p9,kM,c.h.pt z11 p9,Aa,CF _ _ _,xC c z11 p9 (.inl<|BF.of<|c.h.pn z11 p9) (ADn<|MX c.h.good z11 p9) fun v17 H18 kp c=>?_⟩
  replace p9:=kp _ _ z11 p9
  exact c.done
noncomputable def EI(g:B4)(m:Ht.M):Ht.R Ht.M:=tk m fun m1 a1=>tk m1 fun m2 a5=>wi a5 (m2.zone<|zp m2 0).size fun j10=>wi a1 (m2.zone<|zp m2 1).size fun j13=>(if(AD g.byte)=73 then gv m2 (m2.now2 (zp m2 0) j10 (zp m2 1) j13) fun m3=> .ok m3 else gv m2 (m2.old2 (zp m2 0) j10 (zp m2 1) j13) fun m4=> .ok m4)
def LR :OA P w base 6 64 EI:=by
 refine T.KU.F.act ["run","second","point","base"] fun H Q E W g v m hr hb c=>⟨_,(AB (AO 1<|BI AH AM T.AZ)<|AB (AO 2<|Be AH A5 T.BV<|Ax AE<|BI AH AM T.AZ)<|AB (AO 3<|Be AH A5 T.BV<|Ax AE AV)<|AF<|Ad<|Be AH A1 T.BW<|Af<|Bn (A0 BD (AR AH) AE) (Ah DT T.D9<|CH AH Aj A6)<|Ah EU T.Fi<|CH AH Aj A6),c.rn,Al,Am c fun a1 s2 H3 i4 c=>⟨c.rn,B5,c.rn,Al,Am c fun a5 s6 H7 i8 c=>B9 c (by decide) fun p9 c=>?_⟩⟩
 have z11:=Ci c.h.good 0
 refine⟨c.rn,B5,B9 c (by decide) fun p12 c=>?_⟩
 have z14:=Ci c.h.good 1
 refine⟨c.rn,B2,c.rn,AL,BM,rfl,He c (fun e15 c=>?_) fun e15 c=>?_⟩
 ·exact Lz c z11 p9 z14 p12 fun H16 c=>Bp c fun H17 e18 c=>c.done
 ·exact Tz c z11 p9 z14 p12 fun H19 c=>Bp c fun H20 e21 c=>c.done
noncomputable def Ub(g:B4)(m:Ht.M):Ht.R Ht.M:=tk m fun m1 a1=>wi a1 (m1.zone<|zp m1 0).size fun j6=>let m2:Ht.M:=m1.mark (zp m1 0) j6<|m1.untouched;.ok m2
def kJ :OA P w base 6 67 Ub:=by
 refine T.qG.F.act ["run"] fun H Q E W g v m hr hb c=>⟨_,(AF<|Ad<|Be (Be AH A5 T.BV<|Ax AE<|BI AH AM T.AZ) Ms T.MP<|Af<|Ah P_ T.Qv<|Af AH),c.rn,B5,c.rn,Al,Am c fun a1 s2 H3 i4 c=>B9 c (by decide) fun p5 c=>?_⟩
 have z7:=Ci c.h.good 0
 refine⟨c.h.pt z7 p5,aJ,AB4 c<|fF c z7 p5 (fun x hx=>⟨vv hx,eW hx⟩) fun H9 kp c=>?_⟩
 replace p5:=kp _ _ z7 p5
 exact c.done
noncomputable def D3(g:B4)(m:Ht.M):Ht.R Ht.M:=tk m fun m1 a1=>wi a1 (m1.zone<|zp m1 0).size fun j6=>(if(AD g.byte)=47 then let m2:Ht.M:=m1.move (zp m1 0) j6<|(m1.round<|m1.now1 (zp m1 0) j6)- (m1.now1 (zp m1 0) j6);let m3:Ht.M:={m2 with r0:=a1,r1:=a1};.ok m3 else let m4:Ht.M:=m1.move (zp m1 0) j6<|(m1.now1 (zp m1 0) j6)- (m1.now1 (zp m1 0) j6);let m5:Ht.M:={m4 with r0:=a1,r1:=a1};.ok m5)
def Jj :OA P w base 6 69 D3:=by
 refine T.JR.F.act ["run","number","point","place","wanted"] fun H Q E W g v m hr hb c=>⟨_,(AB (AO 1<|BI AH AM T.AZ)<|AB (AO 2<|Be AH A5 T.BV<|Ax AE AV)<|AB (AO 3<|Ah OT T.X2<|Ax AH Aj)<|AB (AO 4<|Bn (A0 BD (AR AH) AE) (Be AH Cb T.Cj<|Af A6) A6)<|AB (Ad<|Ah HF T.move<|CH AH Aj<|AU B1 CG A6)<|AF<|Ad<|Ah Z2 T.anchor<|Ax AH AV),c.rn,Al,Am c fun a1 s2 H3 i4 c=>⟨c.rn,B5,B9 c (by decide) fun p5 c=>?_⟩⟩
 have z7:=Ci c.h.good 0
 refine X6 c z7 p5<|⟨c.rn,AL,BM,rfl,He c (fun e8 c=>?_) fun e8 c=>?_⟩
 ·refine⟨c.rn,B_,Ji c<|DY c z7 p5 fun W9 v10 H11 sm12 kp c=>?_⟩
  replace p5:=kp _ _ z7 p5
  exact Hh c i4 fun H13 c=>c.done
 ·refine DY c z7 p5 fun W14 v15 H16 sm17 kp c=>?_
  replace p5:=kp _ _ z7 p5
  exact Hh c i4 fun H18 c=>c.done
noncomputable def Ds(g:B4)(m:Ht.M):Ht.R Ht.M:=tk m fun m1 a1=>tk m1 fun m2 a5=>wi a1 (iV m2.values).length fun j10=>wi a5 (m2.zone<|zp m2 0).size fun j12=>(if(AD m2.z0)=0 then let m3:Ht.M:=m2.put (zp m2 0) j12<|Ht.times (m2.values.getD j10 0) m2.F;(if(AD g.byte)=63 then(if m3.kept.cutin<(if((m2.values.getD j10 0)- (m3.now1 (zp m2 0) j12))<0 then-((m2.values.getD j10 0)- (m3.now1 (zp m2 0) j12))else((m2.values.getD j10 0)- (m3.now1 (zp m2 0) j12)))then let m4:Ht.M:=m3.move (zp m2 0) j12<|(m3.round<|m3.now1 (zp m2 0) j12)- (m3.now1 (zp m2 0) j12);let m5:Ht.M:={m4 with r0:=a5,r1:=a5};.ok m5 else let m6:Ht.M:=m3.move (zp m2 0) j12<|(m3.round<|m2.values.getD j10 0)- (m3.now1 (zp m2 0) j12);let m7:Ht.M:={m6 with r0:=a5,r1:=a5};.ok m7)else let m8:Ht.M:=m3.move (zp m2 0) j12<|(m2.values.getD j10 0)- (m3.now1 (zp m2 0) j12);let m9:Ht.M:={m8 with r0:=a5,r1:=a5};.ok m9)else(if(AD g.byte)=63 then(if m2.kept.cutin<(if((m2.values.getD j10 0)- (m2.now1 (zp m2 0) j12))<0 then-((m2.values.getD j10 0)- (m2.now1 (zp m2 0) j12))else((m2.values.getD j10 0)- (m2.now1 (zp m2 0) j12)))then let Tx:Ht.M:=m2.move (zp m2 0) j12<|(m2.round<|m2.now1 (zp m2 0) j12)- (m2.now1 (zp m2 0) j12);let m11:Ht.M:={Tx with r0:=a5,r1:=a5};.ok m11 else let yX:Ht.M:=m2.move (zp m2 0) j12<|(m2.round<|m2.values.getD j10 0)- (m2.now1 (zp m2 0) j12);let UU:Ht.M:={yX with r0:=a5,r1:=a5};.ok UU)else let m14:Ht.M:=m2.move (zp m2 0) j12<|(m2.values.getD j10 0)- (m2.now1 (zp m2 0) j12);let m15:Ht.M:={m14 with r0:=a5,r1:=a5};.ok m15))
def JN :OA P w base 6 71 Ds:=by
 refine T.ID.F.act ["run","control_number","number","control","point","place"] fun H Q E W g v m hr hb c=>⟨_,(AB (AO 1<|BI AH AM T.AZ)<|AB (AO 2<|BI AH AM T.AZ)<|AB (AO 3<|Ah QG T.Qq<|Ax AH AV)<|AB (AO 4<|Be AH A5 T.BV<|Ax AE Aj)<|AB (Aq (A0 BD (A9 Ab (AR AH) AE) AE) (AF<|Ad<|Be CG MC T.O_<|Af<|Ah Ka T.L5<|Ax (AR AH) A6) AX)<|AB (AO 5<|Ah OT T.X2<|Ax AH CG)<|AB (Aq (A0 BD (AR AH) AE) (AB (Aq (A0 DE (EZ Hl rfl T.k.VF NM<|Af<|AU B1 A6 ES)<|AR<|AR<|AR AH) (AF<|AO 3 ES) AX)<|AF<|AO 3<|Be AH Cb T.Cj<|Af A6) AX)<|AB (Ad<|Ah HF T.move<|CH AH CG<|AU B1 A6 ES)<|AF<|Ad<|Ah Z2 T.anchor<|Ax AH Aj),c.rn,Al,Am c fun a1 s2 H3 i4 c=>⟨c.rn,Al,Am c fun a5 s6 H7 i8 c=>bF c fun w9 c=>⟨c.rn,B5,B9 c (by decide) fun p11 c=>?_⟩⟩⟩
 have z13:=Ci c.h.good 0
 refine⟨c.rn,AL,C8,BF.of c.h.Bj,rfl,rfl,He c (fun e14 c=>?_) fun e14 c=>?_⟩
 ·refine⟨c.h.pt z13 p11,kM,c.rn,AL,Fm,k7 c c.h.good.tF c.h.good.sF fun t15 H16 f17 c=>xC c z13 p11 (.inr<|BZ c.h.sub<|Dd.of AJ) (vA) fun v18 H19 kp c=>?_⟩
  replace p11:=kp _ _ z13 p11
  refine X6 c z13 p11<|⟨c.rn,AL,BM,rfl,He c (fun e20 c=>?_) fun e20 c=>?_⟩
  ·refine⟨_,rfl,c.rn,AL,A_,c.h.gr,AW,DZ,c.h.kp,BG,LI,ER c (fun e21 c=>?_) fun e21 c=>?_⟩
   ·refine⟨c.rn,B_,Ji c<|DY c z13 p11 fun W22 v23 H24 sm25 kp c=>?_⟩
    replace p11:=kp _ _ z13 p11
    exact Hh c i8 fun H26 c=>c.done
   ·refine⟨c.rn,B_,Ji c<|DY c z13 p11 fun W27 v28 H29 sm30 kp c=>?_⟩
    replace p11:=kp _ _ z13 p11
    exact Hh c i8 fun H31 c=>c.done
  ·refine DY c z13 p11 fun W32 v33 H34 sm35 kp c=>?_
   replace p11:=kp _ _ z13 p11
   exact Hh c i8 fun H36 c=>c.done
 ·refine X6 c z13 p11 (⟨c.rn,AL,BM,rfl,He c (fun e37 c=>?_) fun e37 c=>?_⟩)
  ·refine⟨_,rfl,c.rn,AL,A_,c.h.gr,AW,DZ,c.h.kp,BG,LI,ER c (fun e38 c=>?_) fun e38 c=>?_⟩
   ·refine⟨c.rn,B_,Ji c<|DY c z13 p11 fun W39 v40 H41 sm42 kp c=>?_⟩
    replace p11:=kp _ _ z13 p11
    exact Hh c i8 fun H43 c=>c.done
   ·refine⟨c.rn,B_,Ji c<|DY c z13 p11 fun W44 v45 H46 sm47 kp c=>?_⟩
    replace p11:=kp _ _ z13 p11
    exact Hh c i8 fun H48 c=>c.done
  ·refine DY c z13 p11 fun W49 v50 H51 sm52 kp c=>?_
   replace p11:=kp _ _ z13 p11
   exact Hh c i8 fun H53 c=>c.done
noncomputable def FT(g:B4)(m:Ht.M):Ht.R Ht.M:=tk m fun m1 a1=>wi a1 (m1.zone<|zp m1 1).size fun j6=>wi (rp m1 0) (m1.zone<|zp m1 0).size fun j9=>(if(De (AD g.byte) 4)=0 then Ho g m1 a1 (m1.single<|m1.old2 (zp m1 1) j6 (zp m1 0) j9) (m1.single<|m1.old2 (zp m1 1) j6 (zp m1 0) j9)else Ho g m1 a1 (m1.single<|m1.old2 (zp m1 1) j6 (zp m1 0) j9) (m1.round<|m1.single<|m1.old2 (zp m1 1) j6 (zp m1 0) j9))
def Px :OA P w base 8 76 FT:=by
 refine T.G8.F.act ["run","number","original","distance"] fun H Q E W g v m hr hb c=>⟨_,(AB (AO 1<|BI AH AM T.AZ)<|AB (AO 2<|Ah JL T.IK<|Ax AH<|Ah EU T.Fi<|CH AH (Be AH A5 T.BV<|Ax AE AV)<|Be AH CM T.Cv<|Ax AE AE)<|AB (AO 3 Aj)<|AB (Aq (A0 Ep (AU UQ (AR AH) AE) AE) (AF<|AO 3<|Be AH Cb T.Cj<|Af Aj) AX)<|AF<|Ad<|Ah Mi T.Ls<|Rp AH AV Aj A6),c.rn,Al,Am c fun a1 s2 H3 i4 c=>⟨c.rn,B5,B9 c (by decide) fun p5 c=>?_⟩⟩
 refine⟨c.rn,DF,Hb c (by decide) (by decide) fun p8 c=>?_⟩
 refine Tz c (Ci c.h.good 1) p5 (Ci c.h.good 0) p8 fun H11 c=>gm c<|⟨c.rn,AL,BM,rfl,UT c (fun e12 c=>Gd c i4 fun H q=>q) fun e12 c=>?_⟩
 ·exact⟨c.rn,B_,Ji c<|Gd c i4 fun H q=>q⟩
noncomputable def Gf(g:B4)(m:Ht.M):Ht.R Ht.M:=tk m fun m1 a1=>tk m1 fun m2 a5=>wi a1 (iV m2.values).length fun j10=>wi a5 (m2.zone<|zp m2 1).size fun j12=>wi (rp m2 0) (m2.zone<|zp m2 0).size fun j15=>(if(AD m2.z1)=0 then let m3:Ht.M:=m2.put (zp m2 1) j12<|Ht.plus ((m2.zone<|zp m2 0).was j15)<|Ht.times (m2.single<|m2.values.getD j10 0) m2.F;(if(bI m3.kept.flip)=1 then(if(decide ((m3.old2 (zp m2 1) j12 (zp m2 0) j15)<0))=(decide ((m2.single<|m2.values.getD j10 0)<0))then(if(De (AD g.byte) 4)=0 then Ho g m3 a5 (m3.old2 (zp m2 1) j12 (zp m2 0) j15) (m2.single<|m2.values.getD j10 0)else Ho g m3 a5 (m3.old2 (zp m2 1) j12 (zp m2 0) j15) (Rx m3 (m2.single<|m2.values.getD j10 0)<|m3.old2 (zp m2 1) j12 (zp m2 0) j15))else(if(De (AD g.byte) 4)=0 then Ho g m3 a5 (m3.old2 (zp m2 1) j12 (zp m2 0) j15) (Ht.cut<|-(m2.single<|m2.values.getD j10 0))else Ho g m3 a5 (m3.old2 (zp m2 1) j12 (zp m2 0) j15) (Rx m3 (Ht.cut<|-(m2.single<|m2.values.getD j10 0))<|m3.old2 (zp m2 1) j12 (zp m2 0) j15)))else(if(De (AD g.byte) 4)=0 then Ho g m3 a5 (m3.old2 (zp m2 1) j12 (zp m2 0) j15) (m2.single<|m2.values.getD j10 0)else Ho g m3 a5 (m3.old2 (zp m2 1) j12 (zp m2 0) j15) (Rx m3 (m2.single<|m2.values.getD j10 0)<|m3.old2 (zp m2 1) j12 (zp m2 0) j15)))else(if(bI m2.kept.flip)=1 then(if(decide ((m2.old2 (zp m2 1) j12 (zp m2 0) j15)<0))=(decide ((m2.single<|m2.values.getD j10 0)<0))then(if(De (AD g.byte) 4)=0 then Ho g m2 a5 (m2.old2 (zp m2 1) j12 (zp m2 0) j15) (m2.single<|m2.values.getD j10 0)else Ho g m2 a5 (m2.old2 (zp m2 1) j12 (zp m2 0) j15) (Rx m2 (m2.single<|m2.values.getD j10 0)<|m2.old2 (zp m2 1) j12 (zp m2 0) j15))else(if(De (AD g.byte) 4)=0 then Ho g m2 a5 (m2.old2 (zp m2 1) j12 (zp m2 0) j15) (Ht.cut<|-(m2.single<|m2.values.getD j10 0))else Ho g m2 a5 (m2.old2 (zp m2 1) j12 (zp m2 0) j15) (Rx m2 (Ht.cut<|-(m2.single<|m2.values.getD j10 0))<|m2.old2 (zp m2 1) j12 (zp m2 0) j15)))else(if(De (AD g.byte) 4)=0 then Ho g m2 a5 (m2.old2 (zp m2 1) j12 (zp m2 0) j15) (m2.single<|m2.values.getD j10 0)else Ho g m2 a5 (m2.old2 (zp m2 1) j12 (zp m2 0) j15) (Rx m2 (m2.single<|m2.values.getD j10 0)<|m2.old2 (zp m2 1) j12 (zp m2 0) j15))))
def Qe :OA P w base 8 79 Gf:=by
 refine T.IA.F.act ["run","control_number","number","control","point","base","original"] fun H Q E W g v m hr hb c=>⟨_,(AB (AO 1<|BI AH AM T.AZ)<|AB (AO 2<|BI AH AM T.AZ)<|AB (AO 3<|Ah JL T.IK<|Ax AH<|Ah QG T.Qq<|Ax AH AV)<|AB (AO 4<|Be AH A5 T.BV<|Ax AE Aj)<|AB (AO 5<|Be AH CM T.Cv<|Ax AE AE)<|AB (Aq (A0 BD (A9 Ab (AR AH) AE) AE) (AF<|Ad<|Ah Kt T.Kg<|CH CG ES<|Ah Ka T.L5<|Ax (AR AH) A6) AX)<|AB (AO 6<|Ah EU T.Fi<|CH AH CG ES)<|AB (Aq (PW.pt<|UZ (A0 BD (AR<|AR<|AR AH) AE)<|Oq<|A0 Ep (Hu Dn (pv 6) AE)<|Hu Dn A6 AE) (AF<|AO 3<|Ah Dv T.cut<|Af<|LL HA A6) AX)<|AB (Aq (A0 Ep (AU UQ (AR AH) AE) AE) (AF<|AO 3<|Ah YE T.Uv<|CH AH A6<|pv 6) AX)<|AF<|Ad<|Ah Mi T.Ls<|Rp AH Aj (pv 6) A6),c.rn,Al,Am c fun a1 s2 H3 i4 c=>⟨c.rn,Al,Am c fun a5 s6 H7 i8 c=>bF c fun w9 c=>gm c<|⟨c.rn,B5,B9 c (by decide) fun p11 c=>?_⟩⟩⟩
 have z13:=Ci c.h.good 1
 refine⟨c.rn,DF,Hb c (by decide) (by decide) fun p14 c=>?_⟩
 have z16:=Ci c.h.good 0
 refine⟨c.rn,AL,C8,BF.of c.h.Bj,rfl,rfl,He c (fun e17 c=>?_) fun e17 c=>?_⟩
 ·refine⟨c.rn,AL,Fm,k7 c c.h.good.tF c.h.good.sF fun t18 H19 f20 c=>AAx c z13 p11 z16 p14 (Dd.of AJ) fun v21 H22 kp c=>?_⟩
  replace p11:=kp _ _ z13 p11
  replace p14:=kp _ _ z16 p14
  refine Tz c z13 p11 z16 p14 fun H23 c=>⟨c.rn,AL,A_,c.h.gr,AW,DZ,c.h.kp,BG,WC,rfl,He c (fun e24 c=>?_) fun e24 c=>?_⟩
  ·refine⟨rfl,AAh c (fun e25 c=>?_) fun e25 c=>?_⟩
   ·refine⟨c.rn,AL,BM,rfl,UT c (fun e26 c=>Gd c i8 fun H q=>q) fun e26 c=>?_⟩
    ·exact aA c<|Gd c i8 fun H q=>q
   ·refine⟨_,rfl,trivial,c.rn,AL,BM,rfl,UT c (fun e27 c=>Gd c i8 fun H q=>q) fun e27 c=>?_⟩
    ·exact aA c<|Gd c i8 fun H q=>q
  ·refine(⟨c.rn,AL,BM,rfl,UT c (fun e28 c=>Gd c i8 fun H q=>q) fun e28 c=>?_⟩)
   ·exact aA c<|Gd c i8 fun H q=>q
 ·refine Tz c z13 p11 z16 p14 fun H29 c=>⟨c.rn,AL,A_,c.h.gr,AW,DZ,c.h.kp,BG,WC,rfl,He c (fun e30 c=>?_) fun e30 c=>?_⟩
  ·refine⟨rfl,AAh c (fun e31 c=>?_) fun e31 c=>?_⟩
   ·refine⟨c.rn,AL,BM,rfl,UT c (fun e32 c=>Gd c i8 fun H q=>q) fun e32 c=>?_⟩
    ·exact aA c<|Gd c i8 fun H q=>q
   ·refine⟨_,rfl,trivial,c.rn,AL,BM,rfl,UT c (fun e33 c=>Gd c i8 fun H q=>q) fun e33 c=>?_⟩
    ·exact aA c<|Gd c i8 fun H q=>q
  ·refine(⟨c.rn,AL,BM,rfl,UT c (fun e34 c=>Gd c i8 fun H q=>q) fun e34 c=>?_⟩)
   ·exact aA c<|Gd c i8 fun H q=>q
noncomputable def DP(g:B4)(m:Ht.M):Ht.R Ht.M:=tk m fun m1 a1=>tk m1 fun m2 a5=>wi a5 (m2.zone<|zp m2 1).size fun j10=>wi (rp m2 0) (m2.zone<|zp m2 0).size fun j13=>(if(AD m2.z1)=0 then let m3:Ht.M:=m2.put (zp m2 1) j10<|Ht.plus ((m2.zone<|zp m2 0).was j13)<|m2.way_ a1;let m4:Ht.M:=m3.move (zp m2 1) j10<|a1- (m3.now2 (zp m2 1) j10 (zp m2 0) j13);let m5:Ht.M:=m4.after a5<|decide (V.int ((AD g.byte))=V.int (59));.ok m5 else let m6:Ht.M:=m2.move (zp m2 1) j10<|a1- (m2.now2 (zp m2 1) j10 (zp m2 0) j13);let m7:Ht.M:=m6.after a5<|decide (V.int ((AD g.byte))=V.int (59));.ok m7)
def IP :OA P w base 7 80 DP:=by
 refine T.Gr.F.act ["run","distance","number","point","base"] fun H Q E W g v m hr hb c=>⟨_,(AB (AO 1<|BI AH AM T.AZ)<|AB (AO 2<|BI AH AM T.AZ)<|AB (AO 3<|Be AH A5 T.BV<|Ax AE Aj)<|AB (AO 4<|Be AH CM T.Cv<|Ax AE AE)<|AB (Aq (A0 BD (A9 Ab (AR AH) AE) AE) (AF<|Ad<|Ah Kt T.Kg<|CH A6 CG<|Ah UG T.f9<|Ax AH AV) AX)<|AB (Ad<|Ah HF T.move<|CH AH A6<|AU B1 AV<|Ah DT T.D9<|CH AH A6 CG)<|AF<|Ad<|Ah aB T.je<|CH AH Aj<|Hu BD (AR AH) AE),c.rn,Al,Am c fun a1 s2 H3 i4 c=>⟨c.rn,Al,Am c fun a5 s6 H7 i8 c=>⟨c.rn,B5,B9 c (by decide) fun p9 c=>?_⟩⟩⟩
 have z11:=Ci c.h.good 1
 refine⟨c.rn,DF,Hb c (by decide) (by decide) fun p12 c=>?_⟩
 have z14:=Ci c.h.good 0
 refine⟨c.rn,AL,C8,BF.of c.h.Bj,rfl,rfl,He c (fun e15 c=>?_) fun e15 c=>?_⟩
 ·refine wy c fun t16 H17 f18 c=>AAx c z11 p9 z14 p12 (Dd.of AJ) fun v19 H20 kp c=>?_
  replace p9:=kp _ _ z11 p9
  replace p12:=kp _ _ z14 p12
  refine Lz c z11 p9 z14 p12 fun H21 c=>DY c z11 p9 fun W22 v23 H24 sm25 kp c=>?_
  replace p9:=kp _ _ z11 p9
  replace p12:=kp _ _ z14 p12
  exact⟨c.rn,AL,BM,rfl,Rj c i8 fun H26 c=>c.done⟩
 ·refine Lz c z11 p9 z14 p12 fun H27 c=>DY c z11 p9 fun W28 v29 H30 sm31 kp c=>?_
  replace p9:=kp _ _ z11 p9
  replace p12:=kp _ _ z14 p12
  exact⟨c.rn,AL,BM,rfl,Rj c i8 fun H32 c=>c.done⟩
noncomputable def NK(g:B4)(m:Ht.M):Ht.R Ht.M:=tk m fun m1 a1=>tk m1 fun m2 a5=>wi a5 (m2.zone<|zp m2 1).size fun j10=>wi a1 (m2.zone<|zp m2 0).size fun j13=>let m3:Ht.M:=m2.move (zp m2 1) j10<|BN (m2.now2 (zp m2 0) j13 (zp m2 1) j10) 2;let m4:Ht.M:=m3.move (zp m2 0) j13<|-(BN (m2.now2 (zp m2 0) j13 (zp m2 1) j10) 2);.ok m4
def dP :OA P w base 6 82 NK:=by
 refine T.aa.F.act ["run","second","first","point","other","half"] fun H Q E W g v m hr hb c=>⟨_,(AB (AO 1<|BI AH AM T.AZ)<|AB (AO 2<|BI AH AM T.AZ)<|AB (AO 3<|Be AH A5 T.BV<|Ax AE Aj)<|AB (AO 4<|Be AH A5 T.BV<|Ax AE AV)<|AB (AO 5<|AU Bm (Ah DT T.D9<|CH AH CG A6) AE)<|AB (Ad<|Ah HF T.move<|CH AH A6 ES)<|AF<|Ad<|Ah HF T.move<|CH AH CG<|LL HA ES),c.rn,Al,Am c fun a1 s2 H3 i4 c=>⟨c.rn,Al,Am c fun a5 s6 H7 i8 c=>⟨c.rn,B5,B9 c (by decide) fun p9 c=>?_⟩⟩⟩
 have z11:=Ci c.h.good 1
 refine⟨c.rn,B5,B9 c (by decide) fun p12 c=>?_⟩
 have z14:=Ci c.h.good 0
 refine Lz c z14 p12 z11 p9 fun H15 c=>⟨⟨by decide,by decide⟩,DY c z11 p9 fun W16 v17 H18 sm19 kp c=>?_⟩
 replace p9:=kp _ _ z11 p9
 replace p12:=kp _ _ z14 p12
 refine DY c z14 p12 fun W20 v21 H22 sm23 kp c=>?_
 replace p9:=kp _ _ z11 p9
 replace p12:=kp _ _ z14 p12
 exact c.done
section
variable{W:Hp}{v:Var}{m:Ht.M}{H:Hp}{Q:VK}{E E':XK}{z:Fx}{r:Ht.R Ht.M}{y i:Nat}
def BX.zj(c:BX K A E z W v m H r)(hy:y<2)(hi:i<(m.zone y).size)(e:x=AD (fn<|(m.zone y).mark i))(l:fn ((m.zone y).mark i)<8):BX K A E z W v (m.mark y i fn) (upd H (z.g.pp y i)<|.ins (A.cl 3) (z.g.pd y i)<|DJ "marks" (.int x)<|Na (v.lo y i) (v.ln y i)<|AD<|(m.zone y).mark i) r:=by
 rw[Wg]
 subst e
 exact c.go same_refl (c.h.lP hy hi l) FZ EY
end
noncomputable def vi(x:Nat):Nat:=if Ht.has x Ht.ON=true then Ht.lose x Ht.ON else Ht.give x Ht.ON
def zy(h:x<8):rB (AD x) 1=AD (vi x)/\vi x<8:=by
 have:=xh<|by assumption
 rcases this with rfl | rfl | rfl | rfl | rfl | rfl | rfl | rfl<;>decide+kernel
def AD4(h:x<8):R4 (AD x) 1=AD (Ht.give x Ht.ON)/\Ht.give x Ht.ON<8:=by
 have:=xh<|by assumption
 rcases this with rfl | rfl | rfl | rfl | rfl | rfl | rfl | rfl<;>decide+kernel
def ABN(h:x<8):De (AD x) (7-1)=AD (Ht.lose x Ht.ON)/\Ht.lose x Ht.ON<8:=by
 have:=xh<|by assumption
 rcases this with rfl | rfl | rfl | rfl | rfl | rfl | rfl | rfl<;>decide+kernel
def both_eq(h:x<8):R4 (AD x) (2+4)=AD (Ht.give (Ht.give x Ht.INX) Ht.INY)/\Ht.give (Ht.give x Ht.INX) Ht.INY<8:=by
 have:=xh<|by assumption
 rcases this with rfl | rfl | rfl | rfl | rfl | rfl | rfl | rfl<;>decide+kernel
noncomputable def Hk(g:B4)(m:Ht.M):Ht.R Ht.M:=uB m fun m l=>Du (fun x m F=>wi x (m.zone 1).size fun i=>F<|m.mark 1 i vi) l m .ok
noncomputable def Gb(g:B4)(m:Ht.M):Ht.R Ht.M:=uB m fun m l=>Du (fun x m F=>wi x (m.zone<|zp m 1).size fun i=>wi (rp m 0) (m.zone<|zp m 0).size fun j=>F<|m.move (zp m 1) i<|-(m.now2 (zp m 1) i (zp m 0) j)) l m .ok
def M3 :OA P w base 5 65 Hk:=by
 refine T.JI.F.act ["run","number","point"] fun H Q E W g v m hr hb c=>⟨_,(AF<|EM PassesOwn.leaving rfl (GO<|BI AH D8 T.EL) (FV 1)<|AB (AO 2<|Be AH Hs T.GP<|Ax AE AV)<|AF<|BC Aj<|AU ACU (AR Aj)<|Bt T.k.QP),c.rn,Hn,RW c fun l H1 e1 w1 c=>⟨⟨_,BF.of<|c.h.sub _ _ AJ⟩,Yu AJ (fun σ=> ∃ o1 o2,σ= [some<|.ref g.run,o1,o2]) (fun _ _=>True) ⟨⟨none,none,rfl⟩,_,_,_,same_refl,trivial,c⟩ ?_ ?_⟩⟩
 ·rintro a rest σ W1 v1 m1 H1 ha ⟨o1,o2,rfl⟩ sm _ c
  refine⟨c.rn,Mr,AD_ c (by decide) fun p1 c=>?_⟩
  have em:=zy<|J8 c.h.good (by decide) p1
  exact⟨c.h.pt (by decide) p1,Aa,LG _ _ _,c.h.pt (by decide) p1,Aa,(B8 rfl),⟨_,_,rfl⟩,_,_,_,sm,trivial,c.zj (by decide) p1 em.1 em.2⟩
 ·rintro σ W1 v1 m1 H1 ⟨o1,o2,rfl⟩ sm _ c
  exact c.done
def K4 :OA P w base 7 81 Gb:=by
 refine T.Hd.F.act ["run","number","point"] fun H Q E W g v m hr hb c=>⟨_,(AF<|EM PassesOwn.leaving rfl (GO<|BI AH D8 T.EL) (FV 1)<|AB (AO 2<|Be AH A5 T.BV<|Ax AE AV)<|AF<|Ad<|Ah HF T.move<|CH AH Aj<|LL HA<|Ah DT T.D9<|CH AH Aj<|Be AH CM T.Cv<|Ax AE AE),c.rn,Hn,RW c fun l H1 e1 w1 c=>⟨⟨_,BF.of<|c.h.sub _ _ AJ⟩,Yu AJ (fun σ=> ∃ o1 o2,σ= [some<|.ref g.run,o1,o2]) (fun _ _=>True) ⟨⟨none,none,rfl⟩,_,_,_,same_refl,trivial,c⟩ ?_ ?_⟩⟩
 ·rintro a rest σ W1 v1 m1 H1 ha ⟨o1,o2,rfl⟩ sm _ c
  refine⟨c.rn,B5,B9 c (by decide) fun p1 c=>?_⟩
  have z1:=Ci c.h.good 1
  exact⟨c.rn,DF,Hb c (by decide) (by decide) fun p0 c=>Lz c z1 p1 (Ci c.h.good 0) p0 fun H2 c=>DY c z1 p1 fun W3 v3 H3 s3 kp c=>⟨⟨_,_,rfl⟩,_,_,_,fun b o e=>s3 b o<|sm b o e,trivial,c⟩⟩
 ·rintro σ W1 v1 m1 H1 ⟨o1,o2,rfl⟩ sm _ c
  exact c.done
noncomputable def xZ(g:B4):Nat->Nat:=fun x=>if AD g.byte=129 then Ht.give x Ht.ON else Ht.lose x Ht.ON
noncomputable def QF(g:B4)(m:Ht.M)(a n:Nat):Ht.M:=(BO n).foldl (fun y i=>y.mark 1 (a+i)<|xZ g) m
def RD:QF g m a (n+1)=(QF g m a n).mark 1 (a+n) (xZ g):=by
 unfold QF
 rw[Ha,WH]
 rfl
theorem Yq: ∀ n,((QF g m a n).zone 1).size=(m.zone 1).size
 | 0=>rfl
 | n+1=>by rw[RD,Z_ (by decide)<|by decide];exact Yq n
noncomputable def KS(g:B4)(m:Ht.M):Ht.R Ht.M:=tk m fun m b=>tk m fun m a=>wi a (m.zone 1).size fun i=>wi b (m.zone 1).size fun j=> .ok (QF g m i<|j+1-i)
def JT :OA P w base 4 66 KS:=by
 refine T.Hv.F.act ["run","outline","last","first","number"] fun H Q E W g v m hr hb c=>⟨_,(AB (AO 1<|AR<|AR AH)<|AB (AO 2<|BI AH AM T.AZ)<|AB (AO 3<|Ah Ck T.within<|Ax (BI AH AM T.AZ)<|Dc T.k.CD<|Af AV)<|AF<|EM PassesOwn.leaving rfl (Tj rfl T.k.Jw<|Ax A6<|AU BJ (Ah Ck T.within<|Ax Aj<|Dc T.k.CD<|Af AV) AE) (FV 4)<|AF<|Aq (A0 BD (AR AH) AE) (AF<|Ad<|Be (A9 Ab AV CG) KW T.Mb<|Af<|Bt T.k.QP)<|AF<|Ad<|Be (A9 Ab AV CG) Ms T.MP<|Af<|Bt T.k.QP),c.rn,AL,A_,c.h.gr,AW,G_,c.rn,Al,Am c fun b s1 H1 i1 c=>⟨c.rn,Al,Am c fun a s2 H2 i2 c=>⟨.inl<|BF.of<|c.h.zl<|by decide,?_⟩⟩⟩
 rw[jx]
 refine DR c fun w1 c=>⟨.inl<|BF.of<|c.h.zl<|by decide,?_⟩
 rw[jx]
 refine DR c fun w2 c=>?_
 have ZA:(m.zone 1).size<=64:=(E4 c.h.good (z:=1)<|by decide).ZA
 have w1':Ht.unsigned a<(m.zone 1).size:=w1
 have w2':Ht.unsigned b<(m.zone 1).size:=w2
 generalize ha:Ht.unsigned a=a' at*
 generalize hb':Ht.unsigned b=b' at*
 refine⟨_,_,rfl,(show(-(2^62)<=(a':Int)/\(a':Int)<2^62/\ -(2^62)<=(b':Int)+1/\(b':Int)+1<2^62) by lia),?_⟩
 have en:(AD b'+1-AD a').toNat=b'+1-a':=by show((b':Int)+1- (a':Int)).toNat=b'+1-a';lia
 show ∃ W,_
 rw[en]
 have sz: ∀ k y i,i<(m.zone 1).size->y=1->i<((QF g (Bs m<|s2) a' k).zone y).size:=fun k y i h e=>by subst e;rw[Yq];exact h
 refine Oz (lo:=AD a') (n:=b'+1-a') (fun k σ H'=> ∃ v' o,σ= [some<|.ref g.run,some<|.ref<|g.zl 1,some<|.int b,some<|.int<|AD a',o]/\BX K A E ⟨W,g,m.steps,m.inFont,Q⟩ W v' (QF g (Bs m<|s2) a' k) H' (.ok<|QF g (Bs m<|s2) a'<|b'+1-a')) ⟨v,none,rfl,c⟩ ?_ ?_
 ·rintro k σ H3 hk ⟨v3,o,rfl,c⟩
  have hi:a'+k<(m.zone 1).size:=by lia
  have hi2:=sz k 1 _ hi rfl
  have hz:=c.h.zl (z:=1)<|by decide
  refine⟨c.rn,AL,BM,rfl,A7 (fun e=>?_) fun e=>?_⟩
  ·have e':=V.int.inj (An e)
   refine⟨BF.of hz,Kk<|Z4 hi2,c.h.pt (by decide) hi2,bQ,?_⟩
   refine fF c (by decide) hi2 (fn:=xZ g) (fun x hx=>by unfold xZ;rw[AI e'];exact AD4 hx) fun H4 kp c=>?_
   rw[<-RD]at c
   exact⟨v3,_,rfl,c⟩
  ·have e': ¬ AD g.byte=129:=fun q=>e (Av<|BL V.int q)
   refine⟨BF.of hz,Kk<|Z4 hi2,c.h.pt (by decide) hi2,aJ,?_⟩
   refine fF c (by decide) hi2 (fn:=xZ g) (fun x hx=>by unfold xZ;rw[AG e'];exact ABN hx) fun H4 kp c=>?_
   rw[<-RD]at c
   exact⟨v3,_,rfl,c⟩
 ·rintro σ H3 ⟨v3,o,rfl,c⟩
  exact c.done
noncomputable def GS(x y:Ht.Pos):Int:=x.1*y.2-x.2*y.1
def wY.r1(h:wY x): -(2^64)<x.1/\x.1<2^64:=by
 have:=h.1
 have e:(2:Nat)^40=1099511627776:=by decide
 rw[e]at this
 lia
def wY.r2(h:wY x): -(2^64)<x.2/\x.2<2^64:=by
 have:=h.2
 have e:(2:Nat)^40=1099511627776:=by decide
 rw[e]at this
 lia
inductive oM(K:AS)(vs:List V)(H:Hp)(Q:VK)(E_:XK):Prop
 | mk: ∀ a b x y,vs= [.ref a,.ref b]->Dd K H a (pV x)->Dd K H b (pV y)->wY x->Q (.int (GS x y)) H->oM K vs H Q E_
def iZ :O0 P w base 1 83 ["line","other"] (oM K):=by
 refine T.xU.F.DQ ["line","other"] fun H vs Q E hr h=>?_
 obtain⟨a,b,x,y,rfl,ha,hb,bx,q⟩:=h
 exact⟨_,(AF<|AY<|AU B1 (AU Bb (A9 By AH AE)<|A9 By AV AE)<|AU Bb (A9 By AH AE)<|A9 By AV AE),ha,rfl,hb,rfl,.inl bx.r1,ha,rfl,hb,rfl,.inl bx.r2,q⟩
noncomputable def MY(a b c d:Ht.Pos):Ht.Pos:=if GS (Ht.less b a) (Ht.less d c)=0 then(BN (a.1+b.1+c.1+d.1) 4,BN (a.2+b.2+c.2+d.2) 4)else(a.1+Ht.near ((b.1-a.1)*GS (Ht.less c a) (Ht.less d c)) (GS (Ht.less b a)<|Ht.less d c),a.2+Ht.near ((b.2-a.2)*GS (Ht.less c a) (Ht.less d c)) (GS (Ht.less b a)<|Ht.less d c))
def kG(hx:wY x)(hy:wY y)(h: ¬ GS x y=0):j4 (GS x y):=by
 refine⟨h,?_⟩
 have b1:(x.1*y.2).natAbs<=2^80:=by rw[Wu];exact CC (Lq (HS hx.1)<|HS hy.2)<|by decide
 have b2:(x.2*y.1).natAbs<=2^80:=by rw[Wu];exact CC (Lq (HS hx.2)<|HS hy.1)<|by decide
 have e1:(2:Nat)^80=1208925819614629174706176:=by decide
 rw[e1]at b1 b2
 unfold GS
 generalize x.1*y.2=p at*
 generalize x.2*y.1=q at*
 have:(p-q).natAbs<=2417851639229258349412352:=by lia
 exact Ez this<|by decide
structure Lp(v:Var)(m:Ht.M)(p:AK)(x:Ht.Pos):Prop where
 at_: ∃ y i,y<2/\i<(m.zone y).size/\p=v.ln y i/\x=(m.zone y).at_ i
def Lp.get(l:Lp v m p x)(h:R K A W g v m H):H p=some (.lst<|pV x)/\LU x:=by
 obtain⟨y,i,hy,hi,rfl,rfl⟩:=l.at_
 exact⟨h.pn hy hi,MX h.good hy hi⟩
inductive YT(K:AS)(A:B3)(vs:List V)(H:Hp)(Q:VK)(E:XK):Prop
 | mk: ∀ z W v m r E' pa pb pc pd a b c d,vs= [.ref pa,.ref pb,.ref pc,.ref pd]->BX K A E' z W v m H r->(Lp v m pa a/\Lp v m pb b/\Lp v m pc c/\Lp v m pd d)->(∀ p W' H',BX K A E' z W' v m H' r->Dd K W' p (pV (MY a b c d))->Q (.ref p) H')->YT K A vs H Q E
def RN(c:BX K A E z W v m H r)(lx:Lp v m p x)(ly:Lp v m q y)(k: ∀ t H',W t=none->BX K A E z (upd W t<|.tup<|pV<|Ht.less x y) v m H' r->Q (.ref t) H'):dU K [.ref p,.ref q] H Q E':=UJ c (lx.get c.h).1 (ly.get c.h).1 k
def jM :O0 P w base 2 84 ["a","b","c","d"] (YT K A):=by
 refine T.crossing.F.DQ ["a","b","c","d","share","whole","line"] fun H vs Q E hr h=>?_
 obtain⟨z,W,v,m,r,E',pa,pb,pc,pd,a,b,cc,d,rfl,c,⟨la,lb,lc,ld⟩,k⟩:=h
 refine⟨_,(AB (AO 4<|Ah iZ T.xU<|Ax (Ah Fq T.less<|Ax Aj AH)<|Ah Fq T.less<|Ax A6 Aj)<|AB (AO 5<|Ah iZ T.xU<|Ax (Ah Fq T.less<|Ax AV AH)<|Ah Fq T.less<|Ax A6 Aj)<|AB (Aq (A0 BD ES AE) (AF<|AY<|Iy<|Ax (AU Bm (AU BJ (AU BJ (AU BJ (A9 Ab AH AE)<|A9 Ab AV AE)<|A9 Ab Aj AE)<|A9 Ab A6 AE) AE)<|AU Bm (AU BJ (AU BJ (AU BJ (A9 Ab AH AE)<|A9 Ab AV AE)<|A9 Ab Aj AE)<|A9 Ab A6 AE) AE) AX)<|AB (AO 6<|Ah Fq T.less<|Ax AV AH)<|AF<|AY<|Iy<|Ax (AU BJ (A9 Ab AH AE)<|Ah GV T.near<|Ax (AU Bb (A9 By (pv 6) AE) CG) ES)<|AU BJ (A9 Ab AH AE)<|Ah GV T.near<|Ax (AU Bb (A9 By (pv 6) AE) CG) ES),?_⟩
 have ia:=(la.get c.h).2
 have ib:=(lb.get c.h).2
 have ic:=(lc.get c.h).2
 refine RN c lc la fun t1 H1 f1 c=>?_
 have T1:Dd K (upd W t1<|.tup<|pV<|Ht.less cc a) t1 (pV<|Ht.less cc a):=Dd.of AJ
 refine RN c ld lc fun t2 H2 f2 c=>?_
 replace T1:=BZ c.h.sub<|BZ (Bd f2) T1
 refine⟨_,_,_,_,rfl,T1,BZ c.h.sub<|Dd.of AJ,Ga ic ia,RN c lb la fun t3 H3 f3 c=>RN c ld lc fun t4 H4 f4 c=>⟨_,_,_,_,rfl,BZ c.h.sub<|BZ (Bd f4)<|Dd.of AJ,BZ c.h.sub<|Dd.of AJ,Ga ib ia,rfl,A7 (fun e=>?_) fun e=>?_⟩⟩
 ·have e':=V.int.inj (An e)
  have ga:=BF.of (K:=K) (la.get c.h).1
  have gb:=BF.of (K:=K) (lb.get c.h).1
  have gc:=BF.of (K:=K) (lc.get c.h).1
  have gd:=BF.of (K:=K) (ld.get c.h).1
  refine⟨ga,rfl,gb,rfl,gc,rfl,gd,rfl,⟨by decide,by decide⟩,ga,rfl,gb,rfl,gc,rfl,gd,rfl,⟨by decide,by decide⟩,(by show 2<=sizeLine;decide),fun p hp=>?_⟩
  have c5:=c.M4 (o:= .tup<|pV<|MY a b cc d) hp
  have ev:MY a b cc d=(BN (a.1+b.1+cc.1+d.1) 4,BN (a.2+b.2+cc.2+d.2) 4):=AI e'
  have q:=k p _ _ c5<|Dd.of AJ
  rw[ev]at q
  exact q
 ·have e': ¬ GS (Ht.less b a) (Ht.less d cc)=0:=fun q=>e (Av<|BL V.int q)
  refine RN c lb la fun t5 H5 f5 c=>?_
  have ga:=BF.of (K:=K) (la.get c.h).1
  have T5:=BZ (K:=K) c.h.sub<|Dd.of (K:=K)<|AJ (o:= .tup<|pV<|Ht.less b a)
  have nk:=kG (Ga ib ia) (Ga ((ld.get c.h).2) ic) e'
  refine⟨ga,rfl,T5,rfl,.inl (Ga ib ia).r1,_,_,rfl,nk,ga,rfl,T5,rfl,.inl (Ga ib ia).r2,_,_,rfl,nk,(by show 2<=sizeLine;decide),fun p hp=>?_⟩
  have ev:MY a b cc d=(a.1+Ht.near ((b.1-a.1)*GS (Ht.less cc a) (Ht.less d cc)) (GS (Ht.less b a)<|Ht.less d cc),a.2+Ht.near ((b.2-a.2)*GS (Ht.less cc a) (Ht.less d cc)) (GS (Ht.less b a)<|Ht.less d cc)):=AG e'
  have q:=k p _ _ (c.M4 (o:= .tup<|pV<|MY a b cc d) hp)<|Dd.of AJ
  rw[ev]at q
  exact q
noncomputable def JB(g:B4)(m:Ht.M):Ht.R Ht.M:=uD m 5 fun m l=>wi (l.getD 0 0) (m.zone<|zp m 0).size fun d=>wi (l.getD 1 0) (m.zone<|zp m 0).size fun c=>wi (l.getD 2 0) (m.zone<|zp m 1).size fun b=>wi (l.getD 3 0) (m.zone<|zp m 1).size fun a=>wi (l.getD 4 0) (m.zone<|zp m 2).size fun p=>
 .ok ((Cd m (zp m 2) p ((m.zone<|zp m 2).was p) (c2<|MY ((m.zone<|zp m 1).at_ a) ((m.zone<|zp m 1).at_ b) ((m.zone<|zp m 0).at_ c)<|(m.zone<|zp m 0).at_ d)<|(m.zone<|zp m 2).mark p).mark (zp m 2) p fun x=>Ht.give (Ht.give x Ht.INX) Ht.INY)
def BX.ACs(c:BX K A E z W v m H r)(hy:y<2)(hi:i<(m.zone y).size)(x:Ht.Pos)(hl:H l=none):
  BX K A E z W (Pf v y i (v.lo y i) l) (Cd m y i ((m.zone y).was i) (c2 x)<|(m.zone y).mark i) (upd (upd H l<|.lst [.int<|Ht.cut x.1,.int<|Ht.cut x.2]) (z.g.pp y i)<|.ins (A.cl 3) (z.g.pd y i)<|DJ "now" (.ref l)<|Na (v.lo y i) (v.ln y i)<|AD<|(m.zone y).mark i) r/\i<((Cd m y i ((m.zone y).was i) (c2 x)<|(m.zone y).mark i).zone y).size:=
 ⟨c.go same_refl (c.h.vd hy hi ⟨Dk _,Dk _⟩ hl) FZ EY,by rw[Fh hy hy];exact hi⟩
def P2 :OA P w base 6 85 JB:=by
 refine T.K5.F.act ["run","numbers","d","c","b","a","point","place"] fun H Q E W g v m hr hb c=>⟨_,(AB (AO 1<|Be AH G6 T.HL<|Af AE)<|AB (AO 2<|AR<|Be AH A5 T.BV<|Ax AE<|A9 Ab AV AE)<|AB (AO 3<|AR<|Be AH A5 T.BV<|Ax AE<|A9 Ab AV AE)<|AB (AO 4<|AR<|Be AH A5 T.BV<|Ax AE<|A9 Ab AV AE)<|AB (AO 5<|AR<|Be AH A5 T.BV<|Ax AE<|A9 Ab AV AE)<|AB (AO 6<|Be AH A5 T.BV<|Ax AE<|A9 Ab AV AE)<|AB (AO 7<|Ah jM T.crossing<|Rp ES CG A6 Aj)<|AB (BC (pv 6)<|Ba<|Ax (Ah Dv T.cut<|Af<|A9 By (pv 7) AE)<|Ah Dv T.cut<|Af<|A9 By (pv 7) AE)<|AF<|Ad<|Be (pv 6) KW T.Mb<|Af<|AU BJ (Bt T.k.OJ)<|Bt T.k.NW),c.rn,NX,vj c fun l H1 e1 f1 c=>?_⟩
 have lt: ∀ j,j<5->j<(iV<|m.stack.take 5).length:=fun j hj=>by rw[Bq,HN];lia
 have nn: ∃ l',l'=m.stack.take 5:=⟨_,rfl⟩
 obtain⟨nu,hnu⟩:=nn
 have mm: ∃ m',m'=((Bs m<|m.stack.drop 5):Ht.M):=⟨_,rfl⟩
 obtain⟨m',hm⟩:=mm
 rw[<-hm,<-hnu]at c
 rw[<-hnu]at lt
 have z0:=Ci c.h.good 0
 have z1:=Ci c.h.good 1
 have z2:=Ci c.h.good 2
 refine⟨c.rn,B5,BF.of<|c.h.sub _ _ AJ,vZ<|lt 0<|by decide,B9 c (by decide) fun p0 c=>⟨c.h.pt z0 p0,Aa,CF _ _ _,c.rn,B5,BF.of<|c.h.sub _ _ AJ,vZ<|lt 1<|by decide,B9 c (by decide) fun p1 c=>⟨c.h.pt z0 p1,Aa,CF _ _ _,c.rn,B5,BF.of<|c.h.sub _ _ AJ,vZ<|lt 2<|by decide,B9 c (by decide) fun p2 c=>⟨c.h.pt z1 p2,Aa,CF _ _ _,c.rn,B5,BF.of<|c.h.sub _ _ AJ,vZ<|lt 3<|by decide,B9 c (by decide) fun p3 c=>⟨c.h.pt z1 p3,Aa,CF _ _ _,c.rn,B5,BF.of<|c.h.sub _ _ AJ,vZ<|lt 4<|by decide,B9 c (by decide) fun p4 c=>⟨_,_,_,_,_,_,_,_,_,_,_,_,_,_,rfl,c,⟨⟨_,_,z1,p3,rfl,rfl⟩,⟨_,_,z1,p2,rfl,rfl⟩,⟨_,_,z0,p1,rfl,rfl⟩,_,_,z0,p0,rfl,rfl⟩,fun t W2 H2 c TT=>?_⟩⟩⟩⟩⟩⟩
 have TH:=BZ c.h.sub TT
 refine⟨TH,rfl,_,rfl,trivial,TH,rfl,_,rfl,trivial,(by show 2<=sizeLine;decide),fun l2 hl2=>⟨(c.h.new hl2).pt z2 p4,Aa,(B8 rfl),?_⟩⟩
 obtain⟨c,p4'⟩:=c.ACs z2 p4 (MY ((m'.zone<|zp m' 1).at_<|Ht.unsigned<|nu.getD 3 0) ((m'.zone<|zp m' 1).at_<|Ht.unsigned<|nu.getD 2 0) ((m'.zone<|zp m' 0).at_<|Ht.unsigned<|nu.getD 1 0)<|(m'.zone<|zp m' 0).at_<|Ht.unsigned<|nu.getD 0 0) hl2
 exact⟨c.h.pt z2 p4',bQ,fF c z2 p4' (fun x hx=>both_eq hx) fun H3 kp c=>c.done⟩
noncomputable def wF(d so sn:Int):Int:=if d=0 then 0 else if so=0 then d else Ht.cut (Ht.near (d*sn) so)
def bN(v d:Ht.Pos):FE (Ht.along v d):=Dk _
def wd(h:FE x)(n: ¬ x=0):j4 x:=⟨n,by
 unfold FE at h
 have:x.natAbs<=4294967296:=by lia
 exact Ez this<|by decide⟩
def To :O0 P w base 2 87 ["distance","span_old","span_now"] (jk (fun d so _=>FE d/\FE so) wF):=by
 refine T.P9.F.DQ ["distance","span_old","span_now"] fun H vs Q E hr h=>?_
 obtain⟨d,so,sn,rfl,⟨id',is⟩,k⟩:=h
 refine⟨_,(AB (Aq (A0 BD AH AE) (AF<|AY AE) AX)<|AB (Aq (A0 BD AV AE) (AF<|AY AH) AX)<|AF<|AY<|Ah Dv T.cut<|Af<|Ah GV T.near<|Ax (AU Bb AH Aj) AV),?_⟩
 unfold wF at k
 refine⟨rfl,A7 (fun e=>?_) fun e=>?_⟩
 ·rw[AI<|V.int.inj<|An e]at k
  exact k
 rw[AG fun z=>e<|Av<|BL V.int z]at k
 refine⟨rfl,A7 (fun e2=>?_) fun e2=>?_⟩
 ·rw[AI<|V.int.inj<|An e2]at k
  exact k
 have n2: ¬ so=0:=fun z=>e2<|Av<|BL V.int z
 rw[AG n2]at k
 exact⟨.inl<|AA6 id',_,_,rfl,wd is n2,_,rfl,trivial,k⟩
noncomputable def Jy(g:B4)(m:Ht.M):Ht.R Ht.M:=uB m fun m l=>wi (rp m 1) (m.zone<|zp m 0).size fun i=>wi (rp m 2) (m.zone<|zp m 1).size fun j=>
 Du (fun x n F=>wi x (n.zone<|zp n 2).size fun p=>F<|n.move (zp n 2) p<|wF (n.old2 (zp n 2) p (zp m 0) i) (m.old2 (zp m 1) j (zp m 0) i) (m.now2 (zp m 1) j (zp m 0) i)-n.now2 (zp n 2) p (zp m 0) i) l m .ok
def Qs :OA P w base 7 88 Jy:=by
 refine T.Mq.F.act ["run","numbers","first","second","span_old","span_now","number","point","wanted"] fun H Q E W g v m hr hb c=>⟨_,(AB (AO 1<|BI AH D8 T.EL)<|AB (AO 2<|Be AH CM T.Cv<|Ax AE AE)<|AB (AO 3<|Be AH CM T.Cv<|Ax AE AE)<|AB (AO 4<|Ah EU T.Fi<|CH AH A6 Aj)<|AB (AO 5<|Ah DT T.D9<|CH AH A6 Aj)<|AF<|EM PassesOwn.leaving rfl (GO AV) (FV 6)<|AB (AO 7<|Be AH A5 T.BV<|Ax AE<|pv 6)<|AB (AO 8<|Ah To T.P9<|CH (Ah EU T.Fi<|CH AH (pv 7) Aj) CG ES)<|AF<|Ad<|Ah HF T.move<|CH AH (pv 7)<|AU B1 (pv 8)<|Ah DT T.D9<|CH AH (pv 7) Aj),c.rn,Hn,RW c fun l H1 e1 w1 c=>⟨c.rn,DF,Hb c (by decide) (by decide) fun p1 c=>?_⟩⟩
 have z0:=Ci c.h.good 0
 have z1:=Ci c.h.good 1
 refine⟨c.rn,DF,Hb c (by decide) (by decide) fun p2 c=>Tz c z1 p2 z0 p1 fun H2 c=>Lz c z1 p2 z0 p1 fun H3 c=>?_⟩
 obtain⟨m',hm⟩: ∃ m',m'=({m with stack:=m.stack.drop m.loop,loop:=1}:Ht.M):=⟨_,rfl⟩
 rw[<-hm]at c p1 p2 z0 z1 ⊢
 obtain⟨so,hso⟩: ∃ so,so=m'.old2 (zp m' 1) (Ht.unsigned (rp m' 2)) (zp m' 0) (Ht.unsigned (rp m' 1)):=⟨_,rfl⟩
 obtain⟨sn,hsn⟩: ∃ sn,sn=m'.now2 (zp m' 1) (Ht.unsigned (rp m' 2)) (zp m' 0) (Ht.unsigned (rp m' 1)):=⟨_,rfl⟩
 have iso:FE so:=by rw[hso];exact bN _ _
 rw[<-hso,<-hsn]at c ⊢
 obtain⟨y0,hy0⟩: ∃ y0,y0=zp m' 0:=⟨_,rfl⟩
 obtain⟨i0,hi0⟩: ∃ i0,i0=Ht.unsigned (rp m' 1):=⟨_,rfl⟩
 rw[<-hy0]at p1 z0
 rw[<-hi0]at p1
 rw[<-hy0,<-hi0]at c ⊢
 refine⟨⟨_,BF.of<|c.h.sub _ _ AJ⟩,Yu AJ (fun σ=> ∃ o1 o2 o3 o4,σ= [some<|.ref g.run,some<|.ref l,some<|.ref<|g.pp y0 i0,o4,some<|.int so,some<|.int sn,o1,o2,o3]) (fun _ n=>i0<(n.zone y0).size) ⟨⟨none,none,none,_,rfl⟩,_,_,_,same_refl,p1,c⟩ ?_ ?_⟩
 ·rintro a rest σ W1 v1 m1 H1 ha ⟨o1,o2,o3,o4,rfl⟩ sm hX c
  refine⟨c.rn,B5,B9 c (by decide) fun q2 c=>?_⟩
  have z2:=Ci c.h.good 2
  exact Tz c z2 q2 z0 hX fun H4 c=>⟨_,_,_,rfl,⟨bN _ _,iso⟩,Lz c z2 q2 z0 hX fun H5 c=>DY c z2 q2 fun W6 v6 H6 s6 kp c=>⟨⟨_,_,_,_,rfl⟩,_,_,_,fun b o e=>s6 b o<|sm b o e,kp _ _ z0 hX,c⟩⟩
 ·rintro σ W1 v1 m1 H1 ⟨o1,o2,o3,o4,rfl⟩ sm _ c
  exact c.done
inductive AA3(C:AK)(vs:List V)(H:Hp)(Q:VK)(E_:XK):Prop
 | mk: ∀ p dx a b c,vs= [.ref p,a,b,c]->H p=some (.ins C dx [])->Q .non (upd H p (.ins C dx [("zone_number",a),("number",b),("step",c)]))->AA3 C vs H Q E_
def dB :O0 P w base 1 89 ["self","zone_number","number","step"] (AA3<|A.cl 4):=by
 refine T.aW.1.DQ ["self","zone_number","number","step"] fun H vs Q E hr h=>?_
 obtain⟨p,dx,a,b,c,rfl,hp,q⟩:=h
 refine⟨_,(AB (BC AH AV)<|AB (BC AH Aj)<|AF<|BC AH A6),hp,FO,(B8 rfl),AJ,FO,(B8 rfl),AJ,FO,(B8 rfl),?_⟩
 rw[Bl,Bl]
 exact q
noncomputable def ldF(y i:Nat)(t:AK):List (Str×V):= [("zone_number",.int<|AD y),("number",.int<|AD i),("step",.ref t)]
def OC:(ldF y i t).lookup ("zone_number":Str)=some (.int<|AD y):=rfl
def ah:(ldF y i t).lookup ("number":Str)=some (.int<|AD i):=rfl
def Sf:(ldF y i t).lookup ("step":Str)=some (.ref t):=rfl
noncomputable def j8(g:B4):Nat:=if AD g.byte%2=1 then 1 else 2
noncomputable def aU(g:B4):Nat:=if AD g.byte%2=1 then 0 else 1
noncomputable def VD(m:Ht.M)(y i:Nat):Ht.Pos:=m.way_ (Ht.along m.P<|Ht.less ((m.zone y).at_ i)<|(m.zone y).was i)
noncomputable def Mn(g:B4)(m:Ht.M)(F:Nat->Ht.R Ht.M):Ht.R Ht.M:=wi (rp m<|j8 g) (m.zone<|zp m<|aU g).size F
structure Ld(K:AS)(A:B3)(W:Hp)(ld:AK)(y i:Nat)(w:Ht.Pos):Prop where
 at_: ∃ dx t,W ld=some (.ins (A.cl 4) dx (ldF y i t))/\Dd K W t (pV w)
def Ld.mono{ld:AK}{w:Ht.Pos}(h:Ld K A W ld y i w)(s:Bc W W'):Ld K A W' ld y i w:=by
 obtain⟨dx,t,h1,h2⟩:=h.at_
 exact⟨dx,t,s _ _ h1,BZ s h2⟩
inductive nL(K:AS)(A:B3)(vs:List V)(H:Hp)(Q':VK)(E:XK):Prop
 | mk: ∀ z W v m F,vs= [.ref z.g.run]->BX K A E z W v m H (Mn z.g m F)->(∀ ld W' H',Bc W W'->Ht.unsigned (rp m (j8 z.g))<(m.zone (zp m (aU z.g))).size->Ld K A W' ld (zp m (aU z.g)) (Ht.unsigned (rp m (j8 z.g))) (VD m (zp m (aU z.g)) (Ht.unsigned (rp m (j8 z.g))))->BX K A E z W' v m H' (F (Ht.unsigned (rp m (j8 z.g))))->Q' (.ref ld) H')->nL K A vs H Q' E
noncomputable def jz(K:AS)(A:B3):Sp:=nL K A
def Q9 :OF P w base 7 90 ["run"] (jz K A):=by
 refine T.V4.F.Vm ["run","which","pointer","point","moved","step"] fun H vs Q E hr h=>?_
 obtain⟨z,W,v,m,F,rfl,c,k⟩:=h
 refine⟨_,(AB (AO 1<|Bn (A0 BD (AU Dz (AR AH) AE) AE) AE AE)<|AB (AO 2<|Bn (A0 BD (AU Dz (AR AH) AE) AE) AE AE)<|AB (AO 3<|Be AH CM T.Cv<|Ax AV Aj)<|AB (AO 4<|Ah Fq T.less<|Ax (AR A6)<|AR A6)<|AB (AO 5<|Ah UG T.f9<|Ax AH<|Ah K8 T.along<|CH (AR AH) (A9 By CG AE)<|A9 By CG AE)<|AF<|AY<|GJ T.c.AB9 dB (hr.mono<|by decide) rfl T.c.ACY T.aW.2 .nil Gn<|CH (A9 Ab (AR AH) Aj) (Ah FN T.Gh<|Af<|A9 Ab (AR AH) AV) ES),?_⟩
 by_cases e:AD z.g.byte%2=1
 ·have ew:j8 z.g=1:=AI e
  have ep:aU z.g=0:=AI e
  unfold Mn at c
  rw[ew,ep]at c k
  refine⟨c.rn,AL,BM,(by show(0:Int)<_;decide),rfl,A7 (fun _=>?_) fun q=>absurd (Av<|BL V.int e) q⟩
  refine⟨c.rn,AL,BM,(by show(0:Int)<_;decide),rfl,A7 (fun _=>?_) fun q=>absurd (Av<|BL V.int e) q⟩
  refine⟨c.rn,DF,Hb c (by decide) (by decide) fun p1 c=>?_⟩
  have z1:=Ci c.h.good 0
  refine⟨c.h.pt z1 p1,Aa,CF _ _ _,c.h.pt z1 p1,Aa,Bx _ _ _,UJ c (c.h.pn z1 p1) (c.h.po z1 p1) fun t1 H1 f1 c=>?_⟩
  have T1:=BZ c.h.sub<|Dd.of (K:=K)<|AJ (H:=W) (a:=t1) (o:= .tup<|pV<|Ht.less ((m.zone<|zp m 0).at_<|Ht.unsigned<|rp m 1)<|(m.zone<|zp m 0).was<|Ht.unsigned<|rp m 1)
  refine⟨c.rn,AL,EB,T1,rfl,T1,rfl,_,_,_,_,_,rfl,c.h.tP,c.h.good.sP,wy c fun t2 H2 f2 c=>⟨c.rn,AL,C8,BF.of c.h.Bj,vR<|by decide,c.rn,AL,CK,BF.of c.h.refs,uN<|by decide,_,rfl,trivial,fun x dx nx nd ned=>⟨x,dx,_,_,_,rfl,AJ,rfl,?_⟩⟩⟩
  rw[Bl]
  have c2:=(c.M4 (o:= .own x) nd)
  have nx':(upd H2 dx<|.own x) x=none:=by rw[AQ ned.symm];exact nx
  have c3:=c2.M4 (o:= .ins (A.cl 4) dx<|ldF (zp m 0) (Ht.unsigned<|rp m 1) t2) nx'
  have hk:=k x _ _ (fun b o e=>Bd (c2.h.free nx') b o<|Bd (c.h.free nd) b o<|Bd f2 b o<|Bd f1 b o e) p1 ⟨dx,t2,AJ,BZ (Bd<|c2.h.free nx')<|BZ (Bd<|c.h.free nd)<|Dd.of AJ⟩ c3
  rw[Ff]
  exact hk
 ·have ew:j8 z.g=2:=AG e
  have ep:aU z.g=1:=AG e
  unfold Mn at c
  rw[ew,ep]at c k
  refine⟨c.rn,AL,BM,(by show(0:Int)<_;decide),rfl,A7 (fun q=>absurd (V.int.inj<|An q) e) fun _=>⟨c.rn,AL,BM,(by show(0:Int)<_;decide),rfl,A7 (fun q=>absurd (V.int.inj<|An q) e) fun _=>⟨c.rn,DF,Hb c (by decide) (by decide) fun p1 c=>?_⟩⟩⟩
  have z1:=Ci c.h.good 1
  refine⟨c.h.pt z1 p1,Aa,CF _ _ _,c.h.pt z1 p1,Aa,Bx _ _ _,UJ c (c.h.pn z1 p1) (c.h.po z1 p1) fun t1 H1 f1 c=>?_⟩
  have T1:=BZ c.h.sub<|Dd.of (K:=K)<|AJ (H:=W) (a:=t1) (o:= .tup<|pV<|Ht.less ((m.zone<|zp m 1).at_<|Ht.unsigned<|rp m 2)<|(m.zone<|zp m 1).was<|Ht.unsigned<|rp m 2)
  refine⟨c.rn,AL,EB,T1,rfl,T1,rfl,_,_,_,_,_,rfl,c.h.tP,c.h.good.sP,wy c fun t2 H2 f2 c=>⟨c.rn,AL,C8,BF.of c.h.Bj,vR<|by decide,c.rn,AL,CK,BF.of c.h.refs,uN<|by decide,_,rfl,trivial,fun x dx nx nd ned=>⟨x,dx,_,_,_,rfl,AJ,rfl,?_⟩⟩⟩
  rw[Bl]
  have c2:=(c.M4 (o:= .own x) nd)
  have nx':(upd H2 dx<|.own x) x=none:=by rw[AQ ned.symm];exact nx
  have hk:=k x _ _ (fun b o e=>Bd (c2.h.free nx') b o<|Bd (c.h.free nd) b o<|Bd f2 b o<|Bd f1 b o e) p1 ⟨dx,t2,AJ,BZ (Bd<|c2.h.free nx')<|BZ (Bd<|c.h.free nd)<|Dd.of AJ⟩<|c2.M4 (o:= .ins (A.cl 4) dx<|ldF (zp m 1) (Ht.unsigned<|rp m 2) t2) nx'
  rw[Ff]
  exact hk
def lO(c:BX K A E z W v m H (Mn z.g m F))(k: ∀ ld W' H',Bc W W'->Ht.unsigned (rp m<|j8 z.g)<(m.zone<|zp m<|aU z.g).size->Ld K A W' ld (zp m<|aU z.g) (Ht.unsigned<|rp m<|j8 z.g) (VD m (zp m<|aU z.g)<|Ht.unsigned<|rp m<|j8 z.g)->BX K A E z W' v m H' (F<|Ht.unsigned<|rp m<|j8 z.g)->Q (.ref ld) H'):jz K A [.ref z.g.run] H Q E:=by
 unfold jz
 exact⟨z,W,v,m,F,rfl,c,k⟩
noncomputable def OI(g:B4)(m:Ht.M):Ht.R Ht.M:=uB m fun m l=>Mn g m fun i=>Du (fun x n F=>wi x (n.zone<|zp n 2).size fun p=>F<|n.shift true (zp n 2) p<|VD m (zp m<|aU g) i) l m .ok
noncomputable def GR(g:B4)(m:Ht.M):Ht.R Ht.M:=tk m fun m a=>uB m fun m l=>Du (fun x n F=>wi x (n.zone<|zp n 2).size fun p=>F<|n.shift true (zp n 2) p<|Ht.times a m.F) l m .ok
def Mj :OA P w base 8 91 OI:=by
 refine T.MR.F.act ["run","numbers","lead","number"] fun H Q E W g v m hr hb c=>⟨_,(AB (AO 1<|BI AH D8 T.EL)<|AB (AO 2<|Ah Q9 T.V4<|Af AH)<|AF<|EM PassesOwn.leaving rfl (GO AV) (FV 3)<|AF<|Ad<|Ah EF T.EH<|CH AH (Be AH A5 T.BV<|Ax AE A6)<|AR Aj),c.rn,Hn,RW c fun l H1 e1 w1 c=>lO c fun ld W2 H2 s2 p2 L c=>?_⟩
 have hl:=s2 _ _ AJ
 refine⟨⟨_,BF.of<|c.h.sub _ _ hl⟩,Yu hl (fun σ=> ∃ o1,σ= [some<|.ref g.run,some<|.ref l,some<|.ref ld,o1]) (fun _ _=>True) ⟨⟨none,rfl⟩,_,_,_,same_refl,trivial,c⟩ ?_ ?_⟩
 ·rintro a rest σ W1 v1 m1 H1 ha ⟨o1,rfl⟩ sm _ c
  obtain⟨dx,t,L1,L2⟩:=(L.mono sm).at_
  refine⟨c.rn,B5,B9 c (by decide) fun q2 c=>?_⟩
  exact⟨c.h.sub _ _ L1,FO,Sf,dZ c (Ci c.h.good 2) q2 L2 fun v6 H6 kp c=>⟨⟨_,rfl⟩,_,_,_,sm,trivial,c⟩⟩
 ·rintro σ W1 v1 m1 H1 ⟨o1,rfl⟩ sm _ c
  exact c.done
def Qo :OA P w base 6 95 GR:=by
 refine T.Mp.F.act ["run","step","number"] fun H Q E W g v m hr hb c=>⟨_,(AB (AO 1<|Ah Ka T.L5<|Ax (AR AH)<|BI AH AM T.AZ)<|AF<|EM PassesOwn.leaving rfl (GO<|BI AH D8 T.EL) (FV 2)<|AF<|Ad<|Ah EF T.EH<|CH AH (Be AH A5 T.BV<|Ax AE Aj) AV),c.rn,AL,Fm,c.rn,Al,Am c fun a s1 H1 i1 c=>k7 c c.h.good.tF c.h.good.sF fun t H2 f2 c=>?_⟩
 have T2:Dd K (upd W t<|.tup<|pV<|Ht.times a m.F) t (pV<|Ht.times a m.F):=Dd.of AJ
 refine⟨c.rn,Hn,RW c fun l H3 e1 w1 c=>?_⟩
 refine⟨⟨_,BF.of<|c.h.sub _ _ AJ⟩,Yu AJ (fun σ=> ∃ o1,σ= [some<|.ref g.run,some<|.ref t,o1]) (fun _ _=>True) ⟨⟨none,rfl⟩,_,_,_,same_refl,trivial,c⟩ ?_ ?_⟩
 ·rintro a2 rest σ W1 v1 m1 H1 ha ⟨o1,rfl⟩ sm _ c
  refine⟨c.rn,B5,B9 c (by decide) fun q2 c=>?_⟩
  exact dZ c (Ci c.h.good 2) q2 (BZ sm<|BZ (Bd w1 (o:= .lst<|iV<|List.take m.loop s1)) T2) fun v6 H6 kp c=>⟨⟨_,rfl⟩,_,_,_,sm,trivial,c⟩
 ·rintro σ W1 v1 m1 H1 ⟨o1,rfl⟩ sm _ c
  exact c.done
noncomputable def eV(l:List Nat):List V:=l.map fun e=> .int (AD e)
def uR:((eV l).length:Int)=AD l.length:=by unfold eV;rw[A8];rfl
def rC(h:j<l.length):XA (eV l) (AD j)=some (.int<|AD<|l.getD j 0):=by
 refine Em ?_
 unfold eV
 rw[CZ,CQ h,Cc,CQ h]
 rfl
theorem PU: ∀{l:List Nat} {j:Nat},N7 n l->j<l.length->l.getD j 0<n
 | [],j,_,h=>absurd h<|HW _
 | [a],0,h,_=>h
 | [a],j+1,_,h=>absurd (show j+1<1 from h)<|by lia
 | a::b::l,0,h,_=>HV h.1<|PU (l:=b::l) (j:=0) h.2<|Oj _
 | a::b::l,j+1,h,q=>PU (l:=b::l) (j:=j) h.2<|oh q
noncomputable def cst(es:List Nat)(c:Nat):Nat:=if c=0 then 0 else es.getD (c-1) 0+1
inductive ADa(K:AS)(vs:List V)(H:Hp)(Q:VK)(E_:XK):Prop
 | mk: ∀ a es c,vs= [.ref a,.int (AD c)]->BF K H a (eV es)->c<=es.length->Q (.int (AD (cst es c))) H->ADa K vs H Q E_
def K3 :O0 P w base 1 92 ["ends","contour"] (ADa K):=by
 refine T.Ki.F.DQ ["ends","contour"] fun H vs Q E hr h=>?_
 obtain⟨a,es,c,rfl,hl,hc,q⟩:=h
 refine⟨_,(AF<|AY<|Bn (A0 BD AV AE) AE<|AU BJ (A9 Ab AH<|AU B1 AV AE) AE),?_⟩
 unfold cst at q
 refine⟨rfl,A7 (fun e=>?_) fun e=>?_⟩
 ·have e':=B7 (V.int.inj<|An e)
  rw[AI e']at q
  exact q
 ·have e': ¬ c=0:=fun z=>e (Av<|by rw[z];rfl)
  rw[AG e']at q
  have e2:AD c-1=AD (c-1):=by show(c:Int)-1=((c-1:Nat):Int);lia
  refine⟨hl,(by rw[e2];exact rC (j:=c-1)<|by lia),?_⟩
  exact q
def R.Us(h:R K A W g v m H):H g.ends=some (.lst<|eV m.ends):=h.ends
noncomputable def Eo(t:Bool)(m:Ht.M)(k s:Nat)(y i:Nat)(w:Ht.Pos)(n:Nat):Ht.M:=(BO n).foldl (fun q j=>if y=k/\i=s+j then q else q.shift t k (s+j) w) m
def G2{w:Ht.Pos}:Eo t m k s y i w (n+1)=if y=k/\i=s+n then Eo t m k s y i w n else(Eo t m k s y i w n).shift t k (s+n) w:=by
 unfold Eo
 rw[Ha,WH]
 rfl
theorem Le{w:Ht.Pos}(hk:k<2)(hq:q<2): ∀ n,((Eo t m k s y i w n).zone q).size=(m.zone q).size
 | 0=>rfl
 | n+1=>by
  rw[G2]
  split
  ·exact Le hk hq n
  ·rw[Q4 hk hq];exact Le hk hq n
noncomputable def Mu(g:B4)(m:Ht.M):Ht.R Ht.M:=tk m fun m a=>wi a m.ends.length fun c=>Mn g m fun i=> .ok (Eo true m 1 (cst m.ends c) (zp m<|aU g) i (VD m (zp m<|aU g) i)<|m.ends.getD c 0+1-cst m.ends c)
noncomputable def SR(g:B4)(m:Ht.M):Ht.R Ht.M:=tk m fun m a=>wi a 2 fun k=>Mn g m fun i=> .ok (Eo false m k 0 (zp m<|aU g) i (VD m (zp m<|aU g) i) (m.zone k).size)
def K_ :OA P w base 8 93 Mu:=by
 refine T.Kf.F.act ["run","ends","contour","lead","number"] fun H Q E W g v m hr hb c=>⟨_,(AB (AO 1<|AR<|AR AH)<|AB (AO 2<|Ah Ck T.within<|Ax (BI AH AM T.AZ)<|Dc T.k.CD<|Af AV)<|AB (AO 3<|Ah Q9 T.V4<|Af AH)<|AF<|EM PassesOwn.leaving rfl (Tj rfl T.k.Jw<|Ax (Ah K3 T.Ki<|Ax AV Aj)<|AU BJ (A9 Ab AV Aj) AE) (FV 4)<|AF<|Aq (PW.pt<|Gg (A0 Ep (AR A6) AE)<|GZ<|A0 Ep (AR A6) CG) (AF<|Ad<|Ah EF T.EH<|CH AH (A9 Ab (AR<|AR AH) CG)<|AR A6) AX),c.rn,AL,A_,c.h.gr,AW,bw,c.rn,Al,Am c fun a s1 H1 i1 c=>⟨.inl<|BF.of c.h.Us,?_⟩⟩
 rw[uR]
 refine DR c fun w1 c=>?_
 refine lO c fun ld W2 H2 s2 p2 L c=>?_
 obtain⟨m',hm⟩: ∃ m',m'=((Bs m (s1)):Ht.M):=⟨_,rfl⟩
 rw[<-hm]at c w1 p2 L
 have hx:=PU c.h.good.LK w1
 have ZA:m'.zone1.size<=64:=c.h.good.zone1.ZA
 obtain⟨ct,hct⟩: ∃ ct,ct=Ht.unsigned a:=⟨_,rfl⟩
 rw[<-hct]at c w1 hx ⊢
 obtain⟨en,hen⟩: ∃ en,en=m'.ends.getD ct 0:=⟨_,rfl⟩
 rw[<-hen]at hx
 obtain⟨st,hst⟩: ∃ st,st=cst m'.ends ct:=⟨_,rfl⟩
 have stb:st<=64:=by
  rw[hst]
  unfold cst
  split
  ·lia
  ·have:=PU (j:=ct-1) c.h.good.LK (by lia)
   lia
 obtain⟨y0,hy0⟩: ∃ y0,y0=zp m' (aU g):=⟨_,rfl⟩
 obtain⟨i0,hi0⟩: ∃ i0,i0=Ht.unsigned (rp m' (j8 g)):=⟨_,rfl⟩
 obtain⟨w,hw⟩: ∃ w,w=VD m' y0 i0:=⟨_,rfl⟩
 have c':BX K A E ⟨W,g,m.steps,m.inFont,Q⟩ W2 v m' H2 (.ok<|Eo true m' 1 st y0 i0 w<|en+1-st):=by rw[hw,hi0,hy0,hst,hen];exact c
 have L':Ld K A W2 ld y0 i0 w:=by rw[hw,hi0,hy0];exact L
 clear c L
 have ge:=c'.h.Us
 refine⟨_,_,_,rfl,BF.of ge,HS w1,BF.of ge,rC w1,_,_,rfl,?_,?_⟩
 ·rw[<-hst,<-hen]
  show(-(2^62)<=(st:Int)/\(st:Int)<2^62/\ -(2^62)<=(en:Int)+1/\(en:Int)+1<2^62)
  lia
 rw[<-hst,<-hen]
 have en':(AD en+1-AD st).toNat=en+1-st:=by show((en:Int)+1- (st:Int)).toNat=en+1-st;lia
 rw[en']
 obtain⟨dx,t,L1,L2⟩:=L'.at_
 refine Oz (fun k σ H'=> ∃ v' o,σ= [some<|.ref g.run,some<|.ref g.ends,some<|.int<|AD ct,some<|.ref ld,o]/\BX K A E ⟨W,g,m.steps,m.inFont,Q⟩ W2 v' (Eo true m' 1 st y0 i0 w k) H' (.ok<|Eo true m' 1 st y0 i0 w<|en+1-st)) ⟨v,none,rfl,c'⟩ ?_ ?_
 ·rintro k σ H3 hk ⟨v3,o,rfl,c⟩
  have hi:st+k<(m'.zone 1).size:=by show st+k<m'.zone1.size;lia
  have hi2:st+k<((Eo true m' 1 st y0 i0 w k).zone 1).size:=by rw[Le (by decide)<|by decide];exact hi
  have fin: ¬(y0=1/\i0=st+k)-> ∀ v6 H6,BX K A E ⟨W,g,m.steps,m.inFont,Q⟩ W2 v6 ((Eo true m' 1 st y0 i0 w k).shift true 1 (st+k) w) H6 (.ok<|Eo true m' 1 st y0 i0 w<|en+1-st)->BX K A E ⟨W,g,m.steps,m.inFont,Q⟩ W2 v6 (Eo true m' 1 st y0 i0 w<|k+1) H6 (.ok<|Eo true m' 1 st y0 i0 w<|en+1-st):=fun ne v6 H6 c=>by
   rw[G2,AG ne]
   exact c
  refine⟨c.h.sub _ _ L1,FO,OC,rfl,A7 (fun e=>?_) fun e=>?_⟩
  ·have ne: ¬ y0=1:=fun z=>by rw[z]at e;exact absurd e (by decide)
   exact⟨c.rn,AL,A_,c.h.gr,AW,G_,BF.of<|c.h.zl<|by decide,Kk<|Z4 hi2,c.h.sub _ _ L1,FO,Sf,dZ c (by decide) hi2 L2 fun v6 H6 kp c=>⟨v6,_,rfl,fin (fun z=>ne z.1) v6 H6 c⟩⟩
  ·have ey:y0=1:=by
    by_cases q:y0=1
    ·exact q
    ·exact absurd (by rw[LV,Wv];exact fun z=>q<|B7<|V.int.inj z) e
   refine⟨c.h.sub _ _ L1,FO,ah,rfl,A7 (fun e2=>?_) fun e2=>?_⟩
   ·have ne: ¬ i0=st+k:=fun z=>by rw[z]at e2;exact absurd (show decide (V.int (AD<|st+k)=V.int (AD st+(k:Int)))=true from Av rfl) (by rw[LV]at e2;rw[e2];decide)
    exact⟨c.rn,AL,A_,c.h.gr,AW,G_,BF.of<|c.h.zl<|by decide,Kk<|Z4 hi2,c.h.sub _ _ L1,FO,Sf,dZ c (by decide) hi2 L2 fun v6 H6 kp c=>⟨v6,_,rfl,fin (fun z=>ne z.2) v6 H6 c⟩⟩
   ·have ei:i0=st+k:=by
     by_cases q:i0=st+k
     ·exact q
     ·exact absurd (by rw[LV,Wv];exact fun z=>q<|B7<|V.int.inj z) e2
    refine⟨v3,_,rfl,?_⟩
    rw[G2,AI ⟨ey,ei⟩]
    exact c
 ·rintro σ H3 ⟨v3,o,rfl,c⟩
  exact c.done
def N6{gg:TG}{tb:TS}{D:Ends}(Pv:Nat->L2.St->Hp->Prop)(h0:Pv 0 σ H)(hl: ∀ i σ H,i<=xs.length->Pv i σ H->BF K H a xs)
  (hs: ∀ i x σ H t,xs[i]?=some x->H t=none->Pv i σ H->gg (.ref t) σ (upd H t<|.tup [.int (i:Nat),x]) fun σ2 H2=>tb {D with nx:=Pv<|i+1,ct:=Pv<|i+1,bk:=D.nx} σ2 H2) (hd: ∀ σ H,Pv xs.length σ H->D.nx σ H):
  ∃ W:Nat->Nat->L2.St->Hp->Prop,(∃ m,W 0 m σ H)/\ ∀ i m σ H,W i m σ H->
   ((Ite K a).stop i H/\D.nx σ H)\/((Ite K a).go i H/\ ∃ N,(∀ σ' H',N σ' H'-> ∃ m',m'<m/\W (i+1) m' σ' H')/\ ∀ x H',(Ite K a).t_ i H x H'->gg x σ H' fun σ2 H2=>tb {D with nx:=N,ct:=N,bk:=D.nx} σ2 H2):=by
 refine⟨fun i m σ H=>m=xs.length-i/\i<=xs.length/\Pv i σ H,⟨xs.length,by simp,B6 _,h0⟩,?_⟩
 rintro i m σ H ⟨rfl,hi,p⟩
 have q:=hl i σ H hi p
 by_cases hlt:i<xs.length
 ·refine .inr ⟨⟨xs,xs[i],q,by simp[hlt]⟩,Pv<|i+1,fun σ' H' p'=>⟨xs.length- (i+1),by lia,rfl,hlt,p'⟩,fun x H' y=>?_⟩
  obtain⟨t,x',rfl,ht,rfl,y⟩:=y
  exact hs i x' σ H t (y xs q) ht p
 ·have e:i=xs.length:=by lia
  subst e
  exact .inl ⟨⟨xs,q,BS _⟩,hd σ H p⟩
def AC2{g:B4}(h:((BO n).map fun i=>V.ref<|g.pp z i)[i]?=some x):i<n/\x= .ref (g.pp z i):=by
 have hi:i<n:=by
  rcases Dg i n with q | q
  ·exact q
  ·rw[EA<|by rw[A8,CO];exact q]at h;cases h
 rw[Z4 hi]at h
 exact⟨hi,(C5 h).symm⟩
def neN(e:(!decide (V.int (AD a)=V.int (AD b)))=true): ¬ a=b:=fun z=>by subst z;simp at e
def eqN(e: ¬(!decide (V.int (AD a)=V.int (AD b)))=true):a=b:=by
 by_cases q:a=b
 ·exact q
 ·exact absurd (by rw[LV,Wv];exact fun z=>q<|B7<|V.int.inj z) e
def QL :OA P w base 8 94 SR:=by
 refine T.Qz.F.act ["run","zone_number","lead","number","point"] fun H Q E W g v m hr hb c=>⟨_,(AB (AO 1<|Ah Ck T.within<|Ax (BI AH AM T.AZ) AE)<|AB (AO 2<|Ah Q9 T.V4<|Af AH)<|AF<|EM PassesOwn.leaving rfl (Ss rfl T.k.Hm<|Af<|Be AH Uw T.XI<|Af AV) (Qc rfl<|Dj (FV 3)<|Dj (FV 4) Lh)<|AF<|Aq (PW.pt<|Gg (A0 Ep (AR Aj) AV)<|GZ<|A0 Ep (AR Aj) A6) (AF<|Ad<|Be CG NH T.Nt<|Af<|AR Aj) AX),c.rn,Al,Am c fun a s1 H1 i1 c=>DR c fun w1 c=>lO c fun ld W2 H2 s2 p2 L c=>?_⟩
 obtain⟨m',hm⟩: ∃ m',m'=((Bs m (s1)):Ht.M):=⟨_,rfl⟩
 rw[<-hm]at c p2 L
 obtain⟨k,hk⟩: ∃ k,k=Ht.unsigned a:=⟨_,rfl⟩
 rw[<-hk]at c w1 ⊢
 obtain⟨y0,hy0⟩: ∃ y0,y0=zp m' (aU g):=⟨_,rfl⟩
 obtain⟨i0,hi0⟩: ∃ i0,i0=Ht.unsigned (rp m' (j8 g)):=⟨_,rfl⟩
 obtain⟨w,hw⟩: ∃ w,w=VD m' y0 i0:=⟨_,rfl⟩
 have c':BX K A E ⟨W,g,m.steps,m.inFont,Q⟩ W2 v m' H2 (.ok<|Eo false m' k 0 y0 i0 w (m'.zone k).size):=by rw[hw,hi0,hy0];exact c
 have L':Ld K A W2 ld y0 i0 w:=by rw[hw,hi0,hy0];exact L
 clear c L
 obtain⟨dx,t,L1,L2⟩:=L'.at_
 have sz: ∀ n,((Eo false m' k 0 y0 i0 w n).zone k).size=(m'.zone k).size:=fun n=>Le w1 w1 n
 refine⟨c'.h.run,uz,ABb c' w1 ⟨_,_,rfl,BF.of<|c'.h.zl w1,?_⟩⟩
 refine N6 (a:=g.zl k) (xs:=(BO (m'.zone k).size).map fun i=>V.ref<|g.pp k i) (fun n σ H'=> ∃ v' o1 o2,σ= [some<|.ref g.run,some<|.int<|AD k,some<|.ref ld,o1,o2]/\BX K A E ⟨W,g,m.steps,m.inFont,Q⟩ W2 v' (Eo false m' k 0 y0 i0 w n) H' (.ok<|Eo false m' k 0 y0 i0 w (m'.zone k).size)) ⟨v,none,none,rfl,c'⟩ ?_ ?_ ?_
 ·rintro n σ H3 hn ⟨v3,o1,o2,rfl,c⟩
  have q:=c.h.zl w1
  rw[sz]at q
  exact BF.of q
 ·rintro n x σ H3 tt hx ht ⟨v3,o1,o2,rfl,c⟩
  obtain⟨hi,rfl⟩:=AC2 hx
  have hi2:n<((Eo false m' k 0 y0 i0 w n).zone k).size:=by rw[sz];exact hi
  replace c:=c.new (o:= .tup [.int (n:Nat),.ref<|g.pp k n]) ht
  refine⟨_,_,rfl,Dd.of AJ,rfl,_,_,rfl,_,_,rfl,rfl,?_⟩
  have L3:=c.h.sub _ _ L1
  refine⟨L3,FO,OC,rfl,A7 (fun e=>?_) fun e=>?_⟩
  ·refine⟨c.h.pt w1 hi2,Xh,L3,FO,Sf,pH c w1 hi2 L2 fun v6 H6 kp c=>⟨v6,_,_,rfl,?_⟩⟩
   rw[G2,AG fun z=>neN e z.1,O6]
   exact c
  ·refine⟨L3,FO,ah,rfl,A7 (fun e2=>?_) fun e2=>?_⟩
   ·refine⟨c.h.pt w1 hi2,Xh,L3,FO,Sf,pH c w1 hi2 L2 fun v6 H6 kp c=>⟨v6,_,_,rfl,?_⟩⟩
    rw[G2,AG fun z=>neN e2<|by rw[z.2,O6],O6]
    exact c
   ·refine⟨v3,_,_,rfl,?_⟩
    rw[G2,AI ⟨eqN e,by rw[O6];exact eqN e2⟩]
    exact c
 ·rintro σ H3 ⟨v3,o1,o2,rfl,c⟩
  rw[A8,CO]at c
  exact c.done
noncomputable def startB(b:Nat):Nat:=if b=93\/b=115 then 0 else if b=113\/b=116 then 16 else 32
noncomputable def Cw(b:Nat):Prop:=b=93\/b=113\/b=114\/b=115\/b=116\/b=117
def sZ(h:Cw b):E1 (LF A) (.inl<|AD b)=some (.int<|AD<|startB b):=by
 rcases h with rfl | rfl | rfl | rfl | rfl | rfl<;>rfl
noncomputable def I_(g:B4)(m:Ht.M)(a:Int):Bool:=decide (Ht.unsigned a/16%16+m.kept.base+startB g.byte=m.dots)
noncomputable def HM(m:Ht.M)(a:Int):Int:=(if Ht.unsigned a%16<8 then AD (Ht.unsigned a%16)-8 else AD (Ht.unsigned a%16)-7)*2^(6-m.kept.shift)
inductive ABD(K:AS)(A:B3)(vs:List V)(H:Hp)(Q:VK)(E:XK):Prop
 | mk: ∀ W g v m a,vs= [.ref g.run,.int a]->R K A W g v m H->Cw g.byte->Q (.bl (I_ g m a)) H->ABD K A vs H Q E
inductive ACw(K:AS)(A:B3)(vs:List V)(H:Hp)(Q:VK)(E:XK):Prop
 | mk: ∀ W g v m a,vs= [.ref g.run,.int a]->R K A W g v m H->Q (.int (HM m a)) H->ACw K A vs H Q E
def AEu(a:Int):BN a 16%16=AD (Ht.unsigned a/16%16):=by
 rw[GD _<|by decide]
 unfold Ht.unsigned
 have h0:0<=a%4294967296:=bV _<|by decide
 obtain⟨n,hn⟩:=OY h0
 rw[hn]
 lia
def qM(a:Int):a%16=AD (Ht.unsigned a%16):=xW ⟨268435456,rfl⟩ (by decide)
def AA4(h:s<=6):(64:Int)/2^(AD s).toNat=2^(6-s):=by
 have:s=0\/s=1\/s=2\/s=3\/s=4\/s=5\/s=6:=by lia
 rcases this with rfl | rfl | rfl | rfl | rfl | rfl | rfl<;>rfl
def OQ (TD:Ku P w K A):O0 P w base 1 102 ["run","told"] (ABD K A):=by
 refine T.NZ.F.DQ ["run","told"] fun H vs Q E hr h=>?_
 obtain⟨W,g,v,m,a,rfl,h,hb,k⟩:=h
 refine⟨_,(AF<|AY<|Hu BD (AU BJ (AU BJ (AU Dz (AU Bm AV AE) AE)<|AR<|AR<|AR AH)<|eU (DX rfl T.k.XM<|show L2.RelV (.ref<|A.tg 4) _ from rfl) (AR AH) fun _ _=>rfl)<|AR<|AR AH),?_⟩
 unfold I_ at k
 refine⟨⟨by decide,by decide⟩,(by show(0:Int)<_;decide),h.run,AL,A_,h.gr,AW,DZ,h.kp,BG,Kc,h.run,AL,BM,_,_,.inl<|AD g.byte,_,rfl,TD.b6,rfl,sZ hb,h.run,AL,A_,h.gr,AW,Wy,rfl,?_⟩
 rw[AEu,KI]
 have e:decide (AD (Ht.unsigned a/16%16)+AD m.kept.base+AD (startB g.byte)=AD m.dots)=decide (Ht.unsigned a/16%16+m.kept.base+startB g.byte=m.dots):=by
  apply oU.mpr
  constructor
  ·intro q;exact B7 q
  ·intro q;rw[<-q];rfl
 rw[e]
 exact k
def Ml :O0 P w base 1 103 ["run","told"] (ACw K A):=by
 refine T.MH.F.DQ ["run","told","choice","steps"] fun H vs Q E hr h=>?_
 obtain⟨W,g,v,m,a,rfl,h,k⟩:=h
 refine⟨_,(AB (AO 2<|AU Dz AV AE)<|AB (AO 3<|Bn (A0 Dn Aj AE) (AU B1 Aj AE)<|AU B1 Aj AE)<|AF<|AY<|AU Bb A6<|AU ACA AE<|AR<|AR<|AR AH),?_⟩
 unfold HM at k
 have hs:=h.good.shift
 have bd: ∀ x:Int,-(2^64)<x/\x<2^64->rR x ((64:Int)/2^(AD m.kept.shift).toNat):=fun x hx=> .inl hx
 have ub:Ht.unsigned a%16<16:=E9 _<|by decide
 refine⟨(by show(0:Int)<_;decide),?_⟩
 refine A7 (fun e=>?_) fun e=>?_
 ·have e':=An e
  rw[qM]at e'
  have e2:=BQ.mp e'
  rw[AI e2]at k
  refine⟨h.run,AL,A_,h.gr,AW,DZ,h.kp,BG,Fs,FP _,bd _<|by lia,?_⟩
  rw[qM,AA4 hs]
  exact k
 ·have e':=Ey (Er.mpr e)
  rw[qM]at e'
  have e2: ¬ Ht.unsigned a%16<8:=fun z=>e'<|BQ.mpr z
  rw[AG e2]at k
  refine⟨h.run,AL,A_,h.gr,AW,DZ,h.kp,BG,Fs,FP _,bd _<|by lia,?_⟩
  rw[qM,AA4 hs]
  exact k
section
variable{W W':Hp}{g:B4}{v:Var}{m:Ht.M}{H:Hp}{Q:VK}{E E':XK}{z:Fx}{r:Ht.R Ht.M}{a b:AK}{y i:Nat}{d:Int}
def AD3(c:BX K A E z W v m H r)(hb:Cw z.g.byte)(k:Q (.bl<|I_ z.g m x) H):ABD K A [.ref z.g.run,.int x] H Q E':=⟨W,z.g,v,m,x,rfl,c.h,hb,k⟩
def ADS(c:BX K A E z W v m H r)(k:Q (.int<|HM m x) H):ACw K A [.ref z.g.run,.int x] H Q E':=⟨W,z.g,v,m,x,rfl,c.h,k⟩
noncomputable def PA(K:AS)(W:Hp):List AK->List (Int×Int)->Prop
 | [],[]=>True
 | t::ts,p::ps=>Dd K W t (pV p)/\PA K W ts ps
 | _,_=>False
theorem PA.mono(s:Bc W W'): ∀{ts:List AK} {ps:List (Int×Int)},PA K W ts ps->PA K W' ts ps
 | [],[],_=>IU
 | _::_,_::_,h=>⟨BZ s h.1,PA.mono s h.2⟩
 | [],_::_,h=>h
 | _::_,[],h=>h
theorem PA.snoc{p:Int×Int}(e:Dd K W t (pV p)): ∀{ts:List AK} {ps:List (Int×Int)},PA K W ts ps->PA K W (ts++ [t]) (ps++ [p])
 | [],[],_=>⟨e,IU⟩
 | _::_,_::_,h=>⟨h.1,PA.snoc e h.2⟩
 | [],_::_,h=>h.elim
 | _::_,[],h=>h.elim
theorem PA.len: ∀{ts:List AK} {ps:List (Int×Int)},PA K W ts ps->ts.length=ps.length
 | [],[],_=>rfl
 | _::_,_::_,h=>BL (· +1)<|PA.len h.2
 | [],_::_,h=>h.elim
 | _::_,[],h=>h.elim
theorem PA.get: ∀{ts:List AK} {ps:List (Int×Int)} {j:Nat} {t:AK},PA K W ts ps->ts[j]?=some t-> ∃ p,Dd K W t (pV p)/\ps.drop j=p::ps.drop (j+1)
 | [],[],_,_,_,h=>by simp at h
 | t::ts,p::ps,0,_,h,e=>by simp at e;subst e;exact⟨p,h.1,rfl⟩
 | t::ts,p::ps,j+1,_,h,e=>by
  obtain⟨q,h1,h2⟩:=PA.get (j:=j) h.2<|by simpa using e
  exact⟨q,h1,by simpa using h2⟩
 | [],_::_,_,_,h,_=>h.elim
 | _::_,[],_,_,h,_=>h.elim
end
noncomputable def Sq(B:Int×Int->Ht.M->(Ht.M->Ht.R Ht.M)->Ht.R Ht.M):List (Int×Int)->Ht.M->(Ht.M->Ht.R Ht.M)->Ht.R Ht.M
 | [],m,F=>F m
 | x::l,m,F=>B x m fun m=>Sq B l m F
noncomputable def pairsOf(l:List Int)(n:Nat):List (Int×Int):=(BO n).map fun i=>(l.getD (2*i+1) 0,l.getD (2*i) 0)
noncomputable def Ud(m:Ht.M)(F:Ht.M->List (Int×Int)->Ht.R Ht.M):Ht.R Ht.M:=tk m fun m a=>uD m (2*Ht.unsigned a) fun m l=>F m (pairsOf l<|Ht.unsigned a)
inductive AAk(K:AS)(A:B3)(vs:List V)(H:Hp)(Q':VK)(E:XK):Prop
 | mk: ∀ z W v m F,vs= [.ref z.g.run]->BX K A E z W v m H (Ud m F)->(∀ L ts ps W' m' H',Bc W W'->W' L=some (.lst (ts.map .ref))->PA K W' ts ps->BX K A E z W' v m' H' (F m' ps)->Q' (.ref L) H')->AAk K A vs H Q' E
noncomputable def ACZ(K:AS)(A:B3):Sp:=AAk K A
def kE:pairsOf l (n+1)=pairsOf l n++ [(l.getD (2*n+1) 0,l.getD (2*n) 0)]:=by
 unfold pairsOf
 rw[Ha,E6]
 rfl
def QB :OF P w base 4 101 ["run"] (ACZ K A):=by
 refine T.RG.F.Vm ["run","count","numbers","place"] fun H vs Q E hr h=>?_
 obtain⟨z,W,v,m,F,rfl,c,k⟩:=h
 refine⟨_,(AB (AO 1<|Ah FN T.Gh<|Af<|BI AH AM T.AZ)<|AB (jt (i:=2) (show Ij (["run","count","numbers","place"]:List Str) by decide+kernel) rfl (DC rfl)<|Be AH G6 T.HL<|Af<|AU Bb AE AV)<|AF<|AY<|vG (own:= [("place",3)]) rfl (show Ij (["run","count","numbers","place"]:List Str) by decide+kernel) (UY rfl T.k.Jw<|Af AV) (show NJ ["run","count","numbers","place"] (BY<|top 124) _ _ from LN<|by decide+kernel) (fun _ _ _ _ _=>(FV 3)) (fun _ _ _ _ _=>Sr) fun _ _ _ _ _=>(Iy<|Ax (A9 (show t9 _ (xD K)from Ab) Aj<|AU BJ (AU Bb AE A6) AE)<|A9 (show t9 _ (xD K)from Ab) Aj<|AU Bb AE A6)),?_⟩
 refine⟨c.rn,Al,Am c fun a s1 H1 i1 c=>?_⟩
 refine⟨_,rfl,trivial,?_⟩
 show Rb 1 (.int<|a%4294967296) _ _ _
 rw[Ff]
 have b1:=c.h.good.st
 refine⟨c.rn,NX,.inl ⟨by decide,by decide⟩,vj c fun l H2 e1 w1 c=>?_⟩
 have e1':=e1
 obtain⟨n,hn⟩: ∃ n,n=Ht.unsigned a:=⟨_,rfl⟩
 rw[<-hn]at c e1' ⊢
 obtain⟨nu,hnu⟩: ∃ nu,nu=s1.take (2*n):=⟨_,rfl⟩
 have c':BX K A E z (upd W l<|.lst<|iV nu) v (Bs m<|s1.drop<|2*n) H2 (F (Bs m<|s1.drop<|2*n)<|pairsOf nu n):=by rw[hnu];exact c
 clear c
 have ln:(iV nu).length=2*n:=by rw[hnu,Bq,HN];lia
 have nlt:n<=64:=by lia
 refine⟨_,rfl,(by lia),(by lia),fun D hD=>Yb (fun i H'=> ∃ W' ts,Bc (upd W l<|.lst<|iV nu) W'/\RL K A W' z.g v (Bs m<|s1.drop<|2*n) H' D (.lst<|ts.map .ref)/\PA K W' ts (pairsOf nu i)) ⟨_,[],same_refl,RL.kQ c'.h hD,trivial⟩ ?_ ?_⟩
 ·rintro i H3 hi ⟨W3,ts,s3,hL,pa⟩
  have hl3:=hL.r.sub _ _<|s3 _ _ AJ
  have x1:XA (iV nu) (2*(0+(i:Int))+1)=some (.int<|nu.getD (2*i+1) 0):=by
   rw[show(2*(0+(i:Int))+1)=AD (2*i+1) by show(2*(0+(i:Int))+1)=((2*i+1:Nat):Int);lia]
   exact vZ<|by lia
  have x2:XA (iV nu) (2*(0+(i:Int)))=some (.int<|nu.getD (2*i) 0):=by
   rw[show(2*(0+(i:Int)))=AD (2*i) by show(2*(0+(i:Int)))=((2*i:Nat):Int);lia]
   exact vZ<|by lia
  refine⟨rfl,.inl ⟨by decide,by decide⟩,BF.of hl3,x1,.inl ⟨by decide,by decide⟩,BF.of hl3,x2,(by show 2<=sizeLine;decide),fun t ht=>?_⟩
  have hp2:(pairsOf nu i).length=i:=by unfold pairsOf;rw[A8,CO]
  have neD:=Ac hL.at_ ht
  refine⟨ts.map .ref,(by rw[AQ neD];exact hL.at_),(by rw[A8,pa.len,hp2];exact DO hi<|CC nlt<|by decide),?_⟩
  have hN:RL K A (upd W3 t<|.tup<|pV (nu.getD (2*i+1) 0,nu.getD (2*i) 0)) z.g v (Bs m<|s1.drop<|2*n) (upd H3 t<|.tup<|pV (nu.getD (2*i+1) 0,nu.getD (2*i) 0)) D (.lst<|ts.map .ref):=
   ⟨hL.r.M4 ht,(by rw[AQ neD];exact hL.at_),(by rw[AQ neD];exact hL.w),hL.ne⟩
  refine⟨upd W3 t<|.tup<|pV (nu.getD (2*i+1) 0,nu.getD (2*i) 0),ts++ [t],fun b o e=>Bd (hL.r.free ht) b o<|s3 b o e,?_,?_⟩
  ·rw[E6]
   exact hN.ACg
  ·rw[kE]
   exact(pa.mono<|Bd<|hL.r.free ht).snoc<|Dd.of AJ
 ·rintro H3 ⟨W3,ts,s3,hL,pa⟩
  have sW:Bc (upd W l<|.lst<|iV nu) (upd W3 D<|.lst<|ts.map .ref):=fun b o e=>Bd hL.w b o<|s3 b o e
  exact k D ts _ _ _ _ (fun b o e=>sW b o<|Bd w1 b o e) AJ (pa.mono<|Bd hL.w)<|c'.go sW hL.ko
def AEw(c:BX K A E z W v m H (Ud m F))(k: ∀ L ts ps W' m' H',Bc W W'->W' L=some (.lst<|ts.map .ref)->PA K W' ts ps->BX K A E z W' v m' H' (F m' ps)->Q (.ref L) H'):ACZ K A [.ref z.g.run] H Q E:=by
 unfold ACZ
 exact⟨z,W,v,m,F,rfl,c,k⟩
noncomputable def Jp(K:AS)(A:B3)(E:XK)(z:Fx)(Wl:Hp)(S:List (Option V)->Prop)(B:Int×Int->Ht.M->(Ht.M->Ht.R Ht.M)->Ht.R Ht.M)(F:Ht.M->Ht.R Ht.M)(rest:List (Int×Int))(σ:List (Option V))(H:Hp):Prop:=
 S σ/\ ∃ W v m,Bc Wl W/\BX K A E z W v m H (Sq B rest m F)
def pW{gg:TG}{tb:TS}{D:Ends}(hl:Wl l=some (.lst<|ts.map .ref))(pa:PA K Wl ts ps)
  (S:List (Option V)->Prop) (h0:Jp K A E z Wl S B F ps σ H)
  (hs: ∀ p t rest σ W v m H,S σ->Bc Wl W->Dd K W t (pV p)->BX K A E z W v m H (B p m fun m=>Sq B rest m F)->gg (.ref t) σ H fun σ2 H2=>tb {D with nx:=Jp K A E z Wl S B F rest,ct:=Jp K A E z Wl S B F rest,bk:=D.nx} σ2 H2)
  (hd: ∀ σ W v m H,S σ->Bc Wl W->BX K A E z W v m H (F m)->D.nx σ H):
  ∃ W:Nat->Nat->List (Option V)->Hp->Prop,(∃ m,W 0 m σ H)/\ ∀ i m σ H,W i m σ H->
   ((qV K l).stop i H/\D.nx σ H)\/((qV K l).go i H/\ ∃ N:List (Option V)->Hp->Prop,(∀ σ' H',N σ' H'-> ∃ m',m'<m/\W (i+1) m' σ' H')/\ ∀ x H',(qV K l).t_ i H x H'->gg x σ H' fun σ2 H2=>tb {D with nx:=N,ct:=N,bk:=D.nx} σ2 H2):=by
 refine Rh (K:=K) (a:=l) (xs:=ts.map .ref) (fun i σ H=>Jp K A E z Wl S B F (ps.drop i) σ H) (by rw[FH];exact h0) ?_ ?_ ?_
 ·rintro i σ H _ ⟨_,W,v,m,s,c⟩
  exact BF.of<|c.h.sub _ _<|s _ _ hl
 ·rintro i x σ H hx ⟨hS,W,v,m,s,c⟩
  rw[CZ]at hx
  cases et:ts[i]? with
  | none=>rw[et]at hx;cases hx
  | some t=>
   rw[et]at hx
   cases hx
   obtain⟨p,h1,h2⟩:=pa.get et
   rw[h2]at c
   exact hs p t _ σ W v m H hS s (BZ s h1) c
 ·rintro σ H ⟨hS,W,v,m,s,c⟩
  rw[A8,pa.len,dW]at c
  exact hd σ W v m H hS s c
noncomputable def NT(g:B4)(m:Ht.M):Ht.R Ht.M:=Ud m fun m ps=>Sq (fun p m F=>wi p.2 (m.zone<|zp m 0).size fun i=>if I_ g m p.1=true then F (m.move (zp m 0) i<|HM m p.1)else F m) ps m .ok
noncomputable def K7(g:B4)(m:Ht.M):Ht.R Ht.M:=Ud m fun m ps=>Sq (fun p m F=>wi p.2 (iV m.values).length fun i=>if I_ g m p.1=true then F {m with values:=m.values.set i<|Ht.cut<|m.values.getD i 0+HM m p.1}else F m) ps m .ok
def Hx (TD:Ku P w K A):OA P w base 6 104 NT (Cw):=by
 refine T.Ip.F.act ["run","told","number","point"] fun H Q E W g v m hr hb c=>⟨_,(AF<|EM PassesOwn.leaving rfl (GO<|Ah QB T.RG<|Af AH) (Qc rfl<|Dj (FV 1)<|Dj (FV 2) Lh)<|AB (AO 3<|Be AH A5 T.BV<|Ax AE Aj)<|AF<|Aq (MV<|Ah (OQ TD) T.NZ<|Ax AH AV) (AF<|Ad<|Ah HF T.move<|CH AH A6<|Ah Ml T.MH<|Ax AH AV) AX),AEw c fun L ts ps W1 m1 H1 s1 hL pa c=>⟨⟨_,BF.of<|c.h.sub _ _ hL⟩,pW hL pa (fun σ=> ∃ o1 o2 o3,σ= [some<|.ref g.run,o1,o2,o3]) ⟨⟨none,none,none,rfl⟩,_,_,_,same_refl,c⟩ ?_ ?_⟩⟩
 ·rintro p t rest σ W2 v2 m2 H2 ⟨o1,o2,o3,rfl⟩ sm hT c
  refine⟨_,_,rfl,BZ c.h.sub hT,rfl,_,_,rfl,_,_,rfl,rfl,c.rn,B5,B9 c (by decide) fun p0 c=>?_⟩
  refine AD3 c hb<|AAw c (fun e c=>?_) fun e c=>⟨⟨_,_,_,rfl⟩,_,_,_,sm,c⟩
  ·exact ADS c<|DY c (Ci c.h.good 0) p0 fun W6 v6 H6 s6 kp c=>⟨⟨_,_,_,rfl⟩,_,_,_,fun b o e=>s6 b o<|sm b o e,c⟩
 ·rintro σ W1 v1 m1 H1 ⟨o1,o2,o3,rfl⟩ sm c
  exact c.done
def F0 (TD:Ku P w K A):OA P w base 5 105 K7 (Cw):=by
 refine T.GK.F.act ["run","controls","told","number","place"] fun H Q E W g v m hr hb c=>⟨_,(AB (AO 1<|AR<|AR AH)<|AF<|EM PassesOwn.leaving rfl (GO<|Ah QB T.RG<|Af AH) (Qc rfl<|Dj (FV 2)<|Dj (FV 3) Lh)<|AB (AO 4<|Ah Ck T.within<|Ax A6<|Dc T.k.CD<|Af AV)<|AF<|Aq (MV<|Ah (OQ TD) T.NZ<|Ax AH Aj) (AF<|Hy (Ah Dv T.cut<|Af<|AU BJ (A9 Ab AV CG)<|Ah Ml T.MH<|Ax AH Aj)<|IC AV CG set_list) AX),c.rn,AL,A_,c.h.gr,AW,Hi,AEw c fun L ts ps W1 m1 H1 s1 hL pa c=>⟨⟨_,BF.of<|c.h.sub _ _ hL⟩,pW hL pa (fun σ=> ∃ o1 o2 o3,σ= [some<|.ref g.run,some<|.ref g.Cq,o1,o2,o3]) ⟨⟨none,none,none,rfl⟩,_,_,_,same_refl,c⟩ ?_ ?_⟩⟩
 ·rintro p t rest σ W2 v2 m2 H2 ⟨o1,o2,o3,rfl⟩ sm hT c
  refine⟨_,_,rfl,BZ c.h.sub hT,rfl,_,_,rfl,_,_,rfl,rfl,.inl<|BF.of c.h.Cq,DR c fun w1 c=>AD3 c hb<|AAw c (fun e c=>?_) fun e c=>⟨⟨_,_,_,rfl⟩,_,_,_,sm,c⟩⟩
  ·refine⟨BF.of c.h.Cq,vZ w1,ADS c ⟨_,rfl,trivial,_,_,_,_,rfl,rfl,c.h.Cq,ixn w1,?_⟩⟩
   rw[dh]
   replace c:=c.go same_refl<|c.h.Qh (i:=Ht.unsigned p.2) (x:=Ht.cut<|m2.values.getD (Ht.unsigned p.2) 0+HM m2 p.1)<|Dk _
   exact⟨⟨_,_,_,rfl⟩,_,_,_,sm,c⟩
 ·rintro σ W1 v1 m1 H1 ⟨o1,o2,o3,rfl⟩ sm c
  exact c.done
def oH(h:b=a+2*n)(hb:b<=100000):RgC (AD a) (AD b) 2 n:=by
 show RgC (a:Int) (b:Int) 2 n
 have rs:Ov (a:Int) (b:Int) 2=(n:Int):=by
  unfold Ov
  rw[AI<|by decide]
  split<;>lia
 refine⟨by decide,by decide,?_,rs⟩
 have h1: ∀ x:Int,0<=x->x<=200000->oJ x=true:=fun x h2 h3=>by
  unfold oJ
  rw[PQ,MK,MK]
  lia
 unfold c9
 rw[rs]
 rw[h1 (a:Int) (by lia)<|by lia,h1 (b:Int) (by lia)<|by lia,h1 2 (by decide)<|by decide,h1 (n:Int) (by lia)<|by lia,AI<|by decide,h1 ((b:Int)+(2-1)) (by lia)<|by lia,eJ]
 rfl
structure CA(g:B4)(m:Ht.M):Prop where
 lt:g.place<(codeB g m.inFont).length
 byte:g.byte=Ht.byteAt (codeB g m.inFont) g.place
 after:m.place=g.place+DA (codeB g m.inFont) g.place
inductive uk(K:AS)(A:B3)(f:B4->Ht.M->Ht.R Ht.M)(vs:List V)(H:Hp)(Q:VK)(E:XK):Prop
 | mk: ∀ W g v m,vs= [.ref g.run]->R K A W g v m H->CA g m->Out K A W g m.steps m.inFont (f g m) Q E->uk K A f vs H Q E
noncomputable def sI:Int->Ht.M->(Ht.M->Ht.R Ht.M)->Ht.R Ht.M:=fun x m F=>gv m x F
def Sh:Du sI (x::l) m .ok=gv m x fun m'=>Du sI l m' .ok:=rfl
noncomputable def jZ(g:B4)(k:Nat):Nat:=if AD g.byte=AD k then g.place+2 else g.place+1
noncomputable def GH(g:B4)(m:Ht.M):Ht.R Ht.M:=Du sI (Ht.smalls (codeB g m.inFont) (jZ g 64)<|m.place-jZ g 64) m .ok
noncomputable def F7(g:B4)(m:Ht.M):Ht.R Ht.M:=Du sI (Ht.shorts (codeB g m.inFont) (jZ g 65)<|(m.place-jZ g 65)/2) m .ok
def TK{f:Nat->Int}(h:i<n):((BO n).map f).drop i=f i::((BO n).map f).drop (i+1):=by
 rw[Vx<|by rw[A8,CO];exact h,List.getElem_map,lX]
def oI(h:CA g m)(hk:k=64\/k=65):jZ g k<=m.place:=by
 have l1:=Y4 (codeB g m.inFont) g.place
 unfold jZ
 split
 ·rename_i e
  have e':=B7 e
  rw[h.after]
  have hb:=h.byte
  have:2<=DA (codeB g m.inFont) g.place:=by
   unfold DA
   rw[<-hb,e',AI<|by rcases hk with r | r<;>rw[r]<;>simp]
   split<;>lia
  lia
 ·rw[h.after]
  lia
def Zs :OF P w base 4 107 ["run"] (uk K A GH):=by
 refine T.LY.F.Vm ["run","first","place"] fun H vs Q E hr h=>?_
 obtain⟨W,g,v,m,rfl,h,hb,q⟩:=h
 refine⟨_,(AB (AO 1<|Bn (A0 BD (AR AH) AE) (AU BJ (AR AH) AE)<|AU BJ (AR AH) AE)<|AF<|EM PassesOwn.leaving rfl (Tj rfl T.k.Jw<|Ax AV<|AR AH) (FV 2)<|AF<|Ad<|Be AH A1 T.BW<|Af<|A9 Ab (AR AH) Aj),?_⟩
 have c:=AAL h q
 clear h q
 by_cases e:AD g.byte=AD 64
 ·skip
  have ef:jZ g 64=g.place+2:=AI e
  have st:jZ g 64<=m.place:=oI hb<|by decide
  have pl:=c.h.good.place
  have ll:(codeB g m.inFont).length<=2048:=by
   unfold codeB
   split
   ·exact c.h.good.IT
   ·exact c.h.good.ba
  rw[ef]at st
  refine⟨c.rn,AL,BM,rfl,A7 (fun _=>?_) fun q=>absurd (Av<|BL V.int e) q⟩
  refine⟨c.rn,AL,HH,?_⟩
  obtain⟨n,hn⟩: ∃ n,n=m.place- (g.place+2):=⟨_,rfl⟩
  have c':BX K A E ⟨W,g,m.steps,m.inFont,Q⟩ W v m H (Du sI (Ht.smalls (codeB g m.inFont) (g.place+2) n) m .ok):=by
   have q:=c
   unfold GH at q
   rw[ef,<-hn]at q
   exact q
  refine⟨c.rn,AL,HR,_,_,rfl,(by lia),?_⟩
  have en:(AD m.place- (AD g.place+2)).toNat=n:=by rw[hn];show((m.place:Int)- ((g.place:Int)+2)).toNat=m.place- (g.place+2);lia
  rw[en]
  refine Oz (fun i σ H'=> ∃ sk o,σ= [some<|.ref g.run,some<|.int<|AD g.place+2,o]/\BX K A E ⟨W,g,m.steps,m.inFont,Q⟩ W v (Bs m<|sk) H' (Du sI ((Ht.smalls (codeB g m.inFont) (g.place+2) n).drop i) (Bs m<|sk) .ok)) ⟨m.stack,none,rfl,by rw[FH];exact c'⟩ ?_ ?_
  ·rintro i σ H1 hi ⟨sk,o,rfl,c⟩
   have hlt:g.place+2+i<(codeB g m.inFont).length:=by lia
   have hd:(Ht.smalls (codeB g m.inFont) (g.place+2) n).drop i=AD (Ht.byteAt (codeB g m.inFont)<|g.place+2+i)::(Ht.smalls (codeB g m.inFont) (g.place+2) n).drop (i+1):=TK hi
   rw[hd]at c
   replace c:=c.to Sh
   exact⟨c.rn,B2,c.rn,AL,FR,BF.of<|c.h.codeAt _,OK hlt,Bp c fun H2 e2 c=>⟨_,_,rfl,c⟩⟩
  ·rintro σ H1 ⟨sk,o,rfl,c⟩
   rw[show(Ht.smalls (codeB g m.inFont) (g.place+2) n).drop n= []from Sb<|by unfold Ht.smalls;rw[A8,CO];exact BS _]at c
   exact c.done
 ·skip
  have ef:jZ g 64=g.place+1:=AG e
  have st:jZ g 64<=m.place:=oI hb<|by decide
  have pl:=c.h.good.place
  have ll:(codeB g m.inFont).length<=2048:=by
   unfold codeB
   split
   ·exact c.h.good.IT
   ·exact c.h.good.ba
  rw[ef]at st
  refine⟨c.rn,AL,BM,rfl,A7 (fun q=>absurd (V.int.inj<|An q) e) fun _=>⟨c.rn,AL,HH,?_⟩⟩
  obtain⟨n,hn⟩: ∃ n,n=m.place- (g.place+1):=⟨_,rfl⟩
  have c':BX K A E ⟨W,g,m.steps,m.inFont,Q⟩ W v m H (Du sI (Ht.smalls (codeB g m.inFont) (g.place+1) n) m .ok):=by
   have q:=c
   unfold GH at q
   rw[ef,<-hn]at q
   exact q
  refine⟨c.rn,AL,HR,_,_,rfl,(by lia),?_⟩
  have en:(AD m.place- (AD g.place+1)).toNat=n:=by rw[hn];show((m.place:Int)- ((g.place:Int)+1)).toNat=m.place- (g.place+1);lia
  rw[en]
  refine Oz (fun i σ H'=> ∃ sk o,σ= [some<|.ref g.run,some<|.int<|AD g.place+1,o]/\BX K A E ⟨W,g,m.steps,m.inFont,Q⟩ W v (Bs m<|sk) H' (Du sI ((Ht.smalls (codeB g m.inFont) (g.place+1) n).drop i) (Bs m<|sk) .ok)) ⟨m.stack,none,rfl,by rw[FH];exact c'⟩ ?_ ?_
  ·rintro i σ H1 hi ⟨sk,o,rfl,c⟩
   have hlt:g.place+1+i<(codeB g m.inFont).length:=by lia
   have hd:(Ht.smalls (codeB g m.inFont) (g.place+1) n).drop i=AD (Ht.byteAt (codeB g m.inFont)<|g.place+1+i)::(Ht.smalls (codeB g m.inFont) (g.place+1) n).drop (i+1):=TK hi
   rw[hd]at c
   replace c:=c.to Sh
   exact⟨c.rn,B2,c.rn,AL,FR,BF.of<|c.h.codeAt _,OK hlt,Bp c fun H2 e2 c=>⟨_,_,rfl,c⟩⟩
  ·rintro σ H1 ⟨sk,o,rfl,c⟩
   rw[show(Ht.smalls (codeB g m.inFont) (g.place+1) n).drop n= []from Sb<|by unfold Ht.smalls;rw[A8,CO];exact BS _]at c
   exact c.done
inductive vL(K:AS)(A:B3)(f:B4->Ht.M->Ht.R Ht.M)(vs:List V)(H:Hp)(Q:VK)(E:XK):Prop
 | mk: ∀ W g v m,vs= [.ref g.run]->R K A W g v m H->((CA g m/\(g.byte=65\/184<=g.byte/\g.byte<=191)))->Out K A W g m.steps m.inFont (f g m) Q E->vL K A f vs H Q E
def ZL :OF P w base 4 108 ["run"] (vL K A F7):=by
 refine T.MD.F.Vm ["run","first","place"] fun H vs Q E hr h=>?_
 obtain⟨W,g,v,m,rfl,h,hb,q⟩:=h
 refine⟨_,(AB (AO 1<|Bn (A0 BD (AR AH) AE) (AU BJ (AR AH) AE)<|AU BJ (AR AH) AE)<|AF<|EM PassesOwn.leaving rfl (ax rfl T.k.Jw<|CH AV (AR AH) AE) (FV 2)<|AF<|Ad<|Be AH A1 T.BW<|Af<|Ah Lf T.Oe<|Af<|AU BJ (AU Bb AE<|A9 Ab (AR AH) Aj)<|A9 Ab (AR AH)<|AU BJ Aj AE),?_⟩
 have c:=AAL h q
 clear h q
 obtain⟨hb,hbs⟩:=hb
 have hw: ¬ g.byte=65->184<=g.byte/\g.byte<=191:=fun n=>hbs.elim (fun z=>absurd z n) id
 by_cases e:AD g.byte=AD 65
 ·skip
  have ef:jZ g 65=g.place+2:=AI e
  have st:jZ g 65<=m.place:=oI hb<|by decide
  have pl:=c.h.good.place
  have ll:(codeB g m.inFont).length<=2048:=by
   unfold codeB
   split
   ·exact c.h.good.IT
   ·exact c.h.good.ba
  rw[ef]at st
  refine⟨c.rn,AL,BM,rfl,A7 (fun _=>?_) fun q=>absurd (Av<|BL V.int e) q⟩
  refine⟨c.rn,AL,HH,?_⟩
  obtain⟨n,hn⟩: ∃ n,n=(m.place- (g.place+2))/2:=⟨_,rfl⟩
  have evn:m.place=g.place+2+2*n:=by
   rw[hn]
   have a1:=hb.after
   have a2:=hb.byte
   unfold DA at a1
   rw[<-a2]at a1
   have e':=B7 e
   rw[e',AI<|by simp]at a1
   split at a1
   ·lia
   ·lia
  have c':BX K A E ⟨W,g,m.steps,m.inFont,Q⟩ W v m H (Du sI (Ht.shorts (codeB g m.inFont) (g.place+2) n) m .ok):=by
   have q:=c
   unfold F7 at q
   rw[ef,<-hn]at q
   exact q
  refine⟨c.rn,AL,HR,_,_,_,n,rfl,oH evn<|by lia,Qx (fun i σ H'=> ∃ sk o,σ= [some<|.ref g.run,some<|.int<|AD g.place+2,o]/\BX K A E ⟨W,g,m.steps,m.inFont,Q⟩ W v (Bs m<|sk) H' (Du sI ((Ht.shorts (codeB g m.inFont) (g.place+2) n).drop i) (Bs m<|sk) .ok)) ⟨m.stack,none,rfl,by rw[FH];exact c'⟩ ?_ ?_⟩
  ·rintro i σ H1 hi ⟨sk,o,rfl,c⟩
   have l1:g.place+2+2*i<(codeB g m.inFont).length:=by lia
   have l2:g.place+2+2*i+1<(codeB g m.inFont).length:=by lia
   have hd:(Ht.shorts (codeB g m.inFont) (g.place+2) n).drop i=Ht.half (AD<|256*Ht.byteAt (codeB g m.inFont) (g.place+2+2*i)+Ht.byteAt (codeB g m.inFont) (g.place+2+2*i+1))::(Ht.shorts (codeB g m.inFont) (g.place+2) n).drop (i+1):=TK hi
   rw[hd]at c
   replace c:=c.to Sh
   have ix:AD (g.place+2)+(i:Int)*2=AD (g.place+2+2*i):=by show((g.place+2:Nat):Int)+(i:Int)*2=((g.place+2+2*i:Nat):Int);lia
   show Rb 2 (.int<|AD (g.place+2)+(i:Int)*2) _ _ _
   rw[ix]
   exact⟨c.rn,B2,c.rn,AL,FR,BF.of<|c.h.codeAt _,OK l1,.inl ⟨by decide,by decide⟩,c.rn,AL,FR,BF.of<|c.h.codeAt _,OK l2,_,rfl,trivial,Bp c fun H2 e2 c=>⟨_,_,rfl,c⟩⟩
  ·rintro σ H1 ⟨sk,o,rfl,c⟩
   rw[show(Ht.shorts (codeB g m.inFont) (g.place+2) n).drop n= []from Sb<|by unfold Ht.shorts;rw[A8,CO];exact BS _]at c
   exact c.done
 ·skip
  have ef:jZ g 65=g.place+1:=AG e
  have st:jZ g 65<=m.place:=oI hb<|by decide
  have pl:=c.h.good.place
  have ll:(codeB g m.inFont).length<=2048:=by
   unfold codeB
   split
   ·exact c.h.good.IT
   ·exact c.h.good.ba
  rw[ef]at st
  refine⟨c.rn,AL,BM,rfl,A7 (fun q=>absurd (V.int.inj<|An q) e) fun _=>⟨c.rn,AL,HH,?_⟩⟩
  obtain⟨n,hn⟩: ∃ n,n=(m.place- (g.place+1))/2:=⟨_,rfl⟩
  have evn:m.place=g.place+1+2*n:=by
   rw[hn]
   have a1:=hb.after
   have a2:=hb.byte
   unfold DA at a1
   rw[<-a2]at a1
   rcases hw (fun z=>e<|by rw[z])with⟨q1,q2⟩
   rw[AG<|by lia,AG<|by lia,AI ⟨q1,q2⟩]at a1
   lia
  have c':BX K A E ⟨W,g,m.steps,m.inFont,Q⟩ W v m H (Du sI (Ht.shorts (codeB g m.inFont) (g.place+1) n) m .ok):=by
   have q:=c
   unfold F7 at q
   rw[ef,<-hn]at q
   exact q
  refine⟨c.rn,AL,HR,_,_,_,n,rfl,oH evn<|by lia,Qx (fun i σ H'=> ∃ sk o,σ= [some<|.ref g.run,some<|.int<|AD g.place+1,o]/\BX K A E ⟨W,g,m.steps,m.inFont,Q⟩ W v (Bs m<|sk) H' (Du sI ((Ht.shorts (codeB g m.inFont) (g.place+1) n).drop i) (Bs m<|sk) .ok)) ⟨m.stack,none,rfl,by rw[FH];exact c'⟩ ?_ ?_⟩
  ·rintro i σ H1 hi ⟨sk,o,rfl,c⟩
   have l1:g.place+1+2*i<(codeB g m.inFont).length:=by lia
   have l2:g.place+1+2*i+1<(codeB g m.inFont).length:=by lia
   have hd:(Ht.shorts (codeB g m.inFont) (g.place+1) n).drop i=Ht.half (AD<|256*Ht.byteAt (codeB g m.inFont) (g.place+1+2*i)+Ht.byteAt (codeB g m.inFont) (g.place+1+2*i+1))::(Ht.shorts (codeB g m.inFont) (g.place+1) n).drop (i+1):=TK hi
   rw[hd]at c
   replace c:=c.to Sh
   have ix:AD (g.place+1)+(i:Int)*2=AD (g.place+1+2*i):=by show((g.place+1:Nat):Int)+(i:Int)*2=((g.place+1+2*i:Nat):Int);lia
   show Rb 2 (.int<|AD (g.place+1)+(i:Int)*2) _ _ _
   rw[ix]
   exact⟨c.rn,B2,c.rn,AL,FR,BF.of<|c.h.codeAt _,OK l1,.inl ⟨by decide,by decide⟩,c.rn,AL,FR,BF.of<|c.h.codeAt _,OK l2,_,rfl,trivial,Bp c fun H2 e2 c=>⟨_,_,rfl,c⟩⟩
  ·rintro σ H1 ⟨sk,o,rfl,c⟩
   rw[show(Ht.shorts (codeB g m.inFont) (g.place+1) n).drop n= []from Sb<|by unfold Ht.shorts;rw[A8,CO];exact BS _]at c
   exact c.done
end GF
end
section
namespace GF
open PySem PySem.Spec PyProof.Rows L2
structure AAd(X:Cx)(f:AK)(ps:List Str)(sp:Sp)(E:XK):Prop where
 ex: ∃ CX k fd,ET X.prog X.w X.K X.mg X.base CX k f fd ps sp/\D_ k X.A/\FW X.K (.ref f)=true/\Binds X.K fd ps []/\Passes CX X E
noncomputable def ABU(X:Cx)(i:Nat)(E:XK)(t:TA):TE:=fun σ H Q=> ∃ f ps sp,σ[i]?=some (some<|.ref f)/\AAd X f ps sp E/\t σ H fun vs H1=>sp vs H1 Q E
def xG{E:XK}{p pos:Pos}(hv:PE X (.Name x p) (Jd i))(ha:L2.PA X (e::es) t)
  (he:Au (e::es) X.env=(false,eval e X.env)::Au es X.env:=by rfl) (hpl:(Cn pos<|Au es X.env).any (·.1)=false:=by rfl):
  PE X (.Call (.Name x p) (e::es) [] pos) (ABU X i E t):=by
 intro pins s σ H Q I ⟨f,ps,sp,hσ,cv,h⟩
 obtain⟨CX,k,fd,F,hr,hk,hb,hx⟩:=cv.ex
 refine Jk<|HI (hv pins s σ H (fun v H1=>v= .ref f/\H1=H) I<|Je.of hσ ⟨rfl,rfl⟩) fun u s1 v H1 I1 r1 q_=>?_
 obtain⟨e1,e2⟩:=q_
 subst e1 e2
 obtain rfl:u=CY f:=r1
 refine MB I1.ok.mod.xg hk (j_ (ha pos pins s1 σ H1 _ I1 h) fun us s2 vs H2 I2 r q=>⟨I2.QQ,?_⟩) he hpl
 exact Yp F hr hb .nil hx I2 r<|by rw[OX];exact q
end GF
end
section
namespace GF
open PySem PySem.Spec PyProof.Rows L2
variable{P:BH}{w:Ao}{K:AS}{mg:Str->Option AN}{base:Az}{A:B3}[T:Txt K mg A]
noncomputable def Yk(t:List (Key×V))(b:Nat):V:=(E1 t<|.inl<|AD b).getD .non
noncomputable def Hq(A:B3)(b:Nat):V:=if 176<=b/\b<=183 then .ref (A.ad 107)else if 184<=b/\b<=191 then .ref (A.ad 108)else Yk (JJ A) b
noncomputable def MG(A:B3)(b:Nat):V:=Yk (QD A) b
noncomputable def KR(A:B3)(b:Nat):V:=Yk (Nl A) b
noncomputable def Hr(A:B3)(b:Nat):V:=if 192<=b/\b<=223 then .ref (A.ad 76)else if 224<=b/\b<=255 then .ref (A.ad 79)else Yk (IL A) b
noncomputable def Uy(A:B3)(b:Nat):V:=Yk (KL A) b
inductive Qu(f:Nat->V)(vs:List V)(H:Hp)(Q:VK)(E_:XK):Prop
 | mk: ∀ b,vs= [.int (AD b)]->Q (f b) H->Qu f vs H Q E_
noncomputable def EX(A:B3)(b:Nat):V:=if Hq A b= .non then(if MG A b= .non then(if KR A b= .non then(if Hr A b= .non then Uy A b else Hr A b)else KR A b)else MG A b)else Hq A b
def iX (TD:Ku P w K A):O0 P w base 1 44 ["byte"] (Qu<|MG A):=by
 refine T.iq.F.DQ ["byte"] fun H vs Q E hr h=>?_
 obtain⟨b,rfl,q⟩:=h
 refine⟨_,(AF<|AY<|N8 (DX rfl T.k.jN<|show L2.RelV (.ref<|A.tg 2) _ from rfl) AH ⟨rfl,rfl,rfl,rfl⟩),?_⟩
 exact⟨_,_,rfl,TD.sX,.inl<|AD b,rfl,q⟩
def eF (TD:Ku P w K A):O0 P w base 1 166 ["byte"] (Qu<|KR A):=by
 refine T.aZ.F.DQ ["byte"] fun H vs Q E hr h=>?_
 obtain⟨b,rfl,q⟩:=h
 refine⟨_,(AF<|AY<|N8 (DX rfl T.k.dI<|show L2.RelV (.ref<|A.tg 8) _ from rfl) AH ⟨rfl,rfl,rfl,rfl⟩),?_⟩
 exact⟨_,_,rfl,TD.kH,.inl<|AD b,rfl,q⟩
def cP (TD:Ku P w K A):O0 P w base 1 106 ["byte"] (Qu<|Uy A):=by
 refine T.bD.F.DQ ["byte"] fun H vs Q E hr h=>?_
 obtain⟨b,rfl,q⟩:=h
 refine⟨_,(AF<|AY<|N8 (DX rfl T.k.VW<|show L2.RelV (.ref<|A.tg 5) _ from rfl) AH ⟨rfl,rfl,rfl,rfl⟩),?_⟩
 exact⟨_,_,rfl,TD.ZQ,.inl<|AD b,rfl,q⟩
def bo (TD:Ku P w K A):O0 P w base 1 143 ["byte"] (Qu<|Hq A):=by
 refine T.Z3.F.DQ ["byte"] fun H vs Q E hr h=>?_
 obtain⟨b,rfl,q⟩:=h
 refine⟨_,(AB (Aq (LH IM IM AE AH AE) (AF<|AY<|DX rfl T.LY.g<|show L2.RelV (.ref<|A.ad 107) _ from rfl) AX)<|AB (Aq (LH IM IM AE AH AE) (AF<|AY<|DX rfl T.MD.g<|show L2.RelV (.ref<|A.ad 108) _ from rfl) AX)<|AF<|AY<|N8 (DX rfl T.k.dG<|show L2.RelV (.ref<|A.tg 6) _ from rfl) AH ⟨rfl,rfl,rfl,rfl⟩),?_⟩
 unfold Hq at q
 have next:Q (if 184<=b/\b<=191 then V.ref (A.ad 108)else Yk (JJ A) b) H->vm (vS (XY<|cY (WT fun i j=> .bl<|decide (i<=j)) (WT fun i j=> .bl<|decide (i<=j)) (tC<|.int 184) (Jd 0)<|tC<|.int 191) (dF<|tC<|.ref<|A.ad 108) Zw) (dF<|lG P w K (tC<|.ref<|A.tg 6)<|Jd 0) {nx:=fun _ H'=>Q .non H',rt:=Q} [some<|.int<|AD b] H:=by
  intro q
  refine⟨_,rfl,A7 (fun e=>?_) fun e=>?_⟩
  ·have e1:=Bf.mp (An e)
   refine A7 (fun e=>?_) fun e=>?_
   ·have e2:=Bf.mp (An e)
    rw[AI ⟨e1,e2⟩]at q
    exact q
   ·have e2: ¬ b<=191:=fun z=>e (Av<|Bf.mpr z)
    rw[AG fun z=>e2 z.2]at q
    exact⟨_,_,rfl,TD.Xf,.inl<|AD b,rfl,q⟩
  ·have e1: ¬ 184<=b:=fun z=>e (Av<|Bf.mpr z)
   rw[AG fun z=>e1 z.1]at q
   exact⟨_,_,rfl,TD.Xf,.inl<|AD b,rfl,q⟩
 refine⟨_,rfl,A7 (fun e=>?_) fun e=>?_⟩
 ·have e1:=Bf.mp (An e)
  refine A7 (fun e=>?_) fun e=>?_
  ·have e2:=Bf.mp (An e)
   rw[AI ⟨e1,e2⟩]at q
   exact q
  ·have e2: ¬ b<=183:=fun z=>e (Av<|Bf.mpr z)
   rw[AG fun z=>e2 z.2]at q
   exact next q
 ·have e1: ¬ 176<=b:=fun z=>e (Av<|Bf.mpr z)
  rw[AG fun z=>e1 z.1]at q
  exact(next q)
def fR (TD:Ku P w K A):O0 P w base 1 86 ["byte"] (Qu<|Hr A):=by
 refine T.ay.F.DQ ["byte"] fun H vs Q E hr h=>?_
 obtain⟨b,rfl,q⟩:=h
 refine⟨_,(AB (Aq (LH IM IM AE AH AE) (AF<|AY<|DX rfl T.G8.g<|show L2.RelV (.ref<|A.ad 76) _ from rfl) AX)<|AB (Aq (LH IM IM AE AH AE) (AF<|AY<|DX rfl T.IA.g<|show L2.RelV (.ref<|A.ad 79) _ from rfl) AX)<|AF<|AY<|N8 (DX rfl T.k.Za<|show L2.RelV (.ref<|A.tg 3) _ from rfl) AH ⟨rfl,rfl,rfl,rfl⟩),?_⟩
 unfold Hr at q
 have next:Q (if 224<=b/\b<=255 then V.ref (A.ad 79)else Yk (IL A) b) H->vm (vS (XY<|cY (WT fun i j=> .bl<|decide (i<=j)) (WT fun i j=> .bl<|decide (i<=j)) (tC<|.int 224) (Jd 0)<|tC<|.int 255) (dF<|tC<|.ref<|A.ad 79) Zw) (dF<|lG P w K (tC<|.ref<|A.tg 3)<|Jd 0) {nx:=fun _ H'=>Q .non H',rt:=Q} [some<|.int<|AD b] H:=by
  intro q
  refine⟨_,rfl,A7 (fun e=>?_) fun e=>?_⟩
  ·have e1:=Bf.mp (An e)
   refine A7 (fun e=>?_) fun e=>?_
   ·have e2:=Bf.mp (An e)
    rw[AI ⟨e1,e2⟩]at q
    exact q
   ·have e2: ¬ b<=255:=fun z=>e (Av<|Bf.mpr z)
    rw[AG fun z=>e2 z.2]at q
    exact⟨_,_,rfl,TD.U8,.inl<|AD b,rfl,q⟩
  ·have e1: ¬ 224<=b:=fun z=>e (Av<|Bf.mpr z)
   rw[AG fun z=>e1 z.1]at q
   exact⟨_,_,rfl,TD.U8,.inl<|AD b,rfl,q⟩
 refine⟨_,rfl,A7 (fun e=>?_) fun e=>?_⟩
 ·have e1:=Bf.mp (An e)
  refine A7 (fun e=>?_) fun e=>?_
  ·have e2:=Bf.mp (An e)
   rw[AI ⟨e1,e2⟩]at q
   exact q
  ·have e2: ¬ b<=223:=fun z=>e (Av<|Bf.mpr z)
   rw[AG fun z=>e2 z.2]at q
   exact next q
 ·have e1: ¬ 192<=b:=fun z=>e (Av<|Bf.mpr z)
  rw[AG fun z=>e1 z.1]at q
  exact(next q)
def sL (TD:Ku P w K A):O0 P w base 2 167 ["byte"] (Qu<|EX A):=by
 refine T.vJ.F.DQ ["byte","act"] fun H vs Q E hr h=>?_
 obtain⟨b,rfl,q⟩:=h
 refine⟨_,(AB (AO 1<|Ah (bo TD) T.Z3<|Af AH)<|AB (Aq (Kd<|Ke AV) (AF<|AO 1<|Ah (iX TD) T.iq<|Af AH) AX)<|AB (Aq (Kd<|Ke AV) (AF<|AO 1<|Ah (eF TD) T.aZ<|Af AH) AX)<|AB (Aq (Kd<|Ke AV) (AF<|AO 1<|Ah (fR TD) T.ay<|Af AH) AX)<|AB (Aq (Kd<|Ke AV) (AF<|AO 1<|Ah (cP TD) T.bD<|Af AH) AX)<|AF<|AY AV),?_⟩
 unfold EX at q
 refine⟨b,rfl,A7 (fun e=>?_) fun e=>?_⟩
 rotate_left
 ·have e': ¬ Hq A b= .non:=fun z=>e (Av z)
  rw[AG e']at q
  exact A7 (fun e=>absurd (An e) e') fun _=>A7 (fun e=>absurd (An e) e') fun _=>A7 (fun e=>absurd (An e) e') fun _=>q
 rw[AI<|An e]at q
 refine⟨b,rfl,A7 (fun e=>?_) fun e=>?_⟩
 rotate_left
 ·have e': ¬ MG A b= .non:=fun z=>e (Av z)
  rw[AG e']at q
  exact A7 (fun e=>absurd (An e) e') fun _=>A7 (fun e=>absurd (An e) e') fun _=>q
 rw[AI<|An e]at q
 refine⟨b,rfl,A7 (fun e=>?_) fun e=>?_⟩
 rotate_left
 ·have e': ¬ KR A b= .non:=fun z=>e (Av z)
  rw[AG e']at q
  exact A7 (fun e=>absurd (An e) e') fun _=>q
 rw[AI<|An e]at q
 refine⟨b,rfl,A7 (fun e=>?_) fun e=>?_⟩
 rotate_left
 ·have e': ¬ Hr A b= .non:=fun z=>e (Av z)
  rw[AG e']at q
  exact q
 rw[AI<|An e]at q
 exact⟨b,rfl,q⟩
section
noncomputable def A4(g:B4)(m:Ht.M):Ht.R Ht.M:=Ht.acts g.kind m (codeB g m.inFont) g.place (DA (codeB g m.inFont) g.place)
variable{g:B4}{m:Ht.M}{b:Nat}
noncomputable def Qk(b:Nat):Bool:=!(b==64)&&!(b==65)&&!(decide (176<=b)&&decide (b<=191))
def WW(h:CA g m)(hb:g.byte=b)(hn:Qk b=true):A4 g m=if Ht.isThrough b=true then Ht.through m (codeB g m.inFont) g.place b else if Ht.isReckon b=true then Ht.reckon m b else if Ht.isSet b=true then Ht.sets g.kind m b else Ht.points m b:=by
 unfold A4 Ht.acts
 dsimp only
 rw[<-h.byte,hb]
 unfold Qk at hn
 simp only[PQ,LV,Jt,Bool.and_eq_false_iff,Wv]at hn
 rw[AG hn.1.1,AG hn.1.2,AG (by rcases hn.2 with q | q<;>lia),AG (by rcases hn.2 with q | q<;>lia)]
def Cu(h:CA g m)(hb:g.byte=b)(hn:Qk b=true)(h1:Ht.isThrough b=true):A4 g m=Ht.through m (codeB g m.inFont) g.place b:=by rw[WW h hb hn,AI h1]
def Ag(h:CA g m)(hb:g.byte=b)(hn:Qk b=true:=by decide)(h1:Ht.isThrough b=false:=by decide)(h2:Ht.isReckon b=true:=by decide):A4 g m=Ht.reckon m b:=by rw[WW h hb hn,AG<|by rw[h1];decide,AI h2]
def A2(h:CA g m)(hb:g.byte=b)(hn:Qk b=true:=by decide)(h1:Ht.isThrough b=false:=by decide)(h2:Ht.isReckon b=false:=by decide)(h3:Ht.isSet b=true:=by decide):A4 g m=Ht.sets g.kind m b:=by rw[WW h hb hn,AG<|by rw[h1];decide,AG<|by rw[h2];decide,AI h3]
def BE(h:CA g m)(hb:g.byte=b)(hn:Qk b=true:=by decide)(h1:Ht.isThrough b=false:=by decide)(h2:Ht.isReckon b=false:=by decide)(h3:Ht.isSet b=false:=by decide):A4 g m=Ht.points m b:=by rw[WW h hb hn,AG<|by rw[h1];decide,AG<|by rw[h2];decide,AG<|by rw[h3];decide]
def En(x:Bool):Ht.bool x=bI x:=rfl
def Ae(h: ∀ a s,m.stack=a::s->F (Bs m<|s) a=G (Bs m<|s) a):tk m F=tk m G:=by
 unfold tk
 split
 ·rfl
 ·rename_i a s e
  exact h a s e
def BB(h:Ht.unsigned x<n->F (Ht.unsigned x)=G (Ht.unsigned x)):wi x n F=wi x n G:=by
 by_cases e:Ht.unsigned x<n
 ·rw[Eb e,Eb e];exact h e
 ·rw[F_<|by lia,F_<|by lia]
def SE(h:x=y):gv m x F=gv m y F:=by rw[h]
theorem AFE:uD m 3 F=tk m fun m a=>tk m fun m b=>tk m fun m c=>F m [a,b,c]:=by
 unfold tk uD
 cases e:m.stack with
 | nil=>rw[AI<|by simp]
 | cons a s=>
  cases s with
  | nil=>rw[AI<|by simp]
  | cons b s=>
   cases s with
   | nil=>rw[AI<|by simp]
   | cons c s=>rw[AG<|by simp];rfl
def div_eq{a b:Int}(h: ¬ b=0):Int.tdiv (64*a) b=if decide (a<0)=decide (b<0)then BN (64*(if a<0 then-a else a)) (if b<0 then-b else b)else-(BN (64*(if a<0 then-a else a))<|if b<0 then-b else b):=by
 by_cases ha:a<0<;>by_cases hb:b<0
 ·rw[AI<|by simp[ha,hb],AI ha,AI hb,GD _<|by lia,show 64*a= -(64* -a) by lia,show b= -(-b) by lia,Int.neg_tdiv_neg,V6<|by lia,Int.neg_neg]
 ·rw[AG<|by simp[ha,hb],AI ha,AG hb,GD _<|by lia,show 64*a= -(64* -a) by lia,Int.neg_tdiv,V6<|by lia]
 ·rw[AG<|by simp[ha,hb],AG ha,AI hb,GD _<|by lia]
  conv=>lhs;rw[show b= -(-b) by lia,Int.tdiv_neg,V6<|by lia]
 ·rw[AI<|by simp[ha,hb],AG ha,AG hb,GD _<|by lia,V6<|by lia]
theorem xb{G:List Int×Ht.M->Ht.R Ht.M}:Ht.on (m.take 1) G=tk m fun m a=>G ([a],m):=by
 unfold tk Ht.M.take
 cases m.stack with
 | nil=>rfl
 | cons a s=>rw[AG<|by simp];rfl
theorem on2{G:List Int×Ht.M->Ht.R Ht.M}:Ht.on (m.take 2) G=tk m fun m b=>tk m fun m a=>G ([b,a],m):=by
 unfold tk Ht.M.take
 cases m.stack with
 | nil=>rfl
 | cons a s=>
  cases s with
  | nil=>rfl
  | cons b s=>rw[AG<|by simp];rfl
local macro_rules | `(tactic| exists $f) => `(tactic| ((first | refine .trans ?_ xb.symm | refine .trans ?_ on2.symm | refine .trans ?_ TJ.symm | refine .trans ?_ Js.symm | refine .trans ?_ JZ.symm | skip); simp only [$f:term, List.getD_cons_zero, List.getD_cons_succ, Js, JZ, YN, Eh, Bq]))
def Vb(h:CA g m)(hb:g.byte=32):NR g m=A4 g m:=by
 rw[Ag h hb]
 exists NR
def lS(h:CA g m)(hb:g.byte=33):JD g m=A4 g m:=by
 rw[Ag h hb]
 exists JD
def jC(h:CA g m)(hb:g.byte=126):JD g m=A4 g m:=by
 rw[Ag h hb]
 exists JD
def jG(h:CA g m)(hb:g.byte=127):JD g m=A4 g m:=by
 rw[Ag h hb]
 exists JD
def jO(h:CA g m)(hb:g.byte=133):JD g m=A4 g m:=by
 rw[Ag h hb]
 exists JD
def gO(h:CA g m)(hb:g.byte=141):JD g m=A4 g m:=by
 rw[Ag h hb]
 exists JD
def hG(h:CA g m)(hb:g.byte=34):pq g m=A4 g m:=by
 rw[Ag h hb]
 rfl
def kC(h:CA g m)(hb:g.byte=35):jg g m=A4 g m:=by
 rw[Ag h hb]
 exists jg
def T4(h:CA g m)(hb:g.byte=36):L_ g m=A4 g m:=by
 rw[Ag h hb]
 refine .trans ?_ Js.symm
 simp only[L_,Bq,Ei]
def NF(h:CA g m)(hb:g.byte=37):F9 g m=A4 g m:=by
 rw[Ag h hb]
 exists F9
 unfold depth
 refine Ae fun a s e=>?_
 by_cases q:a<1
 ·rw[AI q,AI<|.inl q];rfl
 ·rw[AG q]
  simp only[Bq,Ei]
  by_cases q2:AD s.length<a
  ·rw[AI q2,AI<|.inr q2];rfl
  ·rw[AG q2,AG<|by rintro(z | z)<;>contradiction]
def NB(h:CA g m)(hb:g.byte=38):Gi g m=A4 g m:=by
 rw[Ag h hb]
 exists Gi
 unfold depth
 refine Ae fun a s e=>?_
 by_cases q:a<1
 ·rw[AI q,AI<|.inl q];rfl
 ·rw[AG q]
  simp only[Bq,Ei]
  by_cases q2:AD s.length<a
  ·rw[AI q2,AI<|.inr q2];rfl
  ·rw[AG q2,AG<|by rintro(z | z)<;>contradiction]
def i5(h:CA g m)(hb:g.byte=138):kh g m=A4 g m:=by
 rw[Ag h hb]
 exists kh
 rw[AFE]
 rfl
def Ug(h:CA g m)(hb:g.byte=66):Lm g m=A4 g m:=by
 rw[Ag h hb]
 exists Lm
 refine Ae fun a s e=>Ae fun a2 s2 e2=>?_
 rfl
def VX(h:CA g m)(hb:g.byte=67):Nk g m=A4 g m:=by
 rw[Ag h hb]
 exists Nk
 refine Ae fun a s e=>?_
 rfl
def Pn(h:CA g m)(hb:g.byte=68):EJ g m=A4 g m:=by
 rw[Ag h hb]
 exists EJ
 rw[hb]
 refine Ae fun a s e=>?_
 rw[AG<|by decide]
 rfl
def N_(h:CA g m)(hb:g.byte=112):EJ g m=A4 g m:=by
 rw[Ag h hb]
 exists EJ
 rw[hb]
 refine Ae fun a s e=>?_
 rw[AI<|by decide]
 rfl
def Q5(h:CA g m)(hb:g.byte=69):JQ g m=A4 g m:=by
 rw[Ag h hb]
 exists JQ
 refine Ae fun a s e=>?_
 rfl
def ZJ(h:CA g m)(hb:g.byte=80):DI g m=A4 g m:=by
 rw[Ag h hb]
 exists DI
 rw[hb]
 simp only[MJ,KI,En]
 rfl
def ZI(h:CA g m)(hb:g.byte=81):DI g m=A4 g m:=by
 rw[Ag h hb]
 exists DI
 rw[hb]
 simp only[MJ,KI,En]
 rfl
def Zl(h:CA g m)(hb:g.byte=82):DI g m=A4 g m:=by
 rw[Ag h hb]
 exists DI
 rw[hb]
 simp only[MJ,KI,En]
 rfl
def ZX(h:CA g m)(hb:g.byte=83):DI g m=A4 g m:=by
 rw[Ag h hb]
 exists DI
 rw[hb]
 simp only[MJ,KI,En]
 rfl
def Zb(h:CA g m)(hb:g.byte=84):DI g m=A4 g m:=by
 rw[Ag h hb]
 exists DI
 rw[hb]
 simp only[MJ,KI,En]
 rfl
def Zo(h:CA g m)(hb:g.byte=85):DI g m=A4 g m:=by
 rw[Ag h hb]
 exists DI
 rw[hb]
 simp only[MJ,KI,En]
 refine Ae fun a s e=>Ae fun a2 s2 e2=>SE ?_
 by_cases p:a2=a<;>simp[p]
def UK(h:CA g m)(hb:g.byte=86):GA g m=A4 g m:=by
 rw[Ag h hb]
 exists GA
 rw[hb]
 refine Ae fun a s e=>SE ?_
 simp only[KI,AAX,En,Ht.down]
 congr 1
 by_cases p:BN (Ht.M.round (Bs m<|s) a) 64%2=1
 ·simp[p]
 ·simp[p]
def Uh(h:CA g m)(hb:g.byte=87):GA g m=A4 g m:=by
 rw[Ag h hb]
 exists GA
 rw[hb]
 refine Ae fun a s e=>SE ?_
 simp only[KI,AAX,En,Ht.down]
 congr 1
 have q:BN (Ht.M.round (Bs m<|s) a) 64%2=0\/BN (Ht.M.round (Bs m<|s) a) 64%2=1:=by lia
 rcases q with q | q
 ·simp[q]
 ·simp[q]
def Yo(h:CA g m)(hb:g.byte=90):QW g m=A4 g m:=by
 rw[Ag h hb]
 exists QW
 refine Ae fun a s e=>Ae fun a2 s2 e2=>?_
 by_cases p:a2=0
 ·rw[AI p];simp[p,En]
 ·rw[AG p];simp[p,En,KI]
def UO(h:CA g m)(hb:g.byte=91):Ma g m=A4 g m:=by
 rw[Ag h hb]
 exists Ma
 refine Ae fun a s e=>Ae fun a2 s2 e2=>?_
 by_cases p:a2=0
 ·rw[AI p];simp[p,En,KI]
 ·rw[AG p];simp[p,En]
def YK(h:CA g m)(hb:g.byte=92):Qw g m=A4 g m:=by
 rw[Ag h hb]
 exists Qw
 refine Ae fun a s e=>?_
 simp only[KI,En]
def Zr(h:CA g m)(hb:g.byte=96):Tp g m=A4 g m:=by
 rw[Ag h hb]
 exists Tp
def Vd(h:CA g m)(hb:g.byte=97):Nf g m=A4 g m:=by
 rw[Ag h hb]
 exists Nf
def bR(h:CA g m)(hb:g.byte=98):Yt g m=A4 g m:=by
 rw[Ag h hb]
 exists Yt
 refine Ae fun a s e=>Ae fun a2 s2 e2=>?_
 by_cases p:a=0
 ·rw[AI p,AI p];rfl
 ·rw[AG p,AG p,div_eq p]
  split<;>rfl
def Yj(h:CA g m)(hb:g.byte=99):Qy g m=A4 g m:=by
 rw[Ag h hb]
 exists Qy
def UL(h:CA g m)(hb:g.byte=100):NQ g m=A4 g m:=by
 rw[Ag h hb]
 exists NQ
 refine Ae fun a s e=>?_
 rw[AB6]
def Zq(h:CA g m)(hb:g.byte=101):XX g m=A4 g m:=by
 rw[Ag h hb]
 exists XX
def Xy(h:CA g m)(hb:g.byte=102):UH g m=A4 g m:=by
 rw[Ag h hb]
 exists UH
 rfl
def fY(h:CA g m)(hb:g.byte=103):fV g m=A4 g m:=by
 rw[Ag h hb]
 exists fV
 rfl
def P7(h:CA g m)(hb:g.byte=139):JU g m=A4 g m:=by
 rw[Ag h hb]
 exists JU
def QU(h:CA g m)(hb:g.byte=140):KY g m=A4 g m:=by
 rw[Ag h hb]
 exists KY
 refine Ae fun a s e=>Ae fun a2 s2 e2=>SE ?_
 by_cases p:a2<a
 ·rw[AI p,AG<|by lia]
 ·rw[AG p]
  split<;>lia
def Pd(h:CA g m)(hb:g.byte=104):CV g m=A4 g m:=by
 rw[Ag h hb]
 exists CV
def P1(h:CA g m)(hb:g.byte=105):CV g m=A4 g m:=by
 rw[Ag h hb]
 exists CV
def P4(h:CA g m)(hb:g.byte=106):CV g m=A4 g m:=by
 rw[Ag h hb]
 exists CV
def P5(h:CA g m)(hb:g.byte=107):CV g m=A4 g m:=by
 rw[Ag h hb]
 exists CV
def UD(h:CA g m)(hb:g.byte=108):Dt g m=A4 g m:=by
 rw[Ag h hb]
 exists Dt
def Uj(h:CA g m)(hb:g.byte=109):Dt g m=A4 g m:=by
 rw[Ag h hb]
 exists Dt
def Ua(h:CA g m)(hb:g.byte=110):Dt g m=A4 g m:=by
 rw[Ag h hb]
 exists Dt
def Tr(h:CA g m)(hb:g.byte=111):Dt g m=A4 g m:=by
 rw[Ag h hb]
 exists Dt
def Vc(h:CA g m)(hb:g.byte=75):Hf g m=A4 g m:=by
 rw[Ag h hb]
 exists Hf
def VI(h:CA g m)(hb:g.byte=76):Hf g m=A4 g m:=by
 rw[Ag h hb]
 exists Hf
def Ta(h:CA g m)(hb:g.byte=136):Ni g m=A4 g m:=by
 rw[Ag h hb]
 exists Ni
 refine Ae fun a s e=>?_
 by_cases p:a%2=1
 ·rw[AI p,AI p]
 ·rw[AG p,AG p]
end
section
variable{g:B4}{m:Ht.M}{b:Nat}
def HP{F:Nat->Nat->Ht.R Ht.M}:wi x n (fun i=>wi y k fun j=>F i j)=wi y k fun j=>wi x n fun i=>F i j:=by
 by_cases e:Ht.unsigned x<n<;>by_cases e':Ht.unsigned y<k
 ·rw[Eb e,Eb e',Eb e',Eb e]
 ·rw[Eb e,F_<|by lia,F_<|by lia]
 ·rw[F_<|by lia,Eb e',F_<|by lia]
 ·rw[F_<|by lia,F_<|by lia]
def N3(h:t=decide (AD g.byte%2=1)):Ht.direction t x=LO g x:=by
 obtain⟨a,b⟩:=x
 unfold Ht.direction LO
 subst h
 by_cases z:(a,b)=((0:Int),(0:Int))
 ·rw[AI z]
  have z1:=BL Prod.fst z
  have z2:=BL Prod.snd z
  subst z1 z2
  split<;>rfl
 ·rw[AG z]
  by_cases e:AD g.byte%2=1
  ·rw[AI<|Av e,AI e]
  ·rw[AG<|by simpa using e,AG e]
def yC:(kI k=1)=(k= .size):=by cases k<;>simp[kI]
def gt0:((0:Int)<AD ((BO n).map fun j=>V.ref j).length)=(0<n):=by rw[A8,CO];exact MI BQ
def qI(hf: ∀ k,256<=k->(m.funs.find? fun x=>x.1==k)=none)(hl:m.going.length<=8):Zy g m n f=m.call n f:=by
 unfold Zy Ht.M.call Ht.funOf
 by_cases e:Ht.unsigned f<256
 ·rw[Eb e]
  cases hq:(m.funs.find? fun x=>x.1==Ht.unsigned f)with
  | none=>rfl
  | some x=>
   show(if n<1 then _ else if AD m.going.length=8 then _ else _)=(if n<1 then _ else _)
   by_cases p:n<1
   ·rw[AI p,AI p]
   ·rw[AG p,AG p]
    by_cases q:8<=m.going.length
    ·rw[AI<|show Ht.DEPTH<=m.going.length from q,AI<|by rw[show m.going.length=8 by lia];rfl]
     rfl
    ·rw[AG<|show ¬ Ht.DEPTH<=m.going.length from q,AG fun z=>q (by have z':m.going.length=8:=B7 z;rw[z'];exact BS _)]
 ·rw[F_<|by lia,hf _<|by lia]
  rfl
local macro_rules | `(tactic| exists $f) => `(tactic| ((first | refine .trans ?_ xb.symm | refine .trans ?_ on2.symm | refine .trans ?_ TJ.symm | refine .trans ?_ Js.symm | refine .trans ?_ JZ.symm | skip); simp only [$f:term, List.getD_cons_zero, List.getD_cons_succ, Js, JZ, YN, Eh, Cf, Rg, WA, Vy, Bq]))
def ZD(h:CA g m)(hb:g.byte=0):Cm g m=A4 g m:=by
 rw[A2 h hb]
 exists Cm
 rw[hb]
 rfl
def ZM(h:CA g m)(hb:g.byte=1):Cm g m=A4 g m:=by
 rw[A2 h hb]
 exists Cm
 rw[hb]
 rfl
def ZS(h:CA g m)(hb:g.byte=2):Cm g m=A4 g m:=by
 rw[A2 h hb]
 exists Cm
 rw[hb]
 rfl
def ZC(h:CA g m)(hb:g.byte=3):Cm g m=A4 g m:=by
 rw[A2 h hb]
 exists Cm
 rw[hb]
 rfl
def Zj(h:CA g m)(hb:g.byte=4):Cm g m=A4 g m:=by
 rw[A2 h hb]
 exists Cm
 rw[hb]
 rfl
def Zc(h:CA g m)(hb:g.byte=5):Cm g m=A4 g m:=by
 rw[A2 h hb]
 exists Cm
 rw[hb]
 rfl
def Ue(h:CA g m)(hb:g.byte=6):Ct g m=A4 g m:=by
 rw[A2 h hb]
 exists Ct
 rw[hb]
 refine Ae fun a s e=>Ae fun a2 s2 e2=>?_
 refine BB fun p1=>BB fun p2=>?_
 rw[N3<|by rw[hb];rfl]
 rfl
def UB(h:CA g m)(hb:g.byte=7):Ct g m=A4 g m:=by
 rw[A2 h hb]
 exists Ct
 rw[hb]
 refine Ae fun a s e=>Ae fun a2 s2 e2=>?_
 refine BB fun p1=>BB fun p2=>?_
 rw[N3<|by rw[hb];rfl]
 rfl
def T8(h:CA g m)(hb:g.byte=8):Ct g m=A4 g m:=by
 rw[A2 h hb]
 exists Ct
 rw[hb]
 refine Ae fun a s e=>Ae fun a2 s2 e2=>?_
 refine BB fun p1=>BB fun p2=>?_
 rw[N3<|by rw[hb];rfl]
 rfl
def UX(h:CA g m)(hb:g.byte=9):Ct g m=A4 g m:=by
 rw[A2 h hb]
 exists Ct
 rw[hb]
 refine Ae fun a s e=>Ae fun a2 s2 e2=>?_
 refine BB fun p1=>BB fun p2=>?_
 rw[N3<|by rw[hb];rfl]
 rfl
def Lk(h:CA g m)(hb:g.byte=134):Dl g m=A4 g m:=by
 rw[A2 h hb]
 exists Dl
 refine Ae fun a s e=>Ae fun a2 s2 e2=>?_
 rw[HP]
 refine BB fun p1=>BB fun p2=>?_
 rw[N3<|by rw[hb];rfl,N3<|by rw[hb];rfl]
 rfl
def Lx(h:CA g m)(hb:g.byte=135):Dl g m=A4 g m:=by
 rw[A2 h hb]
 exists Dl
 refine Ae fun a s e=>Ae fun a2 s2 e2=>?_
 rw[HP]
 refine BB fun p1=>BB fun p2=>?_
 rw[N3<|by rw[hb];rfl,N3<|by rw[hb];rfl]
 rfl
def OP(h:CA g m)(hb:g.byte=10):D4 g m=A4 g m:=by
 rw[A2 h hb]
 exists D4
 rw[hb]
 refine Ae fun a s e=>Ae fun a2 s2 e2=>?_
 rfl
def NL(h:CA g m)(hb:g.byte=11):D4 g m=A4 g m:=by
 rw[A2 h hb]
 exists D4
 rw[hb]
 refine Ae fun a s e=>Ae fun a2 s2 e2=>?_
 rfl
def RJ(h:CA g m)(hb:g.byte=12):E2 g m=A4 g m:=by
 rw[A2 h hb]
 exists E2
 rw[hb]
 rfl
def Ru(h:CA g m)(hb:g.byte=13):E2 g m=A4 g m:=by
 rw[A2 h hb]
 exists E2
 rw[hb]
 rfl
def LA(h:CA g m)(hb:g.byte=14):IQ g m=A4 g m:=by
 rw[A2 h hb]
 rfl
def Pb(h:CA g m)(hb:g.byte=16):C7 g m=A4 g m:=by
 rw[A2 h hb]
 exists C7
 rw[hb]
 rfl
def Pq(h:CA g m)(hb:g.byte=17):C7 g m=A4 g m:=by
 rw[A2 h hb]
 exists C7
 rw[hb]
 rfl
def Pt(h:CA g m)(hb:g.byte=18):C7 g m=A4 g m:=by
 rw[A2 h hb]
 exists C7
 rw[hb]
 rfl
def R6(h:CA g m)(hb:g.byte=19):Dy g m=A4 g m:=by
 rw[A2 h hb]
 exists Dy
 rw[hb]
 rfl
def TQ(h:CA g m)(hb:g.byte=20):Dy g m=A4 g m:=by
 rw[A2 h hb]
 exists Dy
 rw[hb]
 rfl
def SJ(h:CA g m)(hb:g.byte=21):Dy g m=A4 g m:=by
 rw[A2 h hb]
 exists Dy
 rw[hb]
 rfl
def L9(h:CA g m)(hb:g.byte=22):Fc g m=A4 g m:=by
 rw[A2 h hb]
 exists Fc
def Xi(h:CA g m)(hb:g.byte=23):Qi g m=A4 g m:=by
 rw[A2 h hb]
 exists Qi
 refine Ae fun a s e=>?_
 by_cases p:a<1
 ·rw[AI p,AI<|.inl p];rfl
 ·rw[AG p]
  by_cases q:65535<a
  ·rw[AI q,AI<|.inr q];rfl
  ·rw[AG q,AG<|by rintro(z | z)<;>contradiction]
def QZ(h:CA g m)(hb:g.byte=24):Br g m=A4 g m:=by
 rw[A2 h hb]
 exists Br
 rw[hb]
 rfl
def Ql(h:CA g m)(hb:g.byte=25):Br g m=A4 g m:=by
 rw[A2 h hb]
 exists Br
 rw[hb]
 rfl
def QV(h:CA g m)(hb:g.byte=61):Br g m=A4 g m:=by
 rw[A2 h hb]
 exists Br
 rw[hb]
 rfl
def Pu(h:CA g m)(hb:g.byte=125):Br g m=A4 g m:=by
 rw[A2 h hb]
 exists Br
 rw[hb]
 rfl
def Ph(h:CA g m)(hb:g.byte=124):Br g m=A4 g m:=by
 rw[A2 h hb]
 exists Br
 rw[hb]
 rfl
def Pp(h:CA g m)(hb:g.byte=122):Br g m=A4 g m:=by
 rw[A2 h hb]
 exists Br
 rw[hb]
 rfl
def Io(h:CA g m)(hb:g.byte=118):CW g m=A4 g m:=by
 rw[A2 h hb]
 exists CW
 rw[hb]
 refine Ae fun a s e=>?_
 rfl
def Ik(h:CA g m)(hb:g.byte=119):CW g m=A4 g m:=by
 rw[A2 h hb]
 exists CW
 rw[hb]
 refine Ae fun a s e=>?_
 rfl
def Vj(h:CA g m)(hb:g.byte=26):Nh g m=A4 g m:=by
 rw[A2 h hb]
 exists Nh
def Uc(h:CA g m)(hb:g.byte=29):MM g m=A4 g m:=by
 rw[A2 h hb]
 exists MM
def Mc(h:CA g m)(hb:g.byte=30):Fe g m=A4 g m:=by
 rw[A2 h hb]
 exists Fe
def Ve(h:CA g m)(hb:g.byte=31):OR g m=A4 g m:=by
 rw[A2 h hb]
 exists OR
 rfl
def XS(h:CA g m)(hb:g.byte=77):JS g m=A4 g m:=by
 rw[A2 h hb]
 exists JS
 rw[hb]
 rfl
def Xm(h:CA g m)(hb:g.byte=78):JS g m=A4 g m:=by
 rw[A2 h hb]
 exists JS
 rw[hb]
 rfl
def Nc(h:CA g m)(hb:g.byte=94):HB g m=A4 g m:=by
 rw[A2 h hb]
 exists HB
def NC(h:CA g m)(hb:g.byte=95):GU g m=A4 g m:=by
 rw[A2 h hb]
 exists GU
 refine Ae fun a s e=>?_
 by_cases p:a<0
 ·rw[AI p,AI<|.inl p];rfl
 ·rw[AG p]
  by_cases q:6<a
  ·rw[AI q,AI<|.inr q];rfl
  ·rw[AG q,AG<|by rintro(z | z)<;>contradiction]
def M8(h:CA g m)(hb:g.byte=142):G7 g m=A4 g m:=by
 rw[A2 h hb]
 exists G7
 refine Ae fun a s e=>Ae fun a2 s2 e2=>?_
 simp only[yC]
 by_cases p:g.kind= .size
 ·by_cases q1:a=1
  ·subst q1
   by_cases q2:a2=0
   ·simp[p,q2]
   ·simp[p,q2]
  ·by_cases q3:a=2
   ·subst q3
    by_cases q2:a2=0
    ·simp[p,q2]
    ·simp[p,q2]
   ·by_cases q2:a2=0
    ·simp[p,q1,q2,q3]
    ·simp[p,q1,q2,q3]
 ·by_cases q2:a2=0
  ·simp[p,q2]
  ·simp[p,q2]
def Qg(h:CA g m)(hb:g.byte=88):Iw g m=A4 g m:=by
 rw[Cu h hb (by decide)<|by decide]
 exists Iw
 refine Ae fun a s e=>?_
 by_cases p:a=0
 ·rw[AI p,AG<|by simpa using p]
 ·rw[AG p,AI p]
def Lj(h:CA g m)(hb:g.byte=27):JC g m=A4 g m:=by
 rw[Cu h hb (by decide)<|by decide]
 rfl
def T3(h:CA g m)(hb:g.byte=89):Sz g m=A4 g m:=by
 rw[Cu h hb (by decide)<|by decide]
 rfl
def kK(h:CA g m)(hb:g.byte=28):kP g m=A4 g m:=by
 rw[Cu h hb (by decide)<|by decide]
 exists kP
 refine Ae fun a s e=>?_
 have gq:xi g (Bs m<|s) (AD g.place+a)=Ht.M.goTo (Bs m<|s) (codeB g m.inFont) (AD g.place+a):=by
  unfold xi Ht.M.goTo
  rw[show codeB g (Ht.M.inFont<|Bs m<|s)=codeB g m.inFont from rfl,E8]
  by_cases p1:AD g.place+a<0
  ·rw[AI p1,AI<|.inl p1];rfl
  ·rw[AG p1]
   by_cases p2:AD (codeB g m.inFont).length<AD g.place+a
   ·rw[AI p2,AI<|.inr p2];rfl
   ·rw[AG p2,AG<|by rintro(z | z)<;>contradiction]
 exact gq
def YA(h:CA g m)(hb:g.byte=120):Kv g m=A4 g m:=by
 rw[Cu h hb (by decide)<|by decide]
 exists Kv
 rw[hb]
 refine Ae fun a s e=>Ae fun a2 s2 e2=>?_
 have gq:xi g (Bs m<|s2) (AD g.place+a2)=Ht.M.goTo (Bs m<|s2) (codeB g m.inFont) (AD g.place+a2):=by
  unfold xi Ht.M.goTo
  rw[show codeB g (Ht.M.inFont<|Bs m<|s2)=codeB g m.inFont from rfl,E8]
  by_cases p1:AD g.place+a2<0
  ·rw[AI p1,AI<|.inl p1];rfl
  ·rw[AG p1]
   by_cases p2:AD (codeB g m.inFont).length<AD g.place+a2
   ·rw[AI p2,AI<|.inr p2];rfl
   ·rw[AG p2,AG<|by rintro(z | z)<;>contradiction]
 by_cases p:a=0
 ·subst p
  rw[AG<|by decide,AG<|by simp]
 ·have d:decide (V.int a=V.int 0)=false:=by rw[KI];simpa using p
  rw[d]
  rw[AI<|by decide,AI p];exact gq
def Xe(h:CA g m)(hb:g.byte=121):Kv g m=A4 g m:=by
 rw[Cu h hb (by decide)<|by decide]
 exists Kv
 rw[hb]
 refine Ae fun a s e=>Ae fun a2 s2 e2=>?_
 have gq:xi g (Bs m<|s2) (AD g.place+a2)=Ht.M.goTo (Bs m<|s2) (codeB g m.inFont) (AD g.place+a2):=by
  unfold xi Ht.M.goTo
  rw[show codeB g (Ht.M.inFont<|Bs m<|s2)=codeB g m.inFont from rfl,E8]
  by_cases p1:AD g.place+a2<0
  ·rw[AI p1,AI<|.inl p1];rfl
  ·rw[AG p1]
   by_cases p2:AD (codeB g m.inFont).length<AD g.place+a2
   ·rw[AI p2,AI<|.inr p2];rfl
   ·rw[AG p2,AG<|by rintro(z | z)<;>contradiction]
 by_cases p:a=0
 ·subst p
  rw[AI<|by decide,AI rfl];exact gq
 ·have d:decide (V.int a=V.int 0)=false:=by rw[KI];simpa using p
  rw[d,AG<|by decide,AG p]
def fX(h:CA g m)(hb:g.byte=44)(hk:g.kind= .font):OG g m=A4 g m:=by
 rw[Cu h hb (by decide)<|by decide]
 exists OG
 rw[hk]
 rw[AI<|show kI Ht.Kind.font=0 from rfl]
 refine Ae fun a s e=>BB fun p=>?_
 by_cases q:0<m.going.length
 ·refine(AI<|by rw[gt0];exact q).trans (AI ?_).symm
  cases hg:m.going with
  | nil=>rw[hg]at q;cases q
  | cons y l=>rfl
 ·refine(AG<|by rw[gt0];exact q).trans (AG ?_).symm
  cases hg:m.going with
  | nil=>simp
  | cons y l=>rw[hg]at q;exact absurd (Oj _) q
theorem Q6(h:CA g m)(hb:g.byte=45):Ed g m=A4 g m:=by
 rw[Cu h hb (by decide)<|by decide]
 unfold Ht.through Ed
 cases hg:m.going with
 | nil=>rfl
 | cons y l=>
  show(if 0<y.left-1 then _ else _)=G1 (if 1<y.left then _ else _)
  by_cases p:0<y.left-1
  ·rw[AI p,AI<|by lia]
  ·rw[AG p,AG<|by lia]
def VL(h:CA g m)(hb:g.byte=43)(hf: ∀ k,256<=k->(m.funs.find? fun x=>x.1==k)=none)(hl:m.going.length<=8):NN g m=A4 g m:=by
 rw[Cu h hb (by decide)<|by decide]
 exists NN
 exact Ae fun a s e=>qI hf hl
def UR(h:CA g m)(hb:g.byte=42)(hf: ∀ k,256<=k->(m.funs.find? fun x=>x.1==k)=none)(hl:m.going.length<=8):Lo g m=A4 g m:=by
 rw[Cu h hb (by decide)<|by decide]
 exists Lo
 exact Ae fun a s e=>Ae fun a2 s2 e2=>qI hf hl
theorem find_none(h:ZP BU funs)(hk:256<=k):(funs.find? fun x=>x.1==k)=none:=by
 have q:=h.2.2.2 k
 cases e:(BU.find? fun kv=>decide (kv.1=II (AD k)))with
 | none=>
  rw[e]at q
  cases e2:(funs.find? fun x=>x.1==k)with
  | none=>rfl
  | some x=>rw[e2]at q;cases q
 | some p=>
  obtain⟨n,j,hn,hp⟩:=h.2.2.1 p<|Vr e
  have e3:=qO e
  rw[hp]at e3
  lia
end
section
variable{g:B4}{m:Ht.M}{b:Nat}{k p:Nat}{q:Ht.Pos}{d:Int}{t:Bool}
def RA:(m.put k p q).z0=m.z0:=by unfold Ht.M.put Ht.M.setZone;dsimp only;split<;>rfl
def XO:(m.put k p q).z1=m.z1:=by unfold Ht.M.put Ht.M.setZone;dsimp only;split<;>rfl
def vF:(m.put k p q).r0=m.r0:=by unfold Ht.M.put Ht.M.setZone;dsimp only;split<;>rfl
def bf:(m.move k p d).z0=m.z0:=by unfold Ht.M.move Ht.M.shift Ht.M.setZone;dsimp only;split<;>rfl
def zX:(m.move k p d).z1=m.z1:=by unfold Ht.M.move Ht.M.shift Ht.M.setZone;dsimp only;split<;>rfl
def yn:(m.move k p d).z2=m.z2:=by unfold Ht.M.move Ht.M.shift Ht.M.setZone;dsimp only;split<;>rfl
def zQ:(m.move k p d).r0=m.r0:=by unfold Ht.M.move Ht.M.shift Ht.M.setZone;dsimp only;split<;>rfl
def x_:(m.shift t k p q).F=m.F:=by unfold Ht.M.shift Ht.M.setZone;dsimp only;split<;>rfl
def tm:(AD n=0)=(n=0):=MI ⟨fun h=>B7 h,fun h=>by rw[h];rfl⟩
def zp0:zp m 0=m.z0:=rfl
def zp1:zp m 1=m.z1:=rfl
def zp2:zp m 2=m.z2:=rfl
def rp0:rp m 0=m.r0:=rfl
def rp1:rp m 1=m.r1:=rfl
def rp2:rp m 2=m.r2:=rfl
def dM{a b c:Int}:(c<(if a-b<0 then-(a-b)else a-b))=(Ht.farther a b c=true):=by unfold Ht.farther;rw[AB6,MK]
def jF(n:Ht.M)(z j:Nat)(c p:Int):(if n.kept.cutin<(if c-n.now1 z j<0 then-(c-n.now1 z j)else c-n.now1 z j)then(G1 {n.move z j (n.round (n.now1 z j)-n.now1 z j)with r0:=p,r1:=p}:Ht.R Ht.M)else .ok {n.move z j (n.round c-n.now1 z j)with r0:=p,r1:=p})= .ok {n.move z j (n.round (if Ht.farther c (n.now1 z j) n.kept.cutin=true then n.now1 z j else c)-n.now1 z j)with r0:=p,r1:=p}:=by
 by_cases w:Ht.farther c (n.now1 z j) n.kept.cutin=true
 ·rw[AI<|by rw[dM];exact w,AI w]
 ·rw[AG<|by rw[dM];exact w,AG w]
def AET: ∀ b:Fin 256,(De (AD b.val) 4=0)↔ ¬ b.val/4%2=1:=by decide+kernel
def AFX: ∀ b:Fin 256,(De (AD b.val) 8=0)↔ ¬ b.val/8%2=1:=by decide+kernel
def AD1: ∀ b:Fin 256,(!decide (V.int (De (AD b.val) 16)=V.int 0))=(b.val/16%2==1):=by decide+kernel
def bz(hb:g.byte=b)(hl:b<256){p o d:Int}(h1:Ht.unsigned p<(n.zone n.z1).size)(h2:Ht.unsigned n.r0<(n.zone n.z0).size):
  Ho g n p o d= .ok ((n.move n.z1 (Ht.unsigned p)<|(if b/8%2=1 then n.leastOf o d else d)-n.now2 n.z1 (Ht.unsigned p) n.z0 (Ht.unsigned n.r0)).after p<|b/16%2==1):=by
 unfold Ho
 rw[hb]
 have e8:=AFX ⟨b,hl⟩
 have e16:=AD1 ⟨b,hl⟩
 dsimp only at e8 e16
 simp only[zp0,zp1,rp0]
 by_cases q:b/8%2=1
 ·rw[AG fun z=>e8.mp z q,AI q,Eb h1,Eb h2,e16]
  rfl
 ·rw[AI<|e8.mpr q,AG q,Eb h1,Eb h2,e16]
def Zt: ∀ b,192<=b->b<=223->Ht.points m b=Ht.direct m b:=by
 intro b h1 h2
 obtain⟨i,rfl⟩:=mM h1
 have h3:i<32:=by lia
 clear h1 h2
 iterate 32 (rcases i with _ | i;· rfl)
 exact absurd h3<|by lia
def Vk: ∀ b,224<=b->b<=255->Ht.points m b=Ht.indirect m b:=by
 intro b h1 h2
 obtain⟨i,rfl⟩:=mM h1
 have h3:i<32:=by lia
 clear h1 h2
 iterate 32 (rcases i with _ | i;· rfl)
 exact absurd h3<|by lia
def AAg: ∀ b:Fin 256,192<=b.val->Qk b.val=true/\Ht.isThrough b.val=false/\Ht.isReckon b.val=false/\Ht.isSet b.val=false:=by decide+kernel
local macro_rules | `(tactic| exists $f) => `(tactic| ((first | refine .trans ?_ xb.symm | refine .trans ?_ on2.symm | refine .trans ?_ TJ.symm | refine .trans ?_ Js.symm | refine .trans ?_ JZ.symm | skip); simp only [$f:term, List.getD_cons_zero, List.getD_cons_succ, Js, JZ, YN, Eh, Cf, Rg, WA, Vy, Bq, zp0, zp1, zp2, rp0, rp1, rp2]))
def Pg(h:CA g m)(hb:g.byte=b)(h1:192<=b)(h2:b<=223):FT g m=A4 g m:=by
 have hl:b<256:=by lia
 obtain⟨q1,q2,q3,q4⟩:=AAg ⟨b,hl⟩ h1
 rw[BE h hb q1 q2 q3 q4,Zt b h1 h2]
 have e4:=AET ⟨b,hl⟩
 dsimp only at e4
 simp only[FT,Ht.direct,lR,Cf,Rg,hb]
 refine Ae fun a s e=>?_
 rw[HP]
 refine BB fun p1=>BB fun p2=>?_
 simp only[zp0,zp1,rp0]at p1 p2 ⊢
 by_cases q:b/4%2=1
 ·rw[AG fun z=>e4.mp z q,bz hb hl p2 p1,AI q]
 ·rw[AI<|e4.mpr q,bz hb hl p2 p1,AG q]
def ABm:Rx n c e=n.round (if n.z0=n.z1/\Ht.farther c e n.kept.cutin=true then e else c):=by
 unfold Rx
 congr 1
 have e1:(AD n.z0=AD n.z1)=(n.z0=n.z1):=MI ⟨fun h=>B7 h,fun h=>by rw[h]⟩
 simp only[e1]
 by_cases p:n.z0=n.z1
 ·rw[AI p]
  by_cases w:Ht.farther c e n.kept.cutin=true
  ·rw[AI<|by rw[dM];exact w,AI ⟨p,w⟩]
  ·rw[AG<|by rw[dM];exact w,AG fun z=>w z.2]
 ·rw[AG p,AG fun z=>p z.1]
def ACd{n:Ht.M}:(bI n.kept.flip=1)=(n.kept.flip=true):=by unfold bI;cases n.kept.flip<;>simp
def QH(hb:g.byte=b)(hl:b<256){p c e:Int}(h1:Ht.unsigned p<(n.zone n.z1).size)(h2:Ht.unsigned n.r0<(n.zone n.z0).size):
  (if bI n.kept.flip=1 then(if decide (e<0)=decide (c<0)then(if De (AD b) 4=0 then Ho g n p e c else Ho g n p e (Rx n c e))else(if De (AD b) 4=0 then Ho g n p e (Ht.cut<|-c)else Ho g n p e (Rx n (Ht.cut<|-c) e)))else(if De (AD b) 4=0 then Ho g n p e c else Ho g n p e (Rx n c e)))=
  (let c:=if n.kept.flip=true/\(decide (e<0))≠(decide (c<0))then Ht.cut (-c)else c
   let c:=if b/4%2=1 then n.round (if n.z0=n.z1/\Ht.farther c e n.kept.cutin=true then e else c)else c
   let c:=if b/8%2=1 then n.leastOf e c else c
   .ok ((n.move n.z1 (Ht.unsigned p)<|c-n.now2 n.z1 (Ht.unsigned p) n.z0 (Ht.unsigned n.r0)).after p<|b/16%2==1)):=by
 have e4:=AET ⟨b,hl⟩
 dsimp only at e4 ⊢
 simp only[ACd,bz hb hl h1 h2,ABm]
 have fin: ∀ x:Int,(if n.kept.flip=true/\(decide (e<0))≠(decide (c<0))then Ht.cut (-c)else c)=x->(if De (AD b) 4=0 then(G1 ((n.move n.z1 (Ht.unsigned p)<|(if b/8%2=1 then n.leastOf e x else x)-n.now2 n.z1 (Ht.unsigned p) n.z0 (Ht.unsigned n.r0)).after p<|b/16%2==1):Ht.R Ht.M)else G1 ((n.move n.z1 (Ht.unsigned p)<|(if b/8%2=1 then n.leastOf e (n.round<|if n.z0=n.z1/\Ht.farther x e n.kept.cutin=true then e else x)else n.round (if n.z0=n.z1/\Ht.farther x e n.kept.cutin=true then e else x))-n.now2 n.z1 (Ht.unsigned p) n.z0 (Ht.unsigned n.r0)).after p<|b/16%2==1))=G1 ((n.move n.z1 (Ht.unsigned p)<|(if b/8%2=1 then n.leastOf e (if b/4%2=1 then n.round (if n.z0=n.z1/\Ht.farther (if n.kept.flip=true/\(decide (e<0))≠(decide (c<0))then Ht.cut (-c)else c) e n.kept.cutin=true then e else(if n.kept.flip=true/\(decide (e<0))≠(decide (c<0))then Ht.cut (-c)else c))else(if n.kept.flip=true/\(decide (e<0))≠(decide (c<0))then Ht.cut (-c)else c))else(if b/4%2=1 then n.round (if n.z0=n.z1/\Ht.farther (if n.kept.flip=true/\(decide (e<0))≠(decide (c<0))then Ht.cut (-c)else c) e n.kept.cutin=true then e else(if n.kept.flip=true/\(decide (e<0))≠(decide (c<0))then Ht.cut (-c)else c))else(if n.kept.flip=true/\(decide (e<0))≠(decide (c<0))then Ht.cut (-c)else c)))-n.now2 n.z1 (Ht.unsigned p) n.z0 (Ht.unsigned n.r0)).after p<|b/16%2==1):=fun x ex=>by
  rw[ex]
  by_cases q:b/4%2=1
  ·rw[AG fun z=>e4.mp z q]
   simp only[q,D6]
  ·rw[AI<|e4.mpr q]
   simp only[q,FJ]
 by_cases f:n.kept.flip=true
 ·by_cases d:decide (e<0)=decide (c<0)
  ·refine WE ?_ (fin c<|AG fun z=>z.2 d)
   rw[AI f,AI d]
  ·refine WE ?_ (fin (Ht.cut<|-c)<|AI ⟨f,d⟩)
   rw[AI f,AG d]
 ·refine WE ?_ (fin c<|AG fun z=>f z.1)
  rw[AG f]
def RH(h:CA g m)(hg:m.z0<2/\m.z1<2)(hb:g.byte=b)(h1:224<=b)(h2:b<=255):Gf g m=A4 g m:=by
 have hl:b<256:=by lia
 obtain⟨q1,q2,q3,q4⟩:=AAg ⟨b,hl⟩<|by show 192<=b;lia
 rw[BE h hb q1 q2 q3 q4,Vk b h1 h2]
 simp only[Gf,Ht.indirect,ACa,Cf,Rg,Eh,Bq,hb]
 refine Ae fun a s e=>Ae fun a2 s2 e2=>?_
 have sw: ∀{x y w:Int} {n k l:Nat} {F:Nat->Nat->Nat->Ht.R Ht.M},wi x n (fun i=>wi y k fun j=>wi w l fun r=>F i j r)=wi w l fun r=>wi y k fun j=>wi x n fun i=>F i j r:=fun{x y w n k l F}=>by
  rw[HP]
  simp only[HP (x:=x) (y:=w)]
  rw[HP]
 rw[sw]
 refine BB fun p1=>BB fun p2=>BB fun p3=>?_
 simp only[zp0,zp1,rp0,tm]at p1 p2 p3 ⊢
 by_cases z:m.z1=0
 ·simp only[AI z,RA,XO]
  have it:=QH (n:=Ht.M.put (Bs m<|s2) m.z1 (Ht.unsigned a2)<|Ht.plus ((Ht.M.zone (Bs m<|s2) m.z0).was<|Ht.unsigned m.r0)<|Ht.times (Ht.M.single (Bs m<|s2)<|m.values.getD (Ht.unsigned a) 0) m.F) hb hl (p:=a2) (c:=Ht.M.single (Bs m<|s2)<|m.values.getD (Ht.unsigned a) 0) (e:=Ht.M.old2 (Ht.M.put (Bs m<|s2) m.z1 (Ht.unsigned a2)<|Ht.plus ((Ht.M.zone (Bs m<|s2) m.z0).was<|Ht.unsigned m.r0)<|Ht.times (Ht.M.single (Bs m<|s2)<|m.values.getD (Ht.unsigned a) 0) m.F) m.z1 (Ht.unsigned a2) m.z0<|Ht.unsigned m.r0)
   (by simp only[XO];rw[XR (by exact hg.2)<|by exact hg.2];exact p2) (by simp only[RA,vF];rw[XR (by exact hg.2)<|by exact hg.1];exact p1)
  simp only[RA,XO,vF]at it
  exact it
 ·simp only[AG z]
  exact QH hb hl p2 p1
def M_(h:CA g m)(hb:g.byte=70):Dp g m=A4 g m:=by
 rw[BE h hb]
 exists Dp
 rw[hb]
 rfl
def M7(h:CA g m)(hb:g.byte=71):Dp g m=A4 g m:=by
 rw[BE h hb]
 exists Dp
 rw[hb]
 rfl
def Ng(h:CA g m)(hb:g.byte=72):Gx g m=A4 g m:=by
 rw[BE h hb]
 exists Gx
 refine Ae fun a s e=>Ae fun a2 s2 e2=>BB fun p1=>?_
 simp only[yn,tm]
 split<;>rfl
def P6(h:CA g m)(hb:g.byte=73):EI g m=A4 g m:=by
 rw[BE h hb]
 exists EI
 rw[hb]
 rfl
def Pw(h:CA g m)(hb:g.byte=74):EI g m=A4 g m:=by
 rw[BE h hb]
 exists EI
 rw[hb]
 rfl
def Zf(h:CA g m)(hb:g.byte=41):Ub g m=A4 g m:=by
 rw[BE h hb]
 exists Ub
def N0(h:CA g m)(hb:g.byte=46):D3 g m=A4 g m:=by
 rw[BE h hb]
 exists D3
 rw[hb]
 refine Ae fun a s e=>BB fun p1=>?_
 rw[AG<|by decide,Int.sub_self]
def N1(h:CA g m)(hb:g.byte=47):D3 g m=A4 g m:=by
 rw[BE h hb]
 exists D3
 rw[hb]
 rfl
def M9(h:CA g m)(hb:g.byte=62):Ds g m=A4 g m:=by
 rw[BE h hb]
 exists Ds
 rw[hb]
 refine Ae fun a s e=>Ae fun a2 s2 e2=>?_
 rw[HP]
 refine BB fun p1=>BB fun p2=>?_
 simp only[tm]
 by_cases z:m.z0=0
 ·rw[AI z,AI z,AG<|by decide]
  simp only[RA]
 ·rw[AG z,AG z,AG<|by decide]
def ND(h:CA g m)(hb:g.byte=63):Ds g m=A4 g m:=by
 rw[BE h hb]
 exists Ds
 rw[hb]
 refine Ae fun a s e=>Ae fun a2 s2 e2=>?_
 rw[HP]
 refine BB fun p1=>BB fun p2=>?_
 simp only[tm]
 by_cases z:m.z0=0
 ·rw[AI z,AI z,AI<|by decide]
  simp only[RA]
  exact jF (Ht.M.put (Bs m<|s2) m.z0 (Ht.unsigned a2)<|Ht.times (m.values.getD (Ht.unsigned a) 0) m.F) m.z0 (Ht.unsigned a2) (m.values.getD (Ht.unsigned a) 0) a2
 ·rw[AG z,AG z,AI<|by decide]
  exact jF (Bs m<|s2) m.z0 (Ht.unsigned a2) (m.values.getD (Ht.unsigned a) 0) a2
def L7(h:CA g m)(hb:g.byte=58):DP g m=A4 g m:=by
 rw[BE h hb]
 exists DP
 rw[hb]
 refine Ae fun a s e=>Ae fun a2 s2 e2=>?_
 rw[HP]
 refine BB fun p1=>BB fun p2=>?_
 simp only[tm]
 by_cases z:m.z1=0
 ·rw[AI z,AI z]
  simp only[RA,XO]
  rfl
 ·rw[AG z,AG z]
  rfl
def Lr(h:CA g m)(hb:g.byte=59):DP g m=A4 g m:=by
 rw[BE h hb]
 exists DP
 rw[hb]
 refine Ae fun a s e=>Ae fun a2 s2 e2=>?_
 rw[HP]
 refine BB fun p1=>BB fun p2=>?_
 simp only[tm]
 by_cases z:m.z1=0
 ·rw[AI z,AI z]
  simp only[RA,XO]
  rfl
 ·rw[AG z,AG z]
  rfl
def VT(h:CA g m)(hb:g.byte=39):NK g m=A4 g m:=by
 rw[BE h hb]
 exists NK
 refine Ae fun a s e=>Ae fun a2 s2 e2=>BB fun p1=>BB fun p2=>?_
 simp only[bf,Ht.down]
end
end GF
end
section
namespace GF
open PySem PySem.Spec PyProof.Rows L2
section
variable{g:B4}{m:Ht.M}{b:Nat}
def Ou(h:m.loop<=m.stack.length->F {m with stack:=m.stack.drop m.loop,loop:=1} (m.stack.take m.loop)=G {m with stack:=m.stack.drop m.loop,loop:=1} (m.stack.take m.loop)):uB m F=uB m G:=by
 unfold uB
 by_cases e:m.stack.length<m.loop
 ·rw[AI e,AI e]
 ·rw[AG e,AG e];exact h<|by lia
def Zz{r:Ht.R α}{f:α->Ht.R β}{h:β->Ht.R Ht.M}:Ht.on (Ht.on r f) h=Ht.on r fun x=>Ht.on (f x) h:=by cases r<;>rfl
theorem SI(I:Ht.M->Prop)(h: ∀ x n F,I n->C x n F=Ht.on (B x n) F)(hp: ∀ x n n',I n->B x n= .ok n'->I n'): ∀ l n,I n->Du C l n .ok=Ht.eachOne B l n
 | [],n,_=>rfl
 | x::l,n,hn=>by
  show C x n (fun m=>Du C l m .ok)=Ht.on (B x n) fun y=>Ht.eachOne B l y
  rw[h x n _ hn]
  cases e:B x n with
  | error q=>rfl
  | ok a=>exact SI I h hp l a<|hp x n a hn e
def Jc(h:CA g m)(hb:g.byte=128):Hk g m=A4 g m:=by
 rw[BE h hb]
 show _=Ht.loopPoints m 0 fun _ _=> .ok fun p m=>Ht.on (m.point 1 p) fun p=> .ok<|m.mark 1 p fun x=>if Ht.has x Ht.ON=true then Ht.lose x Ht.ON else Ht.give x Ht.ON
 rw[TY]
 exact Ou fun e=>oY (fun x m F=>by rw[Cf,jW];rfl) _ _
theorem M5(h:CA g m)(hb:g.byte=56):GR g m=A4 g m:=by
 rw[BE h hb]
 show _=Ht.loopPoints m 1 fun a _=> .ok fun p m=>Ht.on (m.point m.z2 p) fun p=> .ok<|m.shift true m.z2 p<|Ht.times (a.getD 0 0) m.F
 unfold Ht.loopPoints GR tk uB Ht.M.take
 cases e:m.stack with
 | nil=>rw[AI<|by simp only[Wo];lia];rfl
 | cons a s=>
  dsimp only
  by_cases q:s.length<m.loop
  ·rw[AI q,AI<|by simp only[G4];lia];rfl
  ·rw[AG q,AG<|by simp only[G4];lia,Nat.add_comm 1 m.loop]
   refine(SI (fun n=>n.F=m.F) (fun x n F hn=>?_) (fun x n n' hn e=>?_) _ _ rfl)
   ·rw[Cf,jW,<-hn]
    rfl
   ·rw[Cf]at e
    by_cases w:Ht.unsigned x<(n.zone n.z2).size
    ·rw[Eb w]at e
     cases e
     rw[x_];exact hn
    ·rw[F_<|by lia]at e;cases e
def j0(n:Ht.M)(l:List Int)(hl:l≠ [])(hz:n.z0<2/\n.z1<2):Du (fun x m F=>wi x (m.zone<|zp m 1).size fun i=>wi (rp m 0) (m.zone<|zp m 0).size fun j=>F<|m.move (zp m 1) i<|-(m.now2 (zp m 1) i (zp m 0) j)) l n .ok=Ht.on n.ref0 fun r=>Ht.eachOne (fun p m=>Ht.on (m.point m.z1 p) fun p=> .ok<|m.move m.z1 p<|-m.now2 m.z1 p m.z0 r) l n:=by
 rw[Rg]
 by_cases w:Ht.unsigned n.r0<(n.zone n.z0).size
 ·rw[rp0,zp0,Eb w]
  refine SI (fun k=>k.z0=n.z0/\k.z1=n.z1/\k.r0=n.r0/\Ht.unsigned n.r0<(k.zone n.z0).size) (fun x k F hn=>?_) (fun x k n' hn e=>?_) _ _ ⟨rfl,rfl,rfl,w⟩
  ·obtain⟨h1,h2,h3,h4⟩:=hn
   rw[Cf,jW]
   refine BB fun p1=>?_
   rw[rp0,zp0,h3,h1,Eb h4]
   rfl
  ·obtain⟨h1,h2,h3,h4⟩:=hn
   rw[Cf]at e
   by_cases w2:Ht.unsigned x<(k.zone k.z1).size
   ·rw[Eb w2]at e
    cases e
    refine⟨by rw[bf];exact h1,by rw[zX];exact h2,by rw[zQ];exact h3,?_⟩
    rw[aC (by rw[h2];exact hz.2) hz.1]
    exact h4
   ·rw[F_<|by lia]at e;cases e
 ·rw[rp0,zp0,F_<|by lia]
  cases l with
  | nil=>exact absurd rfl hl
  | cons x l=>
   have st: ∀(C:Int->Ht.M->(Ht.M->Ht.R Ht.M)->Ht.R Ht.M),Du C (x::l) n .ok=C x n fun m=>Du C l m .ok:=fun _=>rfl
   rw[st]
   by_cases w2:Ht.unsigned x<(n.zone<|zp n 1).size
   ·refine(Eb w2).trans ?_
    exact F_<|show(n.zone n.z0).size<=Ht.unsigned n.r0 by lia
   ·exact F_<|by lia
def gF(h:CA g m)(hb:g.byte=60)(hl:1<=m.loop)(hz:m.z0<2/\m.z1<2):Gb g m=A4 g m:=by
 rw[BE h hb]
 show _=Ht.loopPoints m 0 fun _ m=>Ht.on m.ref0 fun r=> .ok fun p m=>Ht.on (m.point m.z1 p) fun p=> .ok<|m.move m.z1 p<|-m.now2 m.z1 p m.z0 r
 rw[TY]
 refine Ou fun e=>?_
 rw[Zz]
 exact j0 _ _ (fun z=>by have:=BL WL z;rw[HN,Wo]at this;lia) hz
def k8(h:CA g m)(hb:g.byte=57):Jy g m=A4 g m:=by
 rw[BE h hb]
 show _=Ht.loopPoints m 0 fun _ m=>Ht.on m.ref1 fun a=>Ht.on m.ref2 fun b=>let q:=m.old2 m.z1 b m.z0 a;let n:=m.now2 m.z1 b m.z0 a;.ok fun p m=>Ht.on (m.point m.z2 p) fun p=>let e:=m.old2 m.z2 p m.z0 a;.ok (m.move m.z2 p<|(if e=0 then 0 else if q=0 then e else Ht.cut (Ht.near (e*n) q))-m.now2 m.z2 p m.z0 a)
 rw[TY]
 refine Ou fun e=>?_
 rw[Zz,WA]
 refine BB fun p1=>?_
 rw[Zz,Vy]
 refine BB fun p2=>SI (fun n=>n.z0=m.z0) (fun x n F hn=>?_) (fun x n n' hn e=>?_) _ _ rfl
 ·rw[Cf,jW]
  dsimp only
  rw[hn]
  rfl
 ·rw[Cf]at e
  by_cases w2:Ht.unsigned x<(n.zone n.z2).size
  ·rw[Eb w2]at e
   cases e
   rw[bf]
   exact hn
  ·rw[F_<|by lia]at e;cases e
def dc(hb:g.byte=b):Ht.on (m.shifted b) F=Mn g m fun i=>F (zp m<|aU g,i,VD m (zp m<|aU g) i):=by
 unfold Ht.M.shifted Mn
 by_cases q:b%2=0
 ·have e: ¬ AD g.byte%2=1:=by rw[hb];show ¬(b:Int)%2=1;lia
  have e1:j8 g=2:=AG e
  have e2:aU g=1:=AG e
  rw[AI q,AI q,e1,e2,Zz,Vy]
  rfl
 ·have e:AD g.byte%2=1:=by rw[hb];show(b:Int)%2=1;lia
  have e1:j8 g=1:=AI e
  have e2:aU g=0:=AI e
  rw[AG q,AG q,e1,e2,Zz,WA]
  rfl
def Mg(h:CA g m)(hb:g.byte=b)(hq:b=50\/b=51):OI g m=A4 g m:=by
 have e0:Ht.points m b=Ht.loopPoints m 0 fun _ m=>Ht.on (m.shifted b) fun x=> .ok fun p m=>Ht.on (m.point m.z2 p) fun p=> .ok (m.shift true m.z2 p x.2.2):=by rcases hq with rfl | rfl<;>rfl
 rw[BE h hb (by rcases hq with rfl | rfl<;>decide) (by rcases hq with rfl | rfl<;>decide) (by rcases hq with rfl | rfl<;>decide) (by rcases hq with rfl | rfl<;>decide),e0,TY]
 refine Ou fun e=>?_
 rw[Zz,dc hb]
 unfold Mn
 exact BB fun p1=>oY (fun x m F=>by rw[Cf,jW];rfl) _ _
def Kx(h:CA g m)(hb:g.byte=b)(hq:b=52\/b=53):Mu g m=A4 g m:=by
 have e0:Ht.points m b=Ht.one m fun m c=>Ht.on (Ht.below c m.ends.length) fun c=>Ht.on (m.shifted b) fun x=> .ok (m.shiftAll true 1 (Ht.contour m.ends c) x):=by rcases hq with rfl | rfl<;>rfl
 rw[BE h hb (by rcases hq with rfl | rfl<;>decide) (by rcases hq with rfl | rfl<;>decide) (by rcases hq with rfl | rfl<;>decide) (by rcases hq with rfl | rfl<;>decide),e0,lR]
 refine Ae fun a s e=>?_
 rw[Eh]
 refine BB fun p1=>?_
 rw[dc hb]
 unfold Mn
 refine BB fun p2=>?_
 unfold Eo Ht.M.shiftAll Ht.contour
 dsimp only
 rw[List.foldl_map]
 rfl
def QC(h:CA g m)(hb:g.byte=b)(hq:b=54\/b=55):SR g m=A4 g m:=by
 have e0:Ht.points m b=Ht.one m fun m z=>Ht.on (Ht.below z 2) fun z=>Ht.on (m.shifted b) fun x=> .ok (m.shiftAll false z (BO (m.zone z).size) x):=by rcases hq with rfl | rfl<;>rfl
 rw[BE h hb (by rcases hq with rfl | rfl<;>decide) (by rcases hq with rfl | rfl<;>decide) (by rcases hq with rfl | rfl<;>decide) (by rcases hq with rfl | rfl<;>decide),e0,lR]
 refine Ae fun a s e=>?_
 rw[Eh]
 refine BB fun p1=>?_
 rw[dc hb]
 unfold Mn
 refine BB fun p2=>?_
 unfold Eo Ht.M.shiftAll
 simp only[O6]
def JM(h:CA g m)(hb:g.byte=b)(hq:b=129\/b=130):KS g m=A4 g m:=by
 rw[BE h hb (by rcases hq with rfl | rfl<;>decide) (by rcases hq with rfl | rfl<;>decide) (by rcases hq with rfl | rfl<;>decide) (by rcases hq with rfl | rfl<;>decide)]
 rcases hq with rfl | rfl
 ·refine .trans ?_ on2.symm
  dsimp only[nt,pY]
  refine Ae fun a s e=>Ae fun a2 s2 e2=>?_
  rw[Cf]
  refine BB fun p1=>?_
  rw[Cf]
  refine BB fun p2=>?_
  have e:xZ g=fun x=>Ht.give x Ht.ON:=by funext x;unfold xZ;rw[hb];rfl
  unfold QF
  rw[e]
 ·refine .trans ?_ on2.symm
  dsimp only[nt,pY]
  refine Ae fun a s e=>Ae fun a2 s2 e2=>?_
  rw[Cf]
  refine BB fun p1=>?_
  rw[Cf]
  refine BB fun p2=>?_
  have e:xZ g=fun x=>Ht.lose x Ht.ON:=by funext x;unfold xZ;rw[hb];rfl
  unfold QF
  rw[e]
end
section
variable{K:AS}{W:Hp}{v:Var}{g:B4}{m:Ht.M}{b:Nat}
theorem df: ∀ l m,m.stack.length<=128->Du sI l m .ok=m.give l
 | [],m,h=>by
  show G1 m=m.give []
  exact(AG<|show ¬ 128<m.stack.length+0 by lia).symm
 | x::l,m,h=>by
  rw[Sh,Ow]
  unfold gv
  by_cases e:128<=m.stack.length
  ·rw[AI e,AI e]
  ·rw[AG e,AG e]
   exact df l (Bs m<|Ht.cut x::m.stack)<|by show m.stack.length+1<=128;lia
def ZY(h:CA g m)(hs:m.stack.length<=128)(hb:g.byte=b)(hq:b=64\/176<=b/\b<=183):GH g m=A4 g m:=by
 unfold GH A4 Ht.acts
 rw[df _ _ hs]
 dsimp only
 rw[<-h.byte,hb]
 have ha:=h.after
 unfold jZ
 rw[hb]
 rcases hq with rfl |⟨q1,q2⟩
 ·rw[AI rfl,AI rfl,ha,show g.place+DA (codeB g m.inFont) g.place- (g.place+2)=DA (codeB g m.inFont) g.place-2 by lia]
 ·rw[AG fun z=>by have:=B7 z;lia,AG<|by lia,AG<|by lia,AI ⟨q1,q2⟩,ha,show g.place+DA (codeB g m.inFont) g.place- (g.place+1)=DA (codeB g m.inFont) g.place-1 by lia]
def ZZ(h:CA g m)(hs:m.stack.length<=128)(hb:g.byte=b)(hq:b=65\/184<=b/\b<=191):F7 g m=A4 g m:=by
 unfold F7 A4 Ht.acts
 rw[df _ _ hs]
 dsimp only
 rw[<-h.byte,hb]
 have ha:=h.after
 unfold jZ
 rw[hb]
 rcases hq with rfl |⟨q1,q2⟩
 ·rw[AI rfl,AG<|by decide,AI rfl,ha,show g.place+DA (codeB g m.inFont) g.place- (g.place+2)=DA (codeB g m.inFont) g.place-2 by lia]
 ·rw[AG fun z=>by have:=B7 z;lia,AG<|by lia,AG<|by lia,AG<|by lia,AI ⟨q1,q2⟩,ha,show g.place+DA (codeB g m.inFont) g.place- (g.place+1)=DA (codeB g m.inFont) g.place-1 by lia]
def iG(hb:g.byte=b)(hq:Cw b):m.delta b a=if I_ g m a=true then some (HM m a)else none:=by
 unfold Ht.M.delta I_ HM
 dsimp only
 have e:(if b=0x5D\/b=0x73 then 0 else if b=0x71\/b=0x74 then 16 else 32)=startB g.byte:=by rw[hb];rfl
 rw[e]
 by_cases q:Ht.unsigned a/16%16+m.kept.base+startB g.byte=m.dots
 ·rw[AI q,AI<|Av q]
 ·rw[AG q,AG<|by simpa using q]
def Xv:pairsOf (p::a::l) (n+1)=(a,p)::pairsOf l n:=by
 unfold pairsOf
 rw[List.range_succ_eq_map,GY,Om]
 refine BL _ ?_
 apply PM
 intro i _
 show((p::a::l).getD (2*(i+1)+1) 0,(p::a::l).getD (2*(i+1)) 0)=_
 rw[show 2*(i+1)+1=(2*i+1)+1+1 by lia,show 2*(i+1)=2*i+1+1 by lia]
 rfl
def YS:Sq B (x::l) n .ok=B x n fun m=>Sq B l m .ok:=rfl
theorem Km(hb:g.byte=b)(hq:b=93\/b=113\/b=114): ∀ n l m,l.length=2*n->Ht.deltas b l m=Sq (fun p m F=>wi p.2 (m.zone<|zp m 0).size fun i=>if I_ g m p.1=true then F (m.move (zp m 0) i<|HM m p.1)else F m) (pairsOf l n) m .ok
 | 0,l,m,h=>by
  cases l with
  | nil=>rfl
  | cons x l=>simp at h
 | n+1,l,m,h=>by
  match l,h with
  | p::a::l,h=>
   rw[Xv]
   have e:Ht.deltas b (p::a::l) m=Ht.on (m.point m.z0 p) fun i=>Ht.deltas b l (match m.delta b a with | some d=>m.move m.z0 i d | none=>m):=by rcases hq with rfl | rfl | rfl<;>rfl
   rw[e,Cf,YS]
   refine BB fun p1=>?_
   rw[iG hb<|by unfold Cw;lia]
   have hl:l.length=2*n:=by simp only[G4]at h;lia
   by_cases q:I_ g m a=true
   ·rw[AI q,AI q]
    exact Km hb hq n l _ hl
   ·rw[AG q,AG q]
    exact Km hb hq n l _ hl
theorem IE(hb:g.byte=b)(hq:b=115\/b=116\/b=117): ∀ n l m,l.length=2*n->Ht.deltas b l m=Sq (fun p m F=>wi p.2 (iV m.values).length fun i=>if I_ g m p.1=true then F {m with values:=m.values.set i<|Ht.cut<|m.values.getD i 0+HM m p.1}else F m) (pairsOf l n) m .ok
 | 0,l,m,h=>by
  cases l with
  | nil=>rfl
  | cons x l=>simp at h
 | n+1,l,m,h=>by
  match l,h with
  | p::a::l,h=>
   rw[Xv]
   have e:Ht.deltas b (p::a::l) m=Ht.on (Ht.below p m.values.length) fun i=>Ht.deltas b l (match m.delta b a with | some d=>{m with values:=m.values.set i<|Ht.cut<|m.values.getD i 0+d} | none=>m):=by rcases hq with rfl | rfl | rfl<;>rfl
   rw[e,Eh,YS,Bq]
   refine BB fun p1=>?_
   rw[iG hb<|by unfold Cw;lia]
   have hl:l.length=2*n:=by simp only[G4]at h;lia
   by_cases q:I_ g m a=true
   ·rw[AI q,AI q]
    exact IE hb hq n l _ hl
   ·rw[AG q,AG q]
    exact IE hb hq n l _ hl
def TR(hq:Cw b):Ht.points m b=Ht.on (m.take 1) fun x=>Ht.on (x.2.take<|2*Ht.unsigned (x.1.getD 0 0)) fun y=>Ht.deltas b y.1 y.2:=by rcases hq with rfl | rfl | rfl | rfl | rfl | rfl<;>rfl
theorem XT{D:List Int->Ht.M->Ht.R Ht.M}(h: ∀ n l m,l.length=2*n->D l m=F m (pairsOf l n)):(Ht.on (m.take 1) fun x=>Ht.on (x.2.take<|2*Ht.unsigned (x.1.getD 0 0)) fun y=>D y.1 y.2)=Ud m F:=by
 unfold Ud tk
 unfold Ht.M.take
 cases e:m.stack with
 | nil=>rfl
 | cons a s=>
  rw[AG<|by simp]
  show Ht.on (if s.length<2*Ht.unsigned a then _ else _) _=uD (Bs m<|s) _ _
  unfold uD
  by_cases q:s.length<2*Ht.unsigned a
  ·rw[AI q]
   show _=if s.length<2*Ht.unsigned a then _ else _
   rw[AI q]
   rfl
  ·rw[AG q]
   show _=if s.length<2*Ht.unsigned a then _ else _
   rw[AG q]
   exact h (Ht.unsigned a) (s.take<|2*Ht.unsigned a) _<|by rw[HN];lia
def IB(h:CA g m)(hb:g.byte=b)(hq:b=93\/b=113\/b=114):NT g m=A4 g m:=by
 rw[BE h hb (by rcases hq with rfl | rfl | rfl<;>decide) (by rcases hq with rfl | rfl | rfl<;>decide) (by rcases hq with rfl | rfl | rfl<;>decide) (by rcases hq with rfl | rfl | rfl<;>decide),TR (by unfold Cw;lia)]
 exact(XT fun n l m hl=>Km hb hq n l m hl).symm
def GL(h:CA g m)(hb:g.byte=b)(hq:b=115\/b=116\/b=117):K7 g m=A4 g m:=by
 rw[BE h hb (by rcases hq with rfl | rfl | rfl<;>decide) (by rcases hq with rfl | rfl | rfl<;>decide) (by rcases hq with rfl | rfl | rfl<;>decide) (by rcases hq with rfl | rfl | rfl<;>decide),TR (by unfold Cw;lia)]
 exact(XT fun n l m hl=>IE hb hq n l m hl).symm
def uZ(a b c d:Ht.Pos):c2 (MY a b c d)=(Ht.crossing a.1 b.1 c.1 d.1 ((c.1-a.1)*(d.2-c.2)- (c.2-a.2)*(d.1-c.1))<|(b.1-a.1)*(d.2-c.2)- (b.2-a.2)*(d.1-c.1),Ht.crossing a.2 b.2 c.2 d.2 ((c.1-a.1)*(d.2-c.2)- (c.2-a.2)*(d.1-c.1))<|(b.1-a.1)*(d.2-c.2)- (b.2-a.2)*(d.1-c.1)):=by
 unfold MY Ht.crossing
 show c2 (if(b.1-a.1)*(d.2-c.2)- (b.2-a.2)*(d.1-c.1)=0 then _ else _)=_
 by_cases t:(b.1-a.1)*(d.2-c.2)- (b.2-a.2)*(d.1-c.1)=0
 ·rw[AI t,AI t,AI t];rfl
 ·rw[AG t,AG t,AG t];rfl
def j5(n:Ht.M)(hy:y<2)(q:Kw (n.zone y))(hp:p<(n.zone y).size)(N:Ht.Pos)(f:Nat->Nat):(Cd n y p ((n.zone y).was p) N<|(n.zone y).mark p).mark y p f=n.setZone y {n.zone y with now:=(n.zone y).now.set p N,marks:=(n.zone y).marks.set p<|f<|(n.zone y).mark p}:=by
 have e1:((Cd n y p ((n.zone y).was p) N<|(n.zone y).mark p).zone y)=⟨(n.zone y).org.set p<|(n.zone y).was p,(n.zone y).now.set p N,(n.zone y).marks.set p<|(n.zone y).mark p⟩:=DS hy
 have hm:p<(n.zone y).marks.length:=by have:=q.lm;unfold Ht.Zone.size at hp;lia
 have ho:p<(n.zone y).org.length:=by have:=q.lo;unfold Ht.Zone.size at hp;lia
 rw[Wg,a7 hy,e1]
 unfold Cd
 have a1:Ht.Zone.was ⟨(n.zone y).org.set p<|(n.zone y).was p,(n.zone y).now.set p N,(n.zone y).marks.set p<|(n.zone y).mark p⟩ p=(n.zone y).was p:=CI ho
 have a2:Ht.Zone.at_ ⟨(n.zone y).org.set p<|(n.zone y).was p,(n.zone y).now.set p N,(n.zone y).marks.set p<|(n.zone y).mark p⟩ p=N:=CI hp
 have a3:Ht.Zone.mark ⟨(n.zone y).org.set p<|(n.zone y).was p,(n.zone y).now.set p N,(n.zone y).marks.set p<|(n.zone y).mark p⟩ p=(n.zone y).mark p:=CI hm
 rw[a1,a2,a3]
 have a4:(n.zone y).org.set p ((n.zone y).was p)=(n.zone y).org:=Hc
 rw[a4]
def rY(h:c<=m.stack.length->F (Bs m<|m.stack.drop c) (m.stack.take c)=G (Bs m<|m.stack.drop c) (m.stack.take c)):uD m c F=uD m c G:=by
 unfold uD
 by_cases e:m.stack.length<c
 ·rw[AI e,AI e]
 ·rw[AG e,AG e];exact h<|by lia
def wi5{F G:Nat->Nat->Nat->Nat->Nat->Ht.R Ht.M}(h:Ht.unsigned x4<n4->F (Ht.unsigned x0) (Ht.unsigned x1) (Ht.unsigned x2) (Ht.unsigned x3) (Ht.unsigned x4)=G (Ht.unsigned x0) (Ht.unsigned x1) (Ht.unsigned x2) (Ht.unsigned x3) (Ht.unsigned x4)):
  (wi x0 n0 fun d=>wi x1 n1 fun c=>wi x2 n2 fun b=>wi x3 n3 fun a=>wi x4 n4 fun p=>F d c b a p)=(wi x4 n4 fun p=>wi x3 n3 fun a=>wi x2 n2 fun b=>wi x1 n1 fun c=>wi x0 n0 fun d=>G d c b a p):=by
 unfold wi
 by_cases h0:Ht.unsigned x0<n0<;>by_cases h1:Ht.unsigned x1<n1<;>by_cases h2:Ht.unsigned x2<n2<;>by_cases h3:Ht.unsigned x3<n3<;>by_cases h4:Ht.unsigned x4<n4<;>simp only[h0,h1,h2,h3,h4,D6,FJ]
 exact h h4
def YI(h:CA g m)(hb:g.byte=15)(hg:Good K W g v m):JB g m=A4 g m:=by
 rw[BE h hb]
 refine .trans ?_ TJ.symm
 simp only[Cf]
 refine rY fun e=>wi5 fun p4=>?_
 rw[uZ]
 have q:=E4 hg hg.z2
 exact BL G1<|j5 (Bs m<|m.stack.drop 5) hg.z2 q p4 _ _
end
section
def Yh: ∀{N e:Nat},e<N->p (f e)=true->(∀ j,j<e->p (f j)=false)->((BO N).map f).find? p=some (f e):=by
 intro N e h1 h2 h3
 have hr:(BO N).map f=(BO e).map f++f e::((BO<|N-e-1).map fun j=>f<|e+1+j):=by
  apply Oa
  intro i
  by_cases q:i<N
  ·rw[CZ,Gq q]
   by_cases q1:i<e
   ·rw[Vn<|by rw[A8,CO];exact q1,CZ,Gq q1]
   ·rw[WN<|by rw[A8,CO];lia,A8,CO]
    by_cases q2:i=e
    ·subst q2;rw[TL];rfl
    ·obtain⟨k,rfl⟩: ∃ k,i=e+1+k:=⟨i-e-1,by lia⟩
     rw[show e+1+k-e=k+1 by lia,RV,CZ,Gq<|by lia]
     rfl
  ·rw[EA<|by rw[A8,CO];lia,EA<|by rw[E5,A8,CO,G4,A8,CO];lia]
 rw[hr,List.find?_append]
 have hn:((BO e).map f).find? p=none:=by
  rw[c7]
  intro x hx
  obtain⟨j,hj,rfl⟩:=Fv.mp hx
  rw[h3 j<|PV.mp hj]
  simp
 rw[hn,Jm,h2]
 rfl
noncomputable def cs(s n:Nat):List Nat:=(BO n).map fun i=>s+i
def jn:(cs s n).length=n:=by unfold cs;rw[A8,CO]
def YF(h:i<n):(cs s n).getD i 0=s+i:=by
 unfold cs
 rw[Cc,CZ,Gq h]
 rfl
def SY(h:i<n):(cs s n).drop (i+1)++(cs s n).take i=(BO<|n-1).map fun e=>s+(i+1+e)%n:=by
 have l1:((cs s n).drop<|i+1).length=n- (i+1):=by rw[G3,jn]
 apply Oa
 intro j
 by_cases q:j<n-1
 ·rw[CZ,Gq q]
  by_cases q1:j<n- (i+1)
  ·rw[Vn<|by rw[l1];exact q1,V3]
   unfold cs
   rw[CZ,Gq<|by lia]
   show some (s+(i+1+j))=some (s+(i+1+j)%n)
   rw[Bu<|by lia]
  ·rw[WN<|by rw[l1];lia,l1,mC,AI<|by lia]
   unfold cs
   rw[CZ,Gq<|by lia]
   show some (s+(j- (n- (i+1))))=some (s+(i+1+j)%n)
   have:(i+1+j)%n=j- (n- (i+1)):=by
    rw[FK<|by lia,Bu<|by lia]
    lia
   rw[this]
 ·rw[EA<|by rw[E5,l1,HN,jn];lia,EA<|by rw[A8,CO];lia]
def AAJ(h:i<n):((cs s n).drop (i+1)++(cs s n).take i).reverse=(BO<|n-1).map fun e=>s+(i+n-1-e)%n:=by
 rw[SY h]
 apply Oa
 intro j
 by_cases q:j<n-1
 ·rw[mF<|by rw[A8,CO];exact q,A8,CO,CZ,Gq<|by lia,CZ,Gq q]
  show some (s+(i+1+(n-1-1-j))%n)=some (s+(i+n-1-j)%n)
  rw[show i+1+(n-1-1-j)=i+n-1-j by lia]
 ·rw[EA<|by rw[Ei,A8,CO];lia,EA<|by rw[A8,CO];lia]
noncomputable def tb(x:Bool):Nat:=if x=true then Ht.INX else Ht.INY
noncomputable def Tc(z:Ht.Zone)(x:Bool)(p:Nat):Bool:=Ht.has (z.mark p) (tb x)
noncomputable def k_(op o1 n1 o2 n2:Int):Int:=
 if op<=(if o2<o1 then o2 else o1)then(if o2<o1 then n2 else n1)+(op- (if o2<o1 then o2 else o1))
 else if(if o2<o1 then o1 else o2)<=op then(if o2<o1 then n1 else n2)+(op- (if o2<o1 then o1 else o2))
 else(if o2<o1 then n2 else n1)+Ht.near ((op- (if o2<o1 then o2 else o1))*((if o2<o1 then n1 else n2)- (if o2<o1 then n2 else n1))) ((if o2<o1 then o1 else o2)- (if o2<o1 then o2 else o1))
variable{z:Ht.Zone}{x:Bool}{s n i:Nat}
def U1(h:i<n)(t:Tc z x (s+i)=true):Ht.led z x (cs s n) i=Ht.axis x (z.at_<|s+i):=by
 unfold Ht.led
 dsimp only
 rw[YF h]
 exact AI t
def z8(hf:f<n)(hd:d<n)(hj:j+1<d)(tf:Tc z x (s+f)=true)(ts:Tc z x (s+(f+d)%n)=true)(un: ∀ e,0<e->e<d->Tc z x (s+(f+e)%n)=false):
  Ht.led z x (cs s n) ((f+1+j)%n)=Ht.cut (k_ (Ht.axis x<|z.was<|s+(f+1+j)%n) (Ht.axis x<|z.was<|s+f) (Ht.axis x<|z.at_<|s+f) (Ht.axis x<|z.was<|s+(f+d)%n)<|Ht.axis x<|z.at_<|s+(f+d)%n):=by
 have n0:0<n:=by lia
 obtain⟨i,hi⟩: ∃ i,i=(f+1+j)%n:=⟨_,rfl⟩
 have il:i<n:=by rw[hi];exact E9 _ n0
 have ui:Tc z x (s+i)=false:=by rw[hi,show f+1+j=f+(1+j) by lia];exact un (1+j) (by lia)<|by lia
 have nx:((cs s n).drop (i+1)++(cs s n).take i).find? (Tc z x)=some (s+(f+d)%n):=by
  rw[SY il]
  have e1: ∀ e,(i+1+e)%n=(f+(j+2+e))%n:=fun e=>by rw[hi,show(f+1+j)%n+1+e=(f+1+j)%n+(1+e) by lia,cq];congr 1;lia
  have:=Yh (f:=fun e=>s+(i+1+e)%n) (p:=Tc z x) (N:=n-1) (e:=d-2-j) (by lia) (by
   show Tc z x (s+(i+1+(d-2-j))%n)=true
   rw[e1,show j+2+(d-2-j)=d by lia];exact ts) (fun e he=>by
   show Tc z x (s+(i+1+e)%n)=false
   rw[e1];exact un _ (by lia)<|by lia)
  rw[this]
  rw[e1,show j+2+(d-2-j)=d by lia]
 have bk:((cs s n).drop (i+1)++(cs s n).take i).reverse.find? (Tc z x)=some (s+f):=by
  rw[AAJ il]
  have e1: ∀ e,e<=j->(i+n-1-e)%n=(f+(j-e))%n:=fun e he=>by
   have:i+n-1-e=i+(n-1-e):=by lia
   rw[this,hi,cq,show f+1+j+(n-1-e)=(f+(j-e))+n by lia,O8]
  have:=Yh (f:=fun e=>s+(i+n-1-e)%n) (p:=Tc z x) (N:=n-1) (e:=j) (by lia) (by
   show Tc z x (s+(i+n-1-j)%n)=true
   rw[e1 j<|BS _,TL,o9,Bu hf];exact tf) (fun e he=>by
   show Tc z x (s+(i+n-1-e)%n)=false
   rw[e1 e<|by lia];exact un _ (by lia)<|by lia)
  rw[this]
  rw[e1 j<|BS _,TL,o9,Bu hf]
 rw[<-hi]
 unfold Ht.led
 dsimp only
 rw[YF il]
 have c1: ¬ Ht.has (z.mark<|s+i) (if x=true then Ht.INX else Ht.INY)=true:=by
  have:Ht.has (z.mark<|s+i) (if x=true then Ht.INX else Ht.INY)=false:=ui
  rw[this];decide
 rw[AG c1]
 have nx':SH (fun p=>Ht.has (z.mark p)<|if x=true then Ht.INX else Ht.INY) ((cs s n).drop (i+1)++(cs s n).take i)=some (s+(f+d)%n):=nx
 have bk':SH (fun p=>Ht.has (z.mark p)<|if x=true then Ht.INX else Ht.INY) ((cs s n).drop (i+1)++(cs s n).take i).reverse=some (s+f):=bk
 rw[nx',bk']
 dsimp only
 have ne: ¬ s+f=s+(f+d)%n:=fun q=>by
  have q':f=(f+d)%n:=by lia
  rcases Dg (f+d) n with w | w
  ·rw[Bu w]at q';lia
  ·rw[FK w,Bu<|by lia]at q';lia
 rw[AG ne]
 unfold k_
 by_cases c:Ht.axis x (z.was<|s+(f+d)%n)<Ht.axis x (z.was<|s+f)
 ·simp only[AI c]
  split
  ·rfl
  ·split<;>rfl
 ·simp only[AG c]
  split
  ·rfl
  ·split<;>rfl
def AAW(ht:t<n)(h:i<n)(ne:i≠t)(tt:Tc z x (s+t)=true)(un: ∀ e,e<n->e≠t->Tc z x (s+e)=false):
  Ht.led z x (cs s n) i=Ht.cut (Ht.axis x (z.at_<|s+i)+(Ht.axis x (z.at_<|s+t)-Ht.axis x (z.was<|s+t))):=by
 have n0:0<n:=by lia
 have nx:((cs s n).drop (i+1)++(cs s n).take i).find? (Tc z x)=some (s+t):=by
  rw[SY h]
  obtain⟨e0,he0,hl0⟩: ∃ e0,(i+1+e0)%n=t/\e0<n-1:=by
   by_cases q:i<t
   ·exact⟨t-i-1,by rw[Bu<|by lia];lia,by lia⟩
   ·exact⟨t+n-i-1,by rw[show i+1+(t+n-i-1)=t+n by lia,O8,Bu ht],by lia⟩
  have:=Yh (f:=fun e=>s+(i+1+e)%n) (p:=Tc z x) (N:=n-1) (e:=e0) hl0 (by show Tc z x (s+(i+1+e0)%n)=true;rw[he0];exact tt) (fun e he=>by
   show Tc z x (s+(i+1+e)%n)=false
   refine un _ (E9 _ n0) fun q=>?_
   have q2:(i+1+e)%n=(i+1+e0)%n:=by rw[q,he0]
   rcases Dg (i+1+e0) n with w | w
   ·rw[Bu w,Bu<|by lia]at q2;lia
   ·rcases Dg (i+1+e) n with w2 | w2
    ·rw[Bu w2,FK w,Bu<|by lia]at q2;lia
    ·rw[FK w2,Bu<|by lia,FK w,Bu<|by lia]at q2;lia)
  rw[this]
  rw[he0]
 have bk:((cs s n).drop (i+1)++(cs s n).take i).reverse.find? (Tc z x)=some (s+t):=by
  cases e:((cs s n).drop (i+1)++(cs s n).take i).reverse.find? (Tc z x)with
  | none=>
   have q:=c7.mp e (s+t)<|mY.mpr<|Vr nx
   exact absurd tt q
  | some y=>
   have m1:=mY.mp<|Vr e
   rw[SY h]at m1
   obtain⟨e1,_,rfl⟩:=Fv.mp m1
   have ty:=qO e
   by_cases q:(i+1+e1)%n=t
   ·rw[q]
   ·rw[un _ (E9 _ n0) q]at ty;cases ty
 unfold Ht.led
 dsimp only
 rw[YF h]
 have c1: ¬ Ht.has (z.mark<|s+i) (if x=true then Ht.INX else Ht.INY)=true:=by
  have:Ht.has (z.mark<|s+i) (if x=true then Ht.INX else Ht.INY)=false:=un i h ne
  rw[this];decide
 rw[AG c1]
 have nx':SH (fun p=>Ht.has (z.mark p)<|if x=true then Ht.INX else Ht.INY) ((cs s n).drop (i+1)++(cs s n).take i)=some (s+t):=nx
 have bk':SH (fun p=>Ht.has (z.mark p)<|if x=true then Ht.INX else Ht.INY) ((cs s n).drop (i+1)++(cs s n).take i).reverse=some (s+t):=bk
 rw[nx',bk']
 dsimp only
 rw[AI rfl]
def vP(h:i<n)(un: ∀ e,e<n->Tc z x (s+e)=false):Ht.led z x (cs s n) i=Ht.axis x (z.at_<|s+i):=by
 have n0:0<n:=by lia
 have nx:((cs s n).drop (i+1)++(cs s n).take i).find? (Tc z x)=none:=by
  rw[SY h,c7]
  intro y hy
  obtain⟨e,_,rfl⟩:=Fv.mp hy
  rw[un _<|E9 _ n0]
  decide
 unfold Ht.led
 dsimp only
 rw[YF h]
 have c1: ¬ Ht.has (z.mark<|s+i) (if x=true then Ht.INX else Ht.INY)=true:=by
  have:Ht.has (z.mark<|s+i) (if x=true then Ht.INX else Ht.INY)=false:=un i h
  rw[this];decide
 rw[AG c1]
 have nx':SH (fun p=>Ht.has (z.mark p)<|if x=true then Ht.INX else Ht.INY) ((cs s n).drop (i+1)++(cs s n).take i)=none:=nx
 rw[nx']
end
end GF
end
section
namespace GF
open PySem PySem.Spec PyProof.Rows L2
variable{P:BH}{w:Ao}{K:AS}{mg:Str->Option AN}{base:Az}{A:B3}[T:Txt K mg A]
noncomputable def kx(x:Bool):Nat:=if x=true then 0 else 1
def Cg:XA (pV p) (AD<|kx x)=some (.int<|Ht.axis x p):=by cases x<;>rfl
def AA7:uA (pV p).length (AD<|kx x)=some (kx x):=by cases x<;>rfl
def wG:(pV p).set (kx x) (.int v)=pV (Ht.withAxis x p v):=by cases x<;>rfl
def Tb(h:LU p):FE (Ht.axis x p):=by cases x<;>first | exact h.1 | exact h.2
def qp(h:LU p)(hv:FE v):LU (Ht.withAxis x p v):=by cases x<;>first | exact⟨h.1,hv⟩ | exact⟨hv,h.2⟩
def Ak:(1:Nat)<2:=by decide
inductive ACv(K:AS)(A:B3)(vs:List V)(H:Hp)(Q:VK)(E:XK):Prop
 | mk: ∀ W g v m p a b x,vs= [.ref (g.pp 1 p),.ref (g.pp 1 a),.ref (g.pp 1 b),.int (AD (kx x))]->R K A W g v m H->(p<(m.zone 1).size/\a<(m.zone 1).size/\b<(m.zone 1).size)->Q (.int (k_ (Ht.axis x ((m.zone 1).was p)) (Ht.axis x ((m.zone 1).was a)) (Ht.axis x ((m.zone 1).at_ a)) (Ht.axis x ((m.zone 1).was b)) (Ht.axis x ((m.zone 1).at_ b)))) H->ACv K A vs H Q E
def cZ :O0 P w base 2 96 ["point","one","other","axis"] (ACv K A):=by
 refine T.a_.F.DQ ["point","one","other","axis","low","high","old","span_old","span_now"] fun H vs Q E hr h=>?_
 obtain⟨W,g,v,m,p,a,b,x,rfl,h,⟨hp,ha,hb⟩,k⟩:=h
 refine⟨_,(AB (AO 4<|Bn (A0 Dn (A9 Ab (AR Aj) A6)<|A9 Ab (AR AV) A6) Aj AV)<|AB (AO 5<|Bn (A0 Dn (A9 Ab (AR Aj) A6)<|A9 Ab (AR AV) A6) AV Aj)<|AB (AO 6<|A9 Ab (AR AH) A6)<|AB (Aq (A0 IM (pv 6)<|A9 Ab (AR CG) A6) (AF<|AY<|AU BJ (A9 Ab (AR CG) A6)<|AU B1 (pv 6)<|A9 Ab (AR CG) A6) AX)<|AB (Aq (A0 U_ (pv 6)<|A9 Ab (AR ES) A6) (AF<|AY<|AU BJ (A9 Ab (AR ES) A6)<|AU B1 (pv 6)<|A9 Ab (AR ES) A6) AX)<|AB (AO 7<|AU B1 (A9 Ab (AR ES) A6)<|A9 Ab (AR CG) A6)<|AB (AO 8<|AU B1 (A9 Ab (AR ES) A6)<|A9 Ab (AR CG) A6)<|AF<|AY<|AU BJ (A9 Ab (AR CG) A6)<|Ah GV T.near<|Ax (AU Bb (AU B1 (pv 6)<|A9 Ab (AR CG) A6)<|pv 8)<|pv 7),?_⟩
 unfold k_ at k
 by_cases c:Ht.axis x ((m.zone 1).was b)<Ht.axis x ((m.zone 1).was a)
 ·simp only[AI c]at k
  refine⟨h.pt Ak hb,Aa,Bx _ _ _,BF.of<|h.po Ak hb,Cg,h.pt Ak ha,Aa,Bx _ _ _,BF.of<|h.po Ak ha,Cg,A7 (fun _=>?_) fun q=>absurd (Av c) q⟩
  refine⟨h.pt Ak hb,Aa,Bx _ _ _,BF.of<|h.po Ak hb,Cg,h.pt Ak ha,Aa,Bx _ _ _,BF.of<|h.po Ak ha,Cg,A7 (fun _=>?_) fun q=>absurd (Av c) q⟩
  refine⟨h.pt Ak hp,Aa,Bx _ _ _,BF.of<|h.po Ak hp,Cg,⟨h.pt Ak hb,Aa,Bx _ _ _,BF.of<|h.po Ak hb,Cg,A7 (fun e=>?_) fun e=>?_⟩⟩
  ·rw[AI<|An e]at k
   exact⟨h.pt Ak hb,Aa,CF _ _ _,BF.of<|h.pn Ak hb,Cg,h.pt Ak hb,Aa,Bx _ _ _,BF.of<|h.po Ak hb,Cg,k⟩
  have e1:=Ey<|Er.mpr e
  rw[AG e1]at k
  refine⟨h.pt Ak ha,Aa,Bx _ _ _,BF.of<|h.po Ak ha,Cg,A7 (fun e=>?_) fun e=>?_⟩
  ·rw[AI<|An e]at k
   exact⟨h.pt Ak ha,Aa,CF _ _ _,BF.of<|h.pn Ak ha,Cg,h.pt Ak ha,Aa,Bx _ _ _,BF.of<|h.po Ak ha,Cg,k⟩
  have e2:=Ey<|Er.mpr e
  rw[AG e2]at k
  refine⟨h.pt Ak ha,Aa,Bx _ _ _,BF.of<|h.po Ak ha,Cg,h.pt Ak hb,Aa,Bx _ _ _,BF.of<|h.po Ak hb,Cg,⟨h.pt Ak ha,Aa,CF _ _ _,BF.of<|h.pn Ak ha,Cg,h.pt Ak hb,Aa,CF _ _ _,BF.of<|h.pn Ak hb,Cg,?_⟩⟩
  have i1:=Tb (x:=x)<|Ge h.good Ak hp
  have i2:=Tb (x:=x)<|Ge h.good Ak hb
  have i3:=Tb (x:=x)<|Ge h.good Ak ha
  refine⟨h.pt Ak hb,Aa,CF _ _ _,BF.of<|h.pn Ak hb,Cg,h.pt Ak hb,Aa,Bx _ _ _,BF.of<|h.po Ak hb,Cg,.inl<|by unfold FE at*;lia,_,_,rfl,⟨by intro q;lia,?_⟩,k⟩
  unfold FE at*
  have:(Ht.axis x ((m.zone 1).was a)-Ht.axis x ((m.zone 1).was b)).natAbs<=8589934592:=by lia
  exact Ez this<|by decide
 ·simp only[AG c]at k
  refine⟨h.pt Ak hb,Aa,Bx _ _ _,BF.of<|h.po Ak hb,Cg,h.pt Ak ha,Aa,Bx _ _ _,BF.of<|h.po Ak ha,Cg,A7 (fun q=>absurd (An q) c) fun _=>⟨h.pt Ak hb,Aa,Bx _ _ _,BF.of<|h.po Ak hb,Cg,h.pt Ak ha,Aa,Bx _ _ _,BF.of<|h.po Ak ha,Cg,A7 (fun q=>absurd (An q) c) fun _=>⟨h.pt Ak hp,Aa,Bx _ _ _,BF.of<|h.po Ak hp,Cg,h.pt Ak ha,Aa,Bx _ _ _,BF.of<|h.po Ak ha,Cg,A7 (fun e=>?_) fun e=>?_⟩⟩⟩
  ·rw[AI<|An e]at k
   exact⟨h.pt Ak ha,Aa,CF _ _ _,BF.of<|h.pn Ak ha,Cg,h.pt Ak ha,Aa,Bx _ _ _,BF.of<|h.po Ak ha,Cg,k⟩
  rw[AG<|Ey<|Er.mpr e]at k
  refine⟨h.pt Ak hb,Aa,Bx _ _ _,BF.of<|h.po Ak hb,Cg,A7 (fun e=>?_) fun e=>?_⟩
  ·rw[AI<|An e]at k
   exact⟨h.pt Ak hb,Aa,CF _ _ _,BF.of<|h.pn Ak hb,Cg,h.pt Ak hb,Aa,Bx _ _ _,BF.of<|h.po Ak hb,Cg,k⟩
  have e2:=Ey<|Er.mpr e
  rw[AG e2]at k
  refine⟨h.pt Ak hb,Aa,Bx _ _ _,BF.of<|h.po Ak hb,Cg,h.pt Ak ha,Aa,Bx _ _ _,BF.of<|h.po Ak ha,Cg,⟨h.pt Ak hb,Aa,CF _ _ _,BF.of<|h.pn Ak hb,Cg,h.pt Ak ha,Aa,CF _ _ _,BF.of<|h.pn Ak ha,Cg,?_⟩⟩
  have i1:=Tb (x:=x)<|Ge h.good Ak hp
  have i2:=Tb (x:=x)<|Ge h.good Ak ha
  have i3:=Tb (x:=x)<|Ge h.good Ak hb
  refine⟨h.pt Ak ha,Aa,CF _ _ _,BF.of<|h.pn Ak ha,Cg,h.pt Ak ha,Aa,Bx _ _ _,BF.of<|h.po Ak ha,Cg,.inl<|by unfold FE at*;lia,_,_,rfl,⟨by intro q;lia,?_⟩,k⟩
  unfold FE at*
  have:(Ht.axis x ((m.zone 1).was b)-Ht.axis x ((m.zone 1).was a)).natAbs<=8589934592:=by lia
  exact Ez this<|by decide
structure LS(m0 m:Ht.M)(x:Bool)(s n:Nat)(D:Nat->Prop):Prop where
 eq:m={m0 with zone1:={m0.zone1 with now:=m.zone1.now}}
 len:m.zone1.now.length=m0.zone1.now.length
 out: ∀ p,¬(s<=p/\p<s+n)->m.zone1.at_ p=m0.zone1.at_ p
 dn: ∀ i,i<n->D i->m.zone1.at_ (s+i)=Ht.withAxis x (m0.zone1.at_ (s+i)) (Ht.led m0.zone1 x (cs s n) i)
 nd: ∀ i,i<n-> ¬ D i->m.zone1.at_ (s+i)=m0.zone1.at_ (s+i)
def kZ:Ht.withAxis x p (Ht.axis x p)=p:=by cases x<;>rfl
def xp:Ht.withAxis x (Ht.withAxis x p u) v=Ht.withAxis x p v:=by cases x<;>rfl
section
variable{m0 m:Ht.M}{x:Bool}{s n i:Nat}{D D':Nat->Prop}
def LS.refl:LS m0 m0 x s n (fun _=>False):=⟨rfl,rfl,fun _ _=>rfl,fun _ _ h=>h.elim,fun _ _ _=>rfl⟩
def LS.was(h:LS m0 m x s n D)(p:Nat):(m.zone 1).was p=(m0.zone 1).was p:=by rw[h.eq];rfl
def LS.size(h:LS m0 m x s n D):(m.zone 1).size=(m0.zone 1).size:=h.len
def LS.tat(h:LS m0 m x s n D)(hi:i<n)(t:Tc m0.zone1 x (s+i)=true):(m.zone 1).at_ (s+i)=(m0.zone 1).at_ (s+i):=by
 by_cases q:D i
 ·have:=h.dn i hi q
  rw[U1 hi t,kZ]at this
  exact this
 ·exact h.nd i hi q
def LS.more(h:LS m0 m x s n D)(hD: ∀ i,D i->D' i)(hn: ∀ i,i<n->D' i-> ¬ D i->Tc m0.zone1 x (s+i)=true\/Ht.led m0.zone1 x (cs s n) i=Ht.axis x (m0.zone1.at_<|s+i)):LS m0 m x s n D':=by
 refine⟨h.eq,h.len,h.out,fun i hi d=>?_,fun i hi d=>h.nd i hi fun q=>d<|hD i q⟩
 by_cases q:D i
 ·exact h.dn i hi q
 ·rw[h.nd i hi q]
  rcases hn i hi d q with t | t
  ·rw[U1 hi t,kZ]
  ·rw[t,kZ]
def xE:Cd m 1 i ((m.zone 1).was i) q ((m.zone 1).mark i)={m with zone1:={m.zone1 with now:=m.zone1.now.set i q}}:=by
 unfold Cd Ht.Zone.was Ht.Zone.mark
 rw[Hc,Hc]
 rfl
def LS.step(h:LS m0 m x s n D)(hi:i<n)(hs:s+n<=m0.zone1.size)(hu:u=Ht.led m0.zone1 x (cs s n) i):
  LS m0 (Cd m 1 (s+i) ((m.zone 1).was<|s+i) (Ht.withAxis x ((m.zone 1).at_<|s+i) u)<|(m.zone 1).mark<|s+i) x s n (fun j=>D j\/j=i):=by
 rw[xE]
 have hl:s+i<m.zone1.now.length:=by rw[h.len];unfold Ht.Zone.size at hs;lia
 have at2: ∀ p,Ht.Zone.at_ {m.zone1 with now:=m.zone1.now.set (s+i)<|Ht.withAxis x ((m.zone 1).at_<|s+i) u} p=if p=s+i then Ht.withAxis x ((m.zone 1).at_<|s+i) u else m.zone1.at_ p:=fun p=>by
  unfold Ht.Zone.at_
  by_cases q:p=s+i
  ·subst q;rw[AI rfl];exact CI hl
  ·rw[AG q];exact Ee q
 have am:(m.zone 1).at_ (s+i)=m.zone1.at_ (s+i):=rfl
 refine⟨?_,?_,fun p hp=>?_,fun j hj hd=>?_,fun j hj hd=>?_⟩
 ·have:=h.eq
  rw[this]
 ·rw[DL];exact h.len
 ·rw[at2,AG<|by lia]
  exact h.out p hp
 ·rw[at2]
  by_cases q:j=i
  ·subst q
   rw[AI rfl,hu,am]
   by_cases w:D j
   ·rw[h.dn j hj w,xp]
   ·rw[h.nd j hj w]
  ·rw[AG<|by lia]
   exact h.dn j hj<|hd.resolve_right q
 ·rw[at2,AG fun q=>hd<|.inr<|by lia]
  exact h.nd j hj fun q=>hd<|.inl q
theorem pK{f:Nat->Nat->Ht.Pos}: ∀(k:Nat) (L:List Ht.Pos) (p:Nat),s+k<=L.length->((BO k).foldl (fun(l:List Ht.Pos) (i:Nat)=>l.set (s+i)<|f 0 i) L).getD p (0,0)=(if s<=p/\p<s+k then f 0 (p-s)else L.getD p (0,0))/\((BO k).foldl (fun(l:List Ht.Pos) (i:Nat)=>l.set (s+i)<|f 0 i) L).length=L.length
 | 0,L,p,_=>⟨by rw[AG<|by lia];rfl,rfl⟩
 | k+1,L,p,h=>by
  obtain⟨h1,h2⟩:=pK k L p<|by lia
  rw[Ha,WH]
  refine⟨?_,by show(pI _ _ _).length=_;rw[DL];exact h2⟩
  show(pI _ _ _).getD p (0,0)=_
  by_cases q:p=s+k
  ·subst q
   rw[CI<|by rw[h2];lia,AI<|by lia,show s+k-s=k by lia]
  ·rw[Ee q,h1]
   by_cases w:s<=p/\p<s+k
   ·rw[AI w,AI<|by lia]
   ·rw[AG w,AG<|by lia]
def LS.fin(h:LS m0 m x s n D)(hs:s+n<=m0.zone1.size)(all: ∀ i,i<n->D i):m={m0 with zone1:=Ht.ledContour x m0.zone1<|cs s n}:=by
 have e:m.zone1.now=(Ht.ledContour x m0.zone1<|cs s n).now:=by
  unfold Ht.ledContour
  dsimp only
  rw[jn]
  have fe:(BO n).foldl (fun l (i:Nat)=>l.set ((cs s n).getD i 0)<|Ht.withAxis x (m0.zone1.at_<|(cs s n).getD i 0)<|Ht.led m0.zone1 x (cs s n) i) m0.zone1.now=(BO n).foldl (fun l (i:Nat)=>l.set (s+i)<|Ht.withAxis x (m0.zone1.at_<|s+i)<|Ht.led m0.zone1 x (cs s n) i) m0.zone1.now:=by
   have: ∀(ks:List Nat) (L:List Ht.Pos),(∀ i∈ks,i<n)->ks.foldl (fun l (i:Nat)=>l.set ((cs s n).getD i 0)<|Ht.withAxis x (m0.zone1.at_<|(cs s n).getD i 0)<|Ht.led m0.zone1 x (cs s n) i) L=ks.foldl (fun l (i:Nat)=>l.set (s+i)<|Ht.withAxis x (m0.zone1.at_<|s+i)<|Ht.led m0.zone1 x (cs s n) i) L:=by
    intro ks
    induction ks with
    | nil=>intro L _;rfl
    | cons a ks ih=>
     intro L hk
     rw[Ww,Ww,YF<|hk a<|Dx ..]
     exact ih _ fun i hi=>hk i<|Cz _ hi
   exact this _ _ fun i hi=>PV.mp hi
  rw[fe]
  have fa:=fun p=>pK (s:=s) (f:=fun _ i=>Ht.withAxis x (m0.zone1.at_<|s+i)<|Ht.led m0.zone1 x (cs s n) i) n m0.zone1.now p hs
  apply Oa
  intro p
  by_cases q:p<m.zone1.now.length
  ·have q2:p<m0.zone1.now.length:=by rw[<-h.len];exact q
   have g1:m.zone1.now.getD p (0,0)=((BO n).foldl (fun l (i:Nat)=>l.set (s+i)<|Ht.withAxis x (m0.zone1.at_<|s+i)<|Ht.led m0.zone1 x (cs s n) i) m0.zone1.now).getD p (0,0):=by
    rw[(fa p).1]
    by_cases w:s<=p/\p<s+n
    ·rw[AI w]
     have:=h.dn (p-s) (by lia)<|all _<|by lia
     rw[show s+(p-s)=p by lia]at this
     rw[show s+(p-s)=p by lia]
     exact this
    ·rw[AG w]
     exact h.out p w
   have q3:p<((BO n).foldl (fun l (i:Nat)=>l.set (s+i)<|Ht.withAxis x (m0.zone1.at_<|s+i)<|Ht.led m0.zone1 x (cs s n) i) m0.zone1.now).length:=by rw[(fa p).2];exact q2
   rw[Cc,Cc,CQ q,CQ q3]at g1
   rw[CQ q,CQ q3]
   exact BL some g1
  ·rw[EA<|by lia,EA<|by rw[(fa p).2,<-h.len];lia]
 have he:=h.eq
 rw[e]at he
 rw[he]
 rfl
end
noncomputable def PL(g:B4)(s n:Nat):List V:=(BO n).map fun i=>V.ref (g.pp 1<|s+i)
def Yv(h:i<n):(PL g s n)[i]?=some (.ref<|g.pp 1<|s+i):=by
 unfold PL
 rw[CZ,Gq h]
 rfl
def Tv:(PL g s n).length=n:=by unfold PL;rw[A8,CO]
def ud(h:(PL g s n)[i]?=some x):i<n/\x= .ref (g.pp 1<|s+i):=by
 have hi:i<n:=by
  rcases Dg i n with q | q
  ·exact q
  ·rw[EA<|by rw[Tv];exact q]at h;cases h
 rw[Yv hi]at h
 exact⟨hi,(C5 h).symm⟩
def uV:(AD a+1)%((PL g s n).length:Int)=AD ((a+1)%n):=by
 rw[Tv]
 rfl
inductive ACj(K:AS)(A:B3)(vs:List V)(H:Hp)(Q:VK)(E:XK):Prop
 | mk: ∀ z W v m0 r E' L s n t x,vs= [.ref L,.int (AD t),.int (AD (kx x))]->BX K A E' z W v m0 H r->W L=some (.lst (PL z.g s n))->s+n<=(m0.zone 1).size->t<n->Tc m0.zone1 x (s+t)=true->((∀ e,e<n->e≠t->Tc m0.zone1 x (s+e)=false))->(∀ m' H',LS m0 m' x s n (fun _=>True)->BX K A E' z W v m' H' r->Q .non H')->ACj K A vs H Q E
inductive ACm(K:AS)(A:B3)(vs:List V)(H:Hp)(Q:VK)(E:XK):Prop
 | mk: ∀ z W v m0 m r E' L s n f d x D,vs= [.ref L,.int (AD f),.int (AD ((f+d)%n)),.int (AD (kx x))]->LS m0 m x s n D->BX K A E' z W v m H r->W L=some (.lst (PL z.g s n))->s+n<=(m0.zone 1).size->(f<n/\0<d/\d<n)->Tc m0.zone1 x (s+f)=true->Tc m0.zone1 x (s+(f+d)%n)=true->((∀ e,0<e->e<d->Tc m0.zone1 x (s+(f+e)%n)=false))->(∀ m' H',LS m0 m' x s n (fun i=>D i\/ ∃ e,0<e/\e<d/\i=(f+e)%n)->BX K A E' z W v m' H' r->Q .non H')->ACm K A vs H Q E
section
variable{W:Hp}{v:Var}{m:Ht.M}{H:Hp}{Q:VK}{E E':XK}{z:Fx}{r:Ht.R Ht.M}
def AFW(c:BX K A E z W v m H r)(h:p<(m.zone 1).size/\a<(m.zone 1).size/\b<(m.zone 1).size)(k:Q (.int<|k_ (Ht.axis x<|(m.zone 1).was p) (Ht.axis x<|(m.zone 1).was a) (Ht.axis x<|(m.zone 1).at_ a) (Ht.axis x<|(m.zone 1).was b)<|Ht.axis x<|(m.zone 1).at_ b) H):ACv K A [.ref<|z.g.pp 1 p,.ref<|z.g.pp 1 a,.ref<|z.g.pp 1 b,.int<|AD<|kx x] H Q E':=⟨W,z.g,v,m,p,a,b,x,rfl,c.h,h,k⟩
end
def yy{f a b n:Nat}(hf:f<n)(ha:a<n)(hb:b<n)(h:(f+a)%n=(f+b)%n):a=b:=by
 rcases Dg (f+a) n with p | p<;>rcases Dg (f+b) n with q | q
 ·rw[Bu p,Bu q]at h;lia
 ·rw[Bu p,FK q,Bu<|by lia]at h;lia
 ·rw[Bu q,FK p,Bu<|by lia]at h;lia
 ·rw[FK p,Bu<|by lia,FK q,Bu<|by lia]at h;lia
noncomputable def AAt(σ:List (Option V)):Nat:=match σ.getD 4 none with
 | some (V.int i)=>i.toNat
 | _=>0
def AAz(hf:f<n)(hj:j+1<=d)(hd:d<n):((f+d)%n+n- (f+1+j)%n)%n=d-1-j:=by
 rcases Dg (f+d) n with p | p
 ·rw[Bu p,Bu<|show f+1+j<n by lia,show f+d+n- (f+1+j)=(d-1-j)+n by lia,O8,Bu<|by lia]
 ·have e:(f+d)%n=f+d-n:=by rw[FK p,Bu<|by lia]
  rw[e]
  rcases Dg (f+1+j) n with q | q
  ·rw[Bu q,show f+d-n+n- (f+1+j)=d-1-j by lia,Bu<|by lia]
  ·have e2:(f+1+j)%n=f+1+j-n:=by rw[FK q,Bu<|by lia]
   rw[e2,show f+d-n+n- (f+1+j-n)=(d-1-j)+n by lia,O8,Bu<|by lia]
def Xp :O0 P w base 2 97 ["points","touched","axis"] (ACj K A):=by
 refine T.U7.F.DQ ["points","touched","axis","leader","moved","number","point"] fun H vs Q E hr h=>?_
 obtain⟨z,W,v,m0,r,E',L,s',n,t,x,rfl,c,hL,hs,ht,tt,un,k⟩:=h
 refine⟨_,(AB (AO 3<|A9 Ab AH AV)<|AB (AO 4<|AU B1 (A9 Ab (AR A6) Aj)<|A9 Ab (AR A6) Aj)<|AF<|EM Ig rfl (Ss rfl T.k.Hm<|Af AH) (Qc rfl<|Dj (FV 5)<|Dj (FV 6) Lh)<|AF<|Aq (A0 Ep ES AV) (AF<|Hy (Ah Dv T.cut<|Af<|AU BJ (A9 Ab (AR<|pv 6) Aj) CG)<|IC (AR<|pv 6) Aj set_list) AX),?_⟩
 have hz: ∀ i,i<n->s'+i<(m0.zone 1).size:=fun i hi=>by lia
 refine⟨BF.of<|c.h.sub _ _ hL,Kk<|Yv ht,c.h.pt Ak<|hz t ht,Aa,CF _ _ _,BF.of<|c.h.pn Ak<|hz t ht,Cg,c.h.pt Ak<|hz t ht,Aa,Bx _ _ _,BF.of<|c.h.po Ak<|hz t ht,Cg,?_⟩
 obtain⟨mv,hmv⟩: ∃ mv,mv=Ht.axis x ((m0.zone 1).at_ (s'+t))-Ht.axis x ((m0.zone 1).was (s'+t)):=⟨_,rfl⟩
 delta WT RI
 dsimp only
 rw[<-hmv]
 refine⟨_,_,rfl,BF.of<|c.h.sub _ _ hL,?_⟩
 refine N6 (a:=L) (xs:=PL z.g s' n) (fun i σ H'=> ∃ m o1 o2,σ= [some<|.ref L,some<|.int<|AD t,some<|.int<|AD<|kx x,some<|.ref<|z.g.pp 1<|s'+t,some<|.int mv,o1,o2]/\LS m0 m x s' n (fun j=>j<i)/\BX K A E' z W v m H' r) ⟨m0,none,none,rfl,LS.refl.more (fun _ q=>q.elim) fun _ _ q _=>absurd q<|HW _,c⟩ ?_ ?_ ?_
 ·rintro i σ H1 hi ⟨m,o1,o2,rfl,ls,c⟩
  exact BF.of<|c.h.sub _ _ hL
 ·rintro i y σ H1 tp hy htp ⟨m,o1,o2,rfl,ls,c⟩
  obtain⟨hi,rfl⟩:=ud hy
  replace c:=c.new (o:= .tup [.int (i:Nat),.ref<|z.g.pp 1<|s'+i]) htp
  have hiS:s'+i<(m.zone 1).size:=by rw[ls.size];exact hz i hi
  refine⟨_,_,rfl,Dd.of AJ,rfl,_,_,rfl,_,_,rfl,rfl,rfl,A7 (fun e=>?_) fun e=>?_⟩
  ·refine⟨c.h.pt Ak hiS,Aa,CF _ _ _,BF.of<|c.h.pn Ak hiS,Cg,_,rfl,trivial,c.h.pt Ak hiS,Aa,CF _ _ _,_,_,_,kx x,rfl,rfl,c.h.pn Ak hiS,AA7,?_⟩
   rw[wG]
   have at0:(m.zone 1).at_ (s'+i)=m0.zone1.at_ (s'+i):=ls.nd i hi<|Fo _
   have hu:Ht.cut (Ht.axis x ((m.zone 1).at_<|s'+i)+mv)=Ht.led m0.zone1 x (cs s' n) i:=by
    rw[AAW ht hi (neN e) tt un,hmv,at0]
    rfl
   exact⟨_,_,_,rfl,(ls.step hi hs hu).more (fun j q=>by lia) fun j _ q1 q2=>by lia,c.go same_refl (c.h.qK Ak hiS<|qp (MX c.h.good Ak hiS)<|Dk _) FZ EY⟩
  ·refine⟨m,_,_,rfl,ls.more (fun j q=>by lia) fun j _ q1 q2=>?_,c⟩
   have:j=t:=by lia
   rw[this]
   exact .inl tt
 ·rintro σ H1 ⟨m,o1,o2,rfl,ls,c⟩
  rw[Tv]at ls
  exact k m H1 (ls.more (fun _ _=>trivial) fun j hj _ q=>absurd hj q) c
def YB :O0 P w base 3 98 ["points","first","second","axis"] (ACm K A):=by
 refine T.Uk.F.DQ ["points","first","second","axis","number"] fun H vs Q E hr h=>?_
 obtain⟨z,W,v,m0,m,r,E',L,s',n,f,d,x,D,rfl,ls,c,hL,hs,⟨hf,hd0,hdn⟩,tf,ts,un,k⟩:=h
 refine⟨_,(AB (AO 4<|AU Dz (AU BJ AV AE)<|Dc T.k.CD<|Af AH)<|AF<|JO Ig (A0 Ep CG Aj)<|AB (Hy (Ah Dv T.cut<|Af<|Ah cZ T.a_<|Rp (A9 Ab AH CG) (A9 Ab AH AV) (A9 Ab AH Aj) A6)<|IC (AR<|A9 Ab AH CG) A6 set_list)<|AF<|AO 4<|AU Dz (AU BJ CG AE)<|Dc T.k.CD<|Af AH),?_⟩
 have n0:0<n:=by lia
 have ln:(0:Int)<((PL z.g s' n).length:Int):=by rw[Tv];exact BQ.mpr n0
 have hsec:(f+d)%n<n:=E9 _ n0
 have hz: ∀ i,i<n->s'+i<(m0.zone 1).size:=fun i hi=>by lia
 refine⟨.inl<|BF.of<|c.h.sub _ _ hL,ln,?_⟩
 show Rb 4 (.int<|(AD f+1)%((PL z.g s' n).length:Int)) _ _ _
 rw[uV]
 refine Nm (fun σ H'=> ∃ j m,j+1<=d/\σ= [some<|.ref L,some<|.int<|AD f,some<|.int<|AD<|(f+d)%n,some<|.int<|AD<|kx x,some<|.int<|AD<|(f+1+j)%n]/\LS m0 m x s' n (fun i=>D i\/ ∃ e,0<e/\e<1+j/\i=(f+e)%n)/\BX K A E' z W v m H' r) (fun σ _=>((f+d)%n+n-AAt σ)%n) ⟨0,m,by lia,rfl,ls.more (fun _ q=> .inl q) fun i _ q1 q2=>?_,c⟩ ?_ fun σ H1 Q1 Q2 hq h=>Je.mono h fun x h=>Je.mono h fun y h=>⟨h.1,hq _ _ h.2⟩
 ·rcases q1 with q |⟨e,e1,e2,_⟩
  ·exact absurd q q2
  ·lia
 ·rintro σ H1 ⟨j,m1,hj,rfl,ls,c⟩
  have hnum:(f+1+j)%n<n:=E9 _ n0
  have pS:s'+(f+1+j)%n<(m1.zone 1).size:=by rw[ls.size];exact hz _ hnum
  have fS:s'+f<(m1.zone 1).size:=by rw[ls.size];exact hz _ hf
  have sS:s'+(f+d)%n<(m1.zone 1).size:=by rw[ls.size];exact hz _ hsec
  refine⟨rfl,A7 (fun e=>?_) fun e=>?_⟩
  ·have jd:j+1<d:=by
    rcases Dg (j+1) d with q | q
    ·exact q
    ·exact absurd (by rw[show f+1+j=f+d by lia])<|neN e
   refine⟨BF.of<|c.h.sub _ _ hL,Kk<|Yv hnum,BF.of<|c.h.sub _ _ hL,Kk<|Yv hf,BF.of<|c.h.sub _ _ hL,Kk<|Yv hsec,AFW c ⟨pS,fS,sS⟩<|⟨_,rfl,trivial,BF.of<|c.h.sub _ _ hL,Kk<|Yv hnum,c.h.pt Ak pS,Aa,CF _ _ _,_,_,_,kx x,rfl,rfl,c.h.pn Ak pS,AA7,?_⟩⟩
   rw[wG]
   have hu:Ht.cut (k_ (Ht.axis x<|(m1.zone 1).was<|s'+(f+1+j)%n) (Ht.axis x<|(m1.zone 1).was<|s'+f) (Ht.axis x<|(m1.zone 1).at_<|s'+f) (Ht.axis x<|(m1.zone 1).was<|s'+(f+d)%n)<|Ht.axis x<|(m1.zone 1).at_<|s'+(f+d)%n)=Ht.led m0.zone1 x (cs s' n) ((f+1+j)%n):=by
    rw[z8 hf hdn jd tf ts un,ls.was,ls.was,ls.was,ls.tat hf tf,ls.tat hsec ts]
    rfl
   have c2:=c.go same_refl (c.h.qK Ak pS (n:=Ht.withAxis x ((m1.zone 1).at_<|s'+(f+1+j)%n)<|Ht.cut<|k_ (Ht.axis x<|(m1.zone 1).was<|s'+(f+1+j)%n) (Ht.axis x<|(m1.zone 1).was<|s'+f) (Ht.axis x<|(m1.zone 1).at_<|s'+f) (Ht.axis x<|(m1.zone 1).was<|s'+(f+d)%n)<|Ht.axis x<|(m1.zone 1).at_<|s'+(f+d)%n)<|qp (MX c.h.good Ak pS)<|Dk _) FZ EY
   refine⟨.inl<|BF.of<|c2.h.sub _ _ hL,ln,?_⟩
   have en:(AD ((f+1+j)%n)+1)%((PL z.g s' n).length:Int)=AD ((f+1+(j+1))%n):=by
    rw[uV,show f+1+(j+1)=f+1+j+1 by lia,cq]
   refine⟨⟨j+1,_,by lia,?_,(ls.step hnum hs hu).more (fun i q=>?_) fun i _ q1 q2=>?_,c2⟩,?_⟩
   ·show [some<|V.ref L,_,_,_,some<|V.int<|(AD ((f+1+j)%n)+1)%((PL z.g s' n).length:Int)]=_
    rw[en]
   ·rcases q with(q |⟨e,a1,a2,a3⟩) | q
    ·exact .inl q
    ·exact .inr ⟨e,a1,by lia,a3⟩
    ·exact .inr ⟨1+j,by lia,by lia,by rw[q];congr 1;lia⟩
   ·rcases q1 with q |⟨e,a1,a2,a3⟩
    ·exact absurd (.inl<|.inl q) q2
    ·rcases Dg e (1+j)with w | w
     ·exact absurd (.inl<|.inr ⟨e,a1,w,a3⟩) q2
     ·have:e=1+j:=by lia
      exact absurd (.inr<|by rw[a3,this];congr 1;lia) q2
   ·show((f+d)%n+n-AAt [some<|V.ref L,some<|V.int<|AD f,some<|V.int<|AD<|(f+d)%n,some<|V.int<|AD<|kx x,some<|V.int<|(AD ((f+1+j)%n)+1)%((PL z.g s' n).length:Int)])%n<((f+d)%n+n- (f+1+j)%n)%n
    rw[en]
    show((f+d)%n+n- (f+1+(j+1))%n)%n<((f+d)%n+n- (f+1+j)%n)%n
    rw[AAz hf (by lia) hdn,AAz hf (by lia) hdn]
    lia
  ·have jd:1+j=d:=yy hf (by lia) hdn (by rw[<-(eqN e)];congr 1;lia)
   refine k m1 H1 (ls.more (fun i q=>?_) fun i _ q1 q2=>?_) c
   ·rcases q with q |⟨e,a1,a2,a3⟩
    ·exact .inl q
    ·exact .inr ⟨e,a1,by lia,a3⟩
   ·rcases q1 with q |⟨e,a1,a2,a3⟩
    ·exact absurd (.inl q) q2
    ·exact absurd (.inr ⟨e,a1,by lia,a3⟩) q2
end GF
end
section
namespace GF
open PySem PySem.Spec PyProof.Rows L2
section
noncomputable def Tl(z:Ht.Zone)(x:Bool)(s n:Nat):List Nat:=(BO n).filter fun i=>Tc z x (s+i)
variable{z:Ht.Zone}{x:Bool}{s n:Nat}
def xR:i∈Tl z x s n↔i<n/\Tc z x (s+i)=true:=by
 unfold Tl
 rw[cR,PV]
def mr:Tl z x s (n+1)=if Tc z x (s+n)=true then Tl z x s n++ [n]else Tl z x s n:=by
 unfold Tl
 rw[Ha,List.filter_append]
 by_cases q:Tc z x (s+n)=true
 ·rw[AI q];simp[q]
 ·rw[AG q];simp[q]
def ACh:(Tl z x s n).length<=n:=by
 unfold Tl
 exact CC (List.length_filter_le _ _)<|by rw[CO];exact BS _
def rq:(Tl z x s n).Pairwise (· < ·):=zL _ List.pairwise_lt_range
def YM(h:i<j)(hj:j<(Tl z x s n).length):(Tl z x s n).getD i 0<(Tl z x s n).getD j 0:=by
 rw[Cc,Cc,CQ hj,CQ<|by lia]
 exact(List.pairwise_iff_getElem.mp (rq) i j (by lia) hj h)
def Lg(hj:j<(Tl z x s n).length):(Tl z x s n).getD j 0<n/\Tc z x (s+(Tl z x s n).getD j 0)=true:=by
 have:(Tl z x s n).getD j 0∈Tl z x s n:=by
  rw[Cc,CQ hj]
  exact WZ hj
 exact xR.mp this
def WU(h:i<n)(t:Tc z x (s+i)=true): ∃ j,j<(Tl z x s n).length/\(Tl z x s n).getD j 0=i:=by
 obtain⟨j,hj,e⟩:=List.getElem_of_mem<|xR.mpr ⟨h,t⟩
 refine⟨j,hj,?_⟩
 rw[Cc,CQ hj]
 exact e
noncomputable def gap(T:List Nat)(n j:Nat):Nat:=if j+1<T.length then T.getD (j+1) 0-T.getD j 0 else T.getD 0 0+n-T.getD j 0
def ABl(hk:1<(Tl z x s n).length)(hj:j<(Tl z x s n).length):0<gap (Tl z x s n) n j/\gap (Tl z x s n) n j<n/\((Tl z x s n).getD j 0+gap (Tl z x s n) n j)%n=(Tl z x s n).getD ((j+1)%(Tl z x s n).length) 0/\
  ∀ e,0<e->e<gap (Tl z x s n) n j->Tc z x (s+((Tl z x s n).getD j 0+e)%n)=false:=by
 have gj:=Lg hj
 unfold gap
 by_cases q:j+1<(Tl z x s n).length
 ·rw[AI q]
  have lt:=YM (show j<j+1 by lia) q
  have g1:=Lg q
  refine⟨by lia,by lia,?_,fun e h1 h2=>?_⟩
  ·rw[Bu<|q,Bu<|by lia]
   lia
  ·rw[Bu<|by lia]
   cases w:Tc z x (s+((Tl z x s n).getD j 0+e))with
   | false=>rfl
   | true=>
    obtain⟨p,hp,ep⟩:=WU (show(Tl z x s n).getD j 0+e<n by lia) w
    rcases Dg p (j+1)with r | r
    ·rcases Dg p j with r2 | r2
     ·have:=YM r2 hj;lia
     ·have:p=j:=by lia
      subst this;lia
    ·rcases Dg (j+1) p with r2 | r2
     ·have:=YM r2 hp;lia
     ·have:p=j+1:=by lia
      subst this;lia
 ·rw[AG q]
  have hj':j=(Tl z x s n).length-1:=by lia
  have lt:=YM (z:=z) (x:=x) (s:=s) (n:=n) (show 0<j by lia) hj
  have g0:=Lg (z:=z) (x:=x) (s:=s) (n:=n) (j:=0)<|by lia
  refine⟨by lia,by lia,?_,fun e h1 h2=>?_⟩
  ·rw[show j+1=(Tl z x s n).length by lia,Nat.mod_self,show(Tl z x s n).getD j 0+((Tl z x s n).getD 0 0+n- (Tl z x s n).getD j 0)=(Tl z x s n).getD 0 0+n by lia,O8,Bu g0.1]
  ·cases w:Tc z x (s+((Tl z x s n).getD j 0+e)%n)with
   | false=>rfl
   | true=>
    obtain⟨p,hp,ep⟩:=WU (E9 _<|by lia) w
    rcases Dg ((Tl z x s n).getD j 0+e) n with r | r
    ·rw[Bu r]at ep
     rcases Dg p j with r2 | r2
     ·have:=YM r2 hj;lia
     ·have:p=j:=by lia
      subst this;lia
    ·rw[FK r,Bu<|by lia]at ep
     rcases Nat.eq_zero_or_pos p with r2 | r2
     ·subst r2;lia
     ·have:=YM r2 hp;lia
theorem ivt{Pr:Nat->Prop}(dec: ∀ i,Pr i\/ ¬ Pr i): ∀ k,Pr 0-> ¬ Pr k-> ∃ j,j<k/\Pr j/\ ¬ Pr (j+1)
 | 0,h0,hk=>absurd h0 hk
 | k+1,h0,hk=>by
  rcases dec k with p | p
  ·exact⟨k,PD _,p,hk⟩
  ·obtain⟨j,h1,h2,h3⟩:=ivt dec k h0 p
   exact⟨j,by lia,h2,h3⟩
def AAQ(hk:1<(Tl z x s n).length)(hi:i<n)(u:Tc z x (s+i)=false): ∃ j,j<(Tl z x s n).length/\ ∃ e,0<e/\e<gap (Tl z x s n) n j/\i=((Tl z x s n).getD j 0+e)%n:=by
 have ne: ∀ j,j<(Tl z x s n).length->(Tl z x s n).getD j 0≠i:=fun j hj q=>by
  have:=(Lg hj).2
  rw[q,u]at this;cases this
 have g0:=Lg (z:=z) (x:=x) (s:=s) (n:=n) (j:=0)<|by lia
 have gl:=Lg (z:=z) (x:=x) (s:=s) (n:=n) (j:=(Tl z x s n).length-1)<|by lia
 have l0:=YM (z:=z) (x:=x) (s:=s) (n:=n) (i:=0) (j:=(Tl z x s n).length-1) (by lia)<|by lia
 by_cases a:(Tl z x s n).getD 0 0<i
 ·by_cases b:(Tl z x s n).getD ((Tl z x s n).length-1) 0<i
  ·refine⟨(Tl z x s n).length-1,by lia,i- (Tl z x s n).getD ((Tl z x s n).length-1) 0,by lia,?_,?_⟩
   ·unfold gap;rw[AG<|by lia];lia
   ·rw[Bu<|by lia];lia
  ·obtain⟨j,h1,h2,h3⟩:=ivt (Pr:=fun j=>(Tl z x s n).getD j 0<i) (fun j=>Dg _ _ |>.imp id Nat.not_lt.mpr) ((Tl z x s n).length-1) a b
   have h4:=ne (j+1)<|by lia
   refine⟨j,by lia,i- (Tl z x s n).getD j 0,by lia,?_,?_⟩
   ·unfold gap;rw[AI<|by lia];lia
   ·rw[Bu<|by lia];lia
 ·have h4:=ne 0 (by lia)
  refine⟨(Tl z x s n).length-1,by lia,i+n- (Tl z x s n).getD ((Tl z x s n).length-1) 0,by lia,?_,?_⟩
  ·unfold gap;rw[AG<|by lia];lia
  ·rw[show(Tl z x s n).getD ((Tl z x s n).length-1) 0+(i+n- (Tl z x s n).getD ((Tl z x s n).length-1) 0)=i+n by lia,O8,Bu hi]
end
end GF
end
section
namespace GF
open PySem PySem.Spec PyProof.Rows L2
variable{P:BH}{w:Ao}{K:AS}{mg:Str->Option AN}{base:Az}{A:B3}[T:Txt K mg A]
def z9{gg:TG}{tt:TT}{te:TE}{Qd:Hp->Prop}(Pv:Nat->Hp->Prop)(h0:Pv 0 (upd H1 D<|.lst []))(hl: ∀ i H,i<=xs.length->Pv i H->BF K H a xs)
  (hs: ∀ i x H t,xs[i]?=some x->H t=none->Pv i H->gg (.ref t) (wipe σ vs) (upd H t<|.tup [.int (i:Nat),x]) fun σ2 H2=>wipe σ2 vs=wipe σ vs/\tt σ2 H2 fun b H3=>
   if b=true then te σ2 H3 fun y H4=> ∃ acc,H4 D=some (.lst acc)/\acc.length<sizeLine/\Pv (i+1) (upd H4 D<|.lst<|acc++ [y])else Pv (i+1) H3) (hd: ∀ H,Pv xs.length H->Qd H):
  ∃ W:Nat->Nat->Hp->Prop,(∃ m,W 0 m<|upd H1 D<|.lst [])/\ ∀ i m H,W i m H->
   ((Ite K a).stop i H/\Qd H)\/((Ite K a).go i H/\ ∃ Nx:Hp->Prop,(∀ H',Nx H'-> ∃ m',m'<m/\W (i+1) m' H')/\ ∀ x H',(Ite K a).t_ i H x H'->gg x (wipe σ vs) H' fun σ2 H2=>wipe σ2 vs=wipe σ vs/\tt σ2 H2 fun b H3=>
    if b=true then te σ2 H3 fun y H4=> ∃ acc,H4 D=some (.lst acc)/\acc.length<sizeLine/\Nx (upd H4 D<|.lst<|acc++ [y])else Nx H3):=by
 refine⟨fun i m H=>m=xs.length-i/\i<=xs.length/\Pv i H,⟨xs.length,by simp,B6 _,h0⟩,?_⟩
 rintro i m H ⟨rfl,hi,p⟩
 have q:=hl i H hi p
 by_cases hlt:i<xs.length
 ·refine .inr ⟨⟨xs,xs[i],q,by simp[hlt]⟩,Pv<|i+1,fun H' p'=>⟨xs.length- (i+1),by lia,rfl,hlt,p'⟩,fun x H' y=>?_⟩
  obtain⟨t,x',rfl,ht,rfl,y⟩:=y
  exact hs i x' H t (y xs q) ht p
 ·have e:i=xs.length:=by lia
  subst e
  exact .inl ⟨⟨xs,q,BS _⟩,hd H p⟩
def RL.new(h:RL K A W g v m H l o)(f:H k=none):RL K A W g v m (upd H k o') l o:=by
 exact⟨h.r.new f,by rw[AQ<|Ac h.at_ f];exact h.at_,h.w,h.ne⟩
def ACe(h:k<8):(!decide (V.int (De (AD k)<|AD<|tb x)=V.int 0))=Ht.has k (tb x):=by
 have:=xh<|by assumption
 cases x<;>rcases this with rfl | rfl | rfl | rfl | rfl | rfl | rfl | rfl<;>decide+kernel
inductive ACE(K:AS)(A:B3)(vs:List V)(H:Hp)(Q:VK)(E:XK):Prop
 | mk: ∀ z W v m0 r E' L s n x,vs= [.ref L,.int (AD (kx x))]->BX K A E' z W v m0 H r->W L=some (.lst (PL z.g s n))->s+n<=(m0.zone 1).size->(∀ W' H',Bc W W'->BX K A E' z W' v {m0 with zone1:=Ht.ledContour x m0.zone1 (cs s n)} H' r->Q .non H')->ACE K A vs H Q E
section
variable{W:Hp}{v:Var}{m0 m:Ht.M}{H:Hp}{Q:VK}{E E':XK}{z:Fx}{r:Ht.R Ht.M}{L:AK}{s n t f d:Nat}{x:Bool}{D:Nat->Prop}
def AFe(c:BX K A E z W v m0 H r)(hL:W L=some (.lst<|PL z.g s n))(hs:s+n<=(m0.zone 1).size)(ht:t<n)(tt:Tc m0.zone1 x (s+t)=true)(un: ∀ e,e<n->e≠t->Tc m0.zone1 x (s+e)=false)(k: ∀ m' H',LS m0 m' x s n (fun _=>True)->BX K A E z W v m' H' r->Q .non H'):ACj K A [.ref L,.int<|AD t,.int<|AD<|kx x] H Q E':=⟨z,W,v,m0,r,E,L,s,n,t,x,rfl,c,hL,hs,ht,tt,un,k⟩
def AF7(ls:LS m0 m x s n D)(c:BX K A E z W v m H r)(hL:W L=some (.lst<|PL z.g s n))(hs:s+n<=(m0.zone 1).size)(h3:f<n/\0<d/\d<n)(tf:Tc m0.zone1 x (s+f)=true)(ts:Tc m0.zone1 x (s+(f+d)%n)=true)(un: ∀ e,0<e->e<d->Tc m0.zone1 x (s+(f+e)%n)=false)
  (k: ∀ m' H',LS m0 m' x s n (fun i=>D i\/ ∃ e,0<e/\e<d/\i=(f+e)%n)->BX K A E z W v m' H' r->Q .non H'):ACm K A [.ref L,.int<|AD f,.int<|AD<|(f+d)%n,.int<|AD<|kx x] H Q E':=⟨z,W,v,m0,m,r,E,L,s,n,f,d,x,D,rfl,ls,c,hL,hs,h3,tf,ts,un,k⟩
end
def zo{x:Bool}{σ:L2.St}{H:Hp}{Q:VK}(h:tC (.int<|AD<|tb x) σ H Q):if decide (V.int (AD<|kx x)=V.int 0)=true then tC (.int 2) σ H Q else tC (.int 4) σ H Q:=by cases x<;>exact h
def VU :O0 P w base 4 99 ["points","axis"] (ACE K A):=by
 refine T.R5.F.DQ ["points","axis","mark","touched","place","first","number","point"] @fun _ _ _ s H vs Q E hr h=>?_
 obtain⟨z,W,v,m0,r,E',L,s',n,x,rfl,c,hL,hs,k⟩:=h
 refine⟨_,(AB (jt (i:=2) (show Ij (["points","axis","mark","touched","place","first","number","point"]:List Str) by decide+kernel) rfl (DC rfl)<|Bn (A0 BD AV AE) (Bt T.k.OJ)<|Bt T.k.NW)<|AB (Xo (i:=3) (own:= [("number",6),("point",7)]) rfl (show Ij (["points","axis","mark","touched","place","first","number","point"]:List Str) by decide+kernel) rfl rfl (d4 rfl rfl rfl<|by decide+kernel) (Ss rfl T.k.Hm<|Af AH) (show NJ ["points","axis","mark","touched","place","first","number","point"] (BY<|top 122) _ _ from LN<|by decide+kernel) (fun _ _ _ _ _=>(show PG _ _ (AE2 K 2 _)from Qc rfl<|Dj (FV 6)<|Dj (FV 7) Lh)) (fun _ _ _ _ _=>(y2<|A0 Ep (AU UQ (show PE _ _ (vt K _ _)from cV (pv 7) rfl) Aj) AE)) fun _ _ _ _ _=>(pv 6))<|AB (Aq (A0 BD (Dc T.k.CD<|Af A6) AE) (AF<|Ad<|Ah Xp T.U7<|CH AH (A9 Ab A6 AE) AV) AX)<|AF<|Aq (A0 DE (Dc T.k.CD<|Af A6) AE) (AF<|EM Ig rfl (Ss rfl T.k.Hm<|Af A6) (Qc rfl<|Dj (FV 4)<|Dj (FV 5) Lh)<|AF<|Ad<|Ah YB T.Uk<|Rp AH ES (A9 Ab A6<|AU Dz (AU BJ CG AE)<|Dc T.k.CD<|Af A6) AV) AX),?_⟩
 refine⟨rfl,zo ⟨_,_,rfl,BF.of<|c.h.sub _ _ hL,fun D hD=>?_⟩⟩
 refine z9 (K:=K) (a:=L) (xs:=PL z.g s' n) (fun i H'=>RL K A W z.g v m0 H' D<|.lst<|eV<|Tl m0.zone1 x s' i) (RL.kQ c.h hD) ?_ ?_ ?_
 ·intro i H1 _ hR
  exact BF.of<|hR.r.sub _ _ hL
 ·intro i y H1 t hy ht hR
  obtain⟨hi,rfl⟩:=ud hy
  have hR2:=hR.new (o':= .tup [.int (i:Nat),.ref<|z.g.pp 1<|s'+i]) ht
  have hiS:s'+i<(m0.zone 1).size:=by lia
  have mk8:=J8 hR2.r.good Ak hiS
  refine⟨_,_,rfl,Dd.of AJ,rfl,_,_,rfl,_,_,rfl,rfl,rfl,hR2.r.pt Ak hiS,Aa,LG _ _ _,rfl,?_⟩
  have be:=ACe (x:=x) mk8
  refine A7 (fun w=>?_) fun w=>?_
  ·have q:Tc m0.zone1 x (s'+i)=true:=be.symm.trans w
   refine⟨_,hR2.at_,?_,?_⟩
   ·unfold eV;rw[A8]
    have l1:=ACh (z:=m0.zone1) (x:=x) (s:=s') (n:=i)
    have l2:(m0.zone 1).size<=64:=c.h.good.zone1.ZA
    exact Ez (show _<=64 by lia)<|by decide
   ·rw[mr,AI q]
    show RL K A W z.g v m0 _ D (.lst<|List.map _<|_++ [i])
    rw[E6]
    exact hR2.ACg
  ·have q: ¬ Tc m0.zone1 x (s'+i)=true:=fun q=>w (be.trans q)
   rw[mr,AG q]
   exact hR2
 intro H1 hR
 rw[Tv]at hR
 obtain⟨T,hT⟩: ∃ T,T=Tl m0.zone1 x s' n:=⟨_,rfl⟩
 have sW:Bc W (upd W D<|.lst<|eV T):=Bd hR.w
 have c1:=c.go sW<|by rw[hT];exact hR.ko
 have hL1:=sW _ _ hL
 have hTL: ∀{H2:Hp} {m2:Ht.M},R K A (upd W D<|.lst<|eV T) z.g v m2 H2->BF K H2 D (eV T):=fun h=>BF.of<|h.sub _ _ AJ
 have lenT:((eV T).length:Int)=AD T.length:=uR
 refine⟨.inl<|hTL c1.h,rfl,?_⟩
 rw[lenT]
 refine A7 (fun e=>?_) fun e=>?_
 ·have e1:=B7 (V.int.inj<|An e)
  have g0:=Lg (z:=m0.zone1) (x:=x) (s:=s') (n:=n) (j:=0)<|by rw[<-hT,e1];decide
  rw[<-hT]at g0
  refine⟨hTL c1.h,rC<|by rw[e1];decide,AFe c1 hL1 hs g0.1 g0.2 (fun e' he' ne=>?_) fun m' H2 ls c2=>?_⟩
  ·cases w:Tc m0.zone1 x (s'+e')with
   | false=>rfl
   | true=>
    obtain⟨p,hp,ep⟩:=WU he' w
    rw[<-hT]at hp ep
    have:p=0:=by lia
    subst this
    exact absurd ep.symm ne
  ·refine⟨.inl<|hTL c2.h,?_⟩
   show if decide ((1:Int)<((eV T).length:Int))=true then _ else _
   rw[lenT,e1]
   refine A7 (fun e=>absurd (An e)<|by decide) fun e=>?_
   have ef:=ls.fin hs fun _ _=>trivial
   subst ef
   exact k _ H2 sW c2
 have n1: ¬ T.length=1:=fun q=>e<|Av<|by rw[q];rfl
 refine⟨.inl<|hTL c1.h,?_⟩
 rw[lenT]
 refine A7 (fun e=>?_) fun e=>?_
 ·have hk:=BQ.mp (An e)
  have hk':1<(Tl m0.zone1 x s' n).length:=by rw[<-hT];exact hk
  refine⟨_,_,rfl,hTL c1.h,?_⟩
  refine N6 (a:=D) (xs:=eV T) (fun j σ H'=> ∃ m o1 o2 o3,σ= [some<|.ref L,some<|.int<|AD<|kx x,o3,some<|.ref D,o1,o2,none,none]/\LS m0 m x s' n (fun i=> ∃ q,q<j/\ ∃ e,0<e/\e<gap T n q/\i=(T.getD q 0+e)%n)/\BX K A E' z (upd W D<|.lst<|eV T) v m H' r) ⟨m0,none,none,_,rfl,LS.refl.more (fun _ q=>q.elim) fun i _ q _=>by obtain⟨q,hq,_⟩:=q;lia,c1⟩ ?_ ?_ ?_
  ·rintro j σ H2 hj ⟨m,o1,o2,o3,rfl,ls,c⟩
   exact hTL c.h
  ·rintro j y σ H2 tp hy htp ⟨m,o1,o2,o3,rfl,ls,c⟩
   have hj:j<T.length:=by
    rcases Dg j T.length with q | q
    ·exact q
    ·rw[EA<|by unfold eV;rw[A8];exact q]at hy;cases hy
   have hy2:y= .int (AD<|T.getD j 0):=by
    unfold eV at hy
    rw[CZ,CQ hj]at hy
    rw[Cc,CQ hj]
    exact(C5 hy).symm
   subst hy2
   replace c:=c.new (o:= .tup [.int (j:Nat),.int<|AD<|T.getD j 0]) htp
   obtain⟨g1,g2,g3,g4⟩:=ABl hk'<|by rw[<-hT];exact hj
   have gj:=Lg<|by rw[<-hT];exact hj
   have hm:(j+1)%T.length<T.length:=E9 _<|by lia
   have gs:=Lg (s:=s') (n:=n) (j:=(j+1)%T.length)<|by rw[<-hT];exact hm
   rw[<-hT]at g1 g2 g3 g4 gj gs
   refine⟨_,_,rfl,Dd.of AJ,rfl,_,_,rfl,_,_,rfl,rfl,?_⟩
   have ixe:((j:Int)+1)%((eV T).length:Int)=AD ((j+1)%T.length):=by rw[lenT];rfl
   have atx:XA (eV T) (((j:Int)+1)%((eV T).length:Int))=some (.int<|AD<|(T.getD j 0+gap T n j)%n):=by rw[ixe,rC hm,g3]
   refine⟨.inl<|hTL c.h,(by rw[lenT];exact BQ.mpr<|show 0<T.length by lia),hTL c.h,atx,AF7 (x:=x) ls c hL1 hs ⟨gj.1,g1,g2⟩ gj.2 (by rw[g3];exact gs.2) g4 fun m' H3 ls2 c2=>?_⟩
   refine⟨m',_,_,_,rfl,ls2.more (fun i q=>?_) fun i _ q1 q2=>?_,c2⟩
   ·rcases q with⟨q,hq,e',w⟩ |⟨e',w⟩
    ·exact⟨q,by lia,e',w⟩
    ·exact⟨j,by lia,e',w⟩
   ·obtain⟨q,hq,e',w⟩:=q1
    rcases Dg q j with r1 | r1
    ·exact absurd (.inl ⟨q,r1,e',w⟩) q2
    ·have:q=j:=by lia
     subst this
     exact absurd (.inr ⟨e',w⟩) q2
  ·rintro σ H2 ⟨m,o1,o2,o3,rfl,ls,c⟩
   rw[show(eV T).length=T.length by unfold eV;rw[A8]]at ls
   have lsA:LS m0 m x s' n (fun _=>True):=ls.more (fun _ _=>trivial) (fun i hi _ nq=>by
    cases w:Tc m0.zone1 x (s'+i)with
    | true=>exact .inl rfl
    | false=>
     obtain⟨j,hj,e',w'⟩:=AAQ hk' hi w
     rw[<-hT]at hj w'
     exact absurd ⟨j,hj,e',w'⟩ nq)
   have ef:=lsA.fin hs fun _ _=>trivial
   subst ef
   exact k _ H2 sW c
 ·have hk: ¬ 1<T.length:=fun q=>e (Av<|BQ.mpr q)
  have un: ∀ e',e'<n->Tc m0.zone1 x (s'+e')=false:=fun e' he'=>by
   cases w:Tc m0.zone1 x (s'+e')with
   | false=>rfl
   | true=>
    obtain⟨p,hp,ep⟩:=WU he' w
    rw[<-hT]at hp
    lia
  have lsA:LS m0 m0 x s' n (fun _=>True):=LS.refl.more (fun _ _=>trivial) fun i hi _ _=> .inr<|vP hi un
  have ef:=lsA.fin hs fun _ _=>trivial
  rw[ef]at c1
  exact k _ H1 sW c1
def uj(hb:b<N)(ha:a<=b+1):cC ((BO N).map fun i=>V.ref<|g.pp 1 i) (some<|AD a) (some<|AD b+1)=PL g a (b+1-a):=by
 unfold cC
 rw[A8,CO]
 have e1:HT.gB N 0 (some<|AD a)=a:=(HT.WB N 0 a).trans<|Wm<|by lia
 have e2:HT.gB N N (some<|AD b+1)=b+1:=(HT.WB N N<|b+1).trans<|Wm<|by lia
 rw[e1,e2]
 apply Oa
 intro i
 by_cases q:i<b+1-a
 ·rw[Yv q,mC,AI q,V3,CZ,Gq<|by lia]
  rfl
 ·rw[EA<|by rw[HN,G3,A8,CO];lia,EA<|by rw[Tv];lia]
noncomputable def Gk(x:Bool)(m:Ht.M)(k:Nat):Ht.M:={m with zone1:=(BO k).foldl (fun y c=>Ht.ledContour x y<|Ht.contour m.ends c) m.zone1}
def X4:Gk x m (k+1)={Gk x m k with zone1:=Ht.ledContour x (Gk x m k).zone1<|cs (cst m.ends k)<|m.ends.getD k 0+1-cst m.ends k}:=by
 unfold Gk
 rw[Ha,WH]
 rfl
noncomputable def xB(g:B4):Bool:=!decide (g.byte=48)
noncomputable def GI(g:B4)(m:Ht.M):Ht.R Ht.M:= .ok {m with zone1:=Ht.ledAlong (xB g) m.ends m.zone1}
def ADP(c:BX K A E z W v m0 H r)(hL:W L=some (.lst<|PL z.g s n))(hs:s+n<=(m0.zone 1).size)
  (k: ∀ W' H',Bc W W'->BX K A E z W' v {m0 with zone1:=Ht.ledContour x m0.zone1<|cs s n} H' r->Q .non H'):ACE K A [.ref L,.int<|AD<|kx x] H Q E':=⟨z,W,v,m0,r,E,L,s,n,x,rfl,c,hL,hs,k⟩
theorem jo: ∀{l:List Nat} {j:Nat},N7 n l->j<l.length->cst l j<=l.getD j 0
 | l,0,_,_=>B6 _
 | [],j+1,_,h=>absurd h<|HW _
 | [a],j+1,_,h=>absurd (show j+1<1 from h)<|by lia
 | a::b::l,0+1,h,q=>h.1
 | a::b::l,(j+1)+1,h,q=>jo (l:=b::l) (j:=j+1) h.2<|oh q
def QE :OB P w base 5 100 GI (fun b=>b=48\/b=49):=by
 refine T.Q_.F.ji ["run","axis","ends","contour","end"] fun H Q E W g v m hr hb c=>⟨_,(AB (AO 1<|Bn (A0 BD (AR AH) AE) AE AE)<|AB (AO 2<|AR<|AR AH)<|AF<|EM Ig rfl (Ss rfl T.k.Hm<|Af Aj) (Qc rfl<|Dj (FV 3)<|Dj (FV 4) Lh)<|AF<|Ad<|Ah VU T.R5<|Ax (iO rD (AR<|AR AH) (W_<|Ah K3 T.Ki<|Ax Aj A6)<|W_<|AU BJ CG AE) AV),?_⟩
 rcases hb with hb | hb
 ·have xe:xB g=false:=by unfold xB;rw[hb];rfl
  refine⟨c.rn,AL,BM,rfl,A7 (fun _=>?_) fun q=>absurd (by rw[hb];rfl) q⟩
  refine⟨c.rn,AL,A_,c.h.gr,AW,bw,?_⟩
  have c0:BX K A E ⟨W,g,m.steps,m.inFont,Q⟩ W v (Gk false m 0) H (.ok<|Gk false m m.ends.length):=by
   have q:=c
   unfold GI at q
   rw[xe]at q
   exact q
  refine⟨_,_,rfl,BF.of c.h.Us,?_⟩
  refine N6 (a:=g.ends) (xs:=eV m.ends) (fun j σ H'=> ∃ W' o1 o2,σ= [some<|.ref g.run,some<|.int<|AD<|kx false,some<|.ref g.ends,o1,o2]/\BX K A E ⟨W,g,m.steps,m.inFont,Q⟩ W' v (Gk false m j) H' (.ok<|Gk false m m.ends.length)) ⟨W,none,none,rfl,c0⟩ ?_ ?_ ?_
  ·rintro j σ H1 hj ⟨W1,o1,o2,rfl,c⟩
   exact BF.of c.h.Us
  ·rintro j y σ H1 tp hy htp ⟨W1,o1,o2,rfl,c⟩
   have hj:j<m.ends.length:=by
    rcases Dg j m.ends.length with q | q
    ·exact q
    ·rw[EA<|by unfold eV;rw[A8];exact q]at hy;cases hy
   have hy2:y= .int (AD<|m.ends.getD j 0):=by
    unfold eV at hy
    rw[CZ,CQ hj]at hy
    rw[Cc,CQ hj]
    exact(C5 hy).symm
   subst hy2
   replace c:=c.new (o:= .tup [.int (j:Nat),.int<|AD<|m.ends.getD j 0]) htp
   have hx:m.ends.getD j 0<((Gk false m j).zone 1).size:=PU c.h.good.LK hj
   have hc:cst m.ends j<=m.ends.getD j 0:=jo c.h.good.LK hj
   refine⟨_,_,rfl,Dd.of AJ,rfl,_,_,rfl,_,_,rfl,rfl,?_⟩
   refine⟨c.rn,AL,A_,c.h.gr,AW,G_,_,_,j,rfl,BF.of c.h.Us,HS hj,_,rfl,_,rfl,_,_,rfl,BF.of<|c.h.zl Ak,fun p hp=>?_⟩
   show KH (Jd 1) UC _ (upd _ p<|.lst<|cC ((BO ((Gk false m j).zone 1).size).map fun i=>V.ref<|g.pp 1 i) (some<|AD<|cst m.ends j)<|some<|AD (m.ends.getD j 0)+1) _
   rw[uj hx<|by lia]
   have c1:=c.M4 (o:= .lst<|PL g (cst m.ends j)<|m.ends.getD j 0+1-cst m.ends j) hp
   refine ADP c1 AJ (by show cst m.ends j+(m.ends.getD j 0+1-cst m.ends j)<=((Gk false m j).zone 1).size;lia) fun W2 H2 s2 c2=>⟨W2,_,_,rfl,?_⟩
   rw[X4]
   exact c2
  ·rintro σ H1 ⟨W1,o1,o2,rfl,c⟩
   rw[show(eV m.ends).length=m.ends.length by unfold eV;rw[A8]]at c
   exact c.done
 ·have xe:xB g=true:=by unfold xB;rw[hb];rfl
  refine⟨c.rn,AL,BM,rfl,A7 (fun q=>absurd (q)<|by rw[hb];decide) fun _=>⟨c.rn,AL,A_,c.h.gr,AW,bw,?_⟩⟩
  have c0:BX K A E ⟨W,g,m.steps,m.inFont,Q⟩ W v (Gk true m 0) H (.ok<|Gk true m m.ends.length):=by
   have q:=c
   unfold GI at q
   rw[xe]at q
   exact q
  refine⟨_,_,rfl,BF.of c.h.Us,?_⟩
  refine N6 (a:=g.ends) (xs:=eV m.ends) (fun j σ H'=> ∃ W' o1 o2,σ= [some<|.ref g.run,some<|.int<|AD<|kx true,some<|.ref g.ends,o1,o2]/\BX K A E ⟨W,g,m.steps,m.inFont,Q⟩ W' v (Gk true m j) H' (.ok<|Gk true m m.ends.length)) ⟨W,none,none,rfl,c0⟩ ?_ ?_ ?_
  ·rintro j σ H1 hj ⟨W1,o1,o2,rfl,c⟩
   exact BF.of c.h.Us
  ·rintro j y σ H1 tp hy htp ⟨W1,o1,o2,rfl,c⟩
   have hj:j<m.ends.length:=by
    rcases Dg j m.ends.length with q | q
    ·exact q
    ·rw[EA<|by unfold eV;rw[A8];exact q]at hy;cases hy
   have hy2:y= .int (AD<|m.ends.getD j 0):=by
    unfold eV at hy
    rw[CZ,CQ hj]at hy
    rw[Cc,CQ hj]
    exact(C5 hy).symm
   subst hy2
   replace c:=c.new (o:= .tup [.int (j:Nat),.int<|AD<|m.ends.getD j 0]) htp
   have hx:m.ends.getD j 0<((Gk true m j).zone 1).size:=PU c.h.good.LK hj
   have hc:cst m.ends j<=m.ends.getD j 0:=jo c.h.good.LK hj
   refine⟨_,_,rfl,Dd.of AJ,rfl,_,_,rfl,_,_,rfl,rfl,?_⟩
   refine⟨c.rn,AL,A_,c.h.gr,AW,G_,_,_,j,rfl,BF.of c.h.Us,HS hj,_,rfl,_,rfl,_,_,rfl,BF.of<|c.h.zl Ak,fun p hp=>?_⟩
   show KH (Jd 1) UC _ (upd _ p<|.lst<|cC ((BO ((Gk true m j).zone 1).size).map fun i=>V.ref<|g.pp 1 i) (some<|AD<|cst m.ends j)<|some<|AD (m.ends.getD j 0)+1) _
   rw[uj hx<|by lia]
   refine ADP (c.M4 (o:= .lst<|PL g (cst m.ends j)<|m.ends.getD j 0+1-cst m.ends j) hp) AJ (by show cst m.ends j+(m.ends.getD j 0+1-cst m.ends j)<=((Gk true m j).zone 1).size;lia) fun W2 H2 s2 c2=>⟨W2,_,_,rfl,?_⟩
   rw[X4]
   exact c2
  ·rintro σ H1 ⟨W1,o1,o2,rfl,c⟩
   rw[show(eV m.ends).length=m.ends.length by unfold eV;rw[A8]]at c
   exact c.done
def QA(h:CA g m)(hb:g.byte=b)(hq:b=48\/b=49):GI g m=A4 g m:=by
 rw[BE h hb (by rcases hq with rfl | rfl<;>decide) (by rcases hq with rfl | rfl<;>decide) (by rcases hq with rfl | rfl<;>decide) (by rcases hq with rfl | rfl<;>decide)]
 unfold GI xB
 rw[hb]
 rcases hq with rfl | rfl<;>rfl
noncomputable def U(K:AS)(A:B3)(b:Nat):Sp:=fun vs H Q E=> ∃ W g v m,vs= [.ref g.run]/\R K A W g v m H/\CA g m/\g.byte=b/\(b=44->g.kind= .font)/\Out K A W g m.steps m.inFont (A4 g m) Q E
structure VE(P:BH)(w:Ao)(K:AS)(mg:Str->Option AN)(base:Az)(A:B3)(b:Nat):Prop where
 ex: ∃ i CX k,EX A b= .ref (A.ad i)/\ET P w K mg base CX k (A.ad i) (A.fd i) ["run"] (U K A b)/\FW K (.ref (A.ad i))=true/\Binds K (A.fd i) ["run"] []/\(CX=eT\/CX=Xr P w (A.cl 0))/\k<=8
def mkU{st:Bi}(ev:EX A b= .ref (A.ad i))(ok:ET P w K mg base CX k (A.ad i) (A.fd i) ["run"] (Ux K A bs f))(d:Df K mg x st ["run"] (A.ad i) (A.fd i))(cx:CX=eT\/CX=Xr P w (A.cl 0))(hk:k<=8)
  (h: ∀ W g v m H,R K A W g v m H->CA g m->g.byte=b->(b=44->g.kind= .font)->bs g.byte/\f g m=A4 g m):VE P w K mg base A b:=
 ⟨i,CX,k,ev,ok.imp (fun vs H Q E q=>by
  obtain⟨W,g,v,m,rfl,h1,ha,hb,hf,o⟩:=q
  obtain⟨b1,e⟩:=h W g v m H h1 ha hb hf
  exact⟨W,g,v,m,rfl,h1,b1,(by rw[e];exact o)⟩),d.F.kp,d.b,cx,hk⟩
def Tw{st:Bi}(ok:ET P w K mg base CX k (A.ad i) (A.fd i) ["run"] (Ux K A bs f))(d:Df K mg x st ["run"] (A.ad i) (A.fd i))
  (h: ∀ W g v m H,R K A W g v m H->CA g m->g.byte=b->(b=44->g.kind= .font)->bs g.byte/\f g m=A4 g m)
  (ev:EX A b= .ref (A.ad i):=by exact rfl) (cx:CX=eT\/CX=Xr P w (A.cl 0):=by first | exact .inl rfl | exact .inr rfl) (hk:k<=8:=by decide):VE P w K mg base A b:=mkU ev ok d cx hk h
def Cr{st:Bi}(ok:ET P w K mg base CX k (A.ad i) (A.fd i) ["run"] (Ux K A (fun _=>True) f))(d:Df K mg x st ["run"] (A.ad i) (A.fd i))(h: ∀{g m},CA g m->g.byte=b->f g m=A4 g m)
  (ev:EX A b= .ref (A.ad i):=by exact rfl) (cx:CX=eT\/CX=Xr P w (A.cl 0):=by first | exact .inl rfl | exact .inr rfl) (hk:k<=8:=by decide):VE P w K mg base A b:=mkU ev ok d cx hk fun _ _ _ _ _ _ ha hb _=>⟨trivial,h ha hb⟩
def DH (ev:EX A b= .ref (A.ad 76):=by exact rfl)(h1:192<=b:=by decide)(h2:b<=223:=by decide):VE P w K mg base A b:=Tw Px T.G8 (fun _ _ _ _ _ h ha hb hk=>⟨trivial,Pg ha hb h1 h2⟩) ev
def DG (ev:EX A b= .ref (A.ad 79):=by exact rfl)(h1:224<=b:=by decide)(h2:b<=255:=by decide):VE P w K mg base A b:=Tw Qe T.IA (fun _ _ _ _ _ h ha hb hk=>⟨trivial,RH ha ⟨h.good.z0,h.good.z1⟩ hb h1 h2⟩) ev
def Rv (ev:EX A b= .ref (A.ad 107):=by exact rfl)(h1:b=64\/176<=b/\b<=183:=by decide):VE P w K mg base A b:=⟨107,Xr P w<|A.cl 0,4,ev,(Zs).imp (fun vs H Q E q=>by
 obtain⟨W,g,v,m,rfl,h,ha,hb,hk,o⟩:=q
 exact⟨W,g,v,m,rfl,h,ha,(by rw[ZY ha h.good.st hb h1];exact o)⟩),T.LY.F.kp,T.LY.b,.inr rfl,by decide⟩
def R_ (ev:EX A b= .ref (A.ad 108):=by exact rfl)(h1:b=65\/184<=b/\b<=191:=by decide):VE P w K mg base A b:=⟨108,Xr P w<|A.cl 0,4,ev,(ZL).imp (fun vs H Q E q=>by
 obtain⟨W,g,v,m,rfl,h,ha,hb,hk,o⟩:=q
 exact⟨W,g,v,m,rfl,h,⟨ha,by rw[hb];exact h1⟩,(by rw[ZZ ha h.good.st hb h1];exact o)⟩),T.MD.F.kp,T.MD.b,.inr rfl,by decide⟩
def BR{p:α->Prop}{a:α}{l:List α}(h:p a)(k: ∀ b∈l,p b): ∀ b∈a::l,p b:=Bv.mpr ⟨h,k⟩
noncomputable def AEn:List Nat:= [0,1,2,3,4,5,6,7,8,9,10,11,12,13,14,15,16,17,18,19,20,21,22,23,24,25,26,27,28,29,30,31,32,33,34,35,36,37,38,39,41,42,43,44,45,46,47,48,49,50,51,52,53,54,55,56,57,58,59,60,61,62,63,64,65,66,67,68,69,70,71,72,73,74,75,76,77,78,80,81,82,83,84,85,86,87,88,89,90,91,92,93,94,95,96,97,98,99,100,101,102,103,104,105,106,107,108,109,110,111,112,113,114,115,116,117,118,119,120,121,122,124,125,126,127,128,129,130,133,134,135,136,138,139,140,141,142,176,177,178,179,180,181,182,183,184,185,186,187,188,189,190,191,192,193,194,195,196,197,198,199,200,201,202,203,204,205,206,207,208,209,210,211,212,213,214,215,216,217,218,219,220,221,222,223,224,225,226,227,228,229,230,231,232,233,234,235,236,237,238,239,240,241,242,243,244,245,246,247,248,249,250,251,252,253,254,255]
noncomputable def noL:List Nat:= [40,79,123,131,132,137,143,144,145,146,147,148,149,150,151,152,153,154,155,156,157,158,159,160,161,162,163,164,165,166,167,168,169,170,171,172,173,174,175]
def xx (TD:Ku P w K A): ∀ b∈AEn,VE P w K mg base A b:=(BR (Cr Fj T.Ja ZD)<|BR (Cr Fj T.Ja ZM)<|BR (Cr Fj T.Ja ZS)<|BR (Cr Fj T.Ja ZC)<|BR (Cr Fj T.Ja Zj)<|BR (Cr Fj T.Ja Zc)<|BR (Cr GC T.Hg Ue)<|BR (Cr GC T.Hg UB)<|BR (Cr GC T.Hg T8)<|BR (Cr GC T.Hg UX)<|BR (Cr KC T.JK OP)<|BR (Cr KC T.JK NL)<|BR (Cr Nv T.NV RJ)<|BR (Cr Nv T.NV Ru)<|BR (Cr Nn T.KP LA)<|BR (Tw P2 T.K5 fun _ _ _ _ _ h ha hb hk=>⟨trivial,YI ha hb h.good⟩)<|BR (Tw Gv T.HJ fun _ _ _ _ _ h ha hb hk=>⟨(by rw[hb];decide),Pb ha hb⟩)<|BR (Tw Gv T.HJ fun _ _ _ _ _ h ha hb hk=>⟨(by rw[hb];decide),Pq ha hb⟩)<|BR (Tw Gv T.HJ fun _ _ _ _ _ h ha hb hk=>⟨(by rw[hb];decide),Pt ha hb⟩)<|BR (Tw JG T.Jg fun _ _ _ _ _ h ha hb hk=>⟨(by rw[hb];decide),R6 ha hb⟩)<|BR (Tw JG T.Jg fun _ _ _ _ _ h ha hb hk=>⟨(by rw[hb];decide),TQ ha hb⟩)<|BR (Tw JG T.Jg fun _ _ _ _ _ h ha hb hk=>⟨(by rw[hb];decide),SJ ha hb⟩)<|BR (Cr Pe T.LM L9)<|BR (Cr gu T.iB Xi)<|BR (Tw (Di TD) T.EC fun _ _ _ _ _ h ha hb hk=>⟨(by rw[hb];unfold Jz;decide),QZ ha hb⟩)<|BR (Tw (Di TD) T.EC fun _ _ _ _ _ h ha hb hk=>⟨(by rw[hb];unfold Jz;decide),Ql ha hb⟩)<|BR (Cr bZ T.aV Vj)<|BR (Cr Pj T.LQ Lj)<|BR (Cr yi T.ADr kK)<|BR (Cr ZU T.YH Uc)<|BR (Cr Py T.K2 Mc)<|BR (Cr bW T.Zu Ve)<|BR (Cr br T.aw Vb)<|BR (Cr R3 T.drop lS)<|BR (Cr v8 T.empty hG)<|BR (Cr zH T.swap kC)<|BR (Cr ZG T.X8 T4)<|BR (Cr RC T.M0 NF)<|BR (Cr Qr T.Mx NB)<|BR (Cr dP T.aa VT)<|BR (Cr kJ T.qG Zf)<|BR (Tw Zg T.Xd fun _ _ _ _ _ h ha hb hk=>⟨trivial,UR ha hb (fun _ q=>find_none h.good.Vh q) h.good.going⟩)<|BR (Tw dO T.aY fun _ _ _ _ _ h ha hb hk=>⟨trivial,VL ha hb (fun _ q=>find_none h.good.Vh q) h.good.going⟩)<|BR (Tw bL T.define fun _ _ _ _ _ h ha hb hk=>⟨trivial,fX ha hb<|hk rfl⟩)<|BR (Cr VV T.Rr Q6)<|BR (Cr Jj T.JR N0)<|BR (Cr Jj T.JR N1)<|BR (Tw QE T.Q_ fun _ _ _ _ _ h ha hb hk=>⟨(by rw[hb];decide),QA ha hb<|by decide⟩)<|BR (Tw QE T.Q_ fun _ _ _ _ _ h ha hb hk=>⟨(by rw[hb];decide),QA ha hb<|by decide⟩)<|BR (Cr Mj T.MR fun ha hb=>Mg ha hb<|by decide)<|BR (Cr Mj T.MR fun ha hb=>Mg ha hb<|by decide)<|BR (Cr K_ T.Kf fun ha hb=>Kx ha hb<|by decide)<|BR (Cr K_ T.Kf fun ha hb=>Kx ha hb<|by decide)<|BR (Cr QL T.Qz fun ha hb=>QC ha hb<|by decide)<|BR (Cr QL T.Qz fun ha hb=>QC ha hb<|by decide)<|BR (Cr Qo T.Mp M5)<|BR (Cr Qs T.Mq k8)<|BR (Cr IP T.Gr L7)<|BR (Cr IP T.Gr Lr)<|BR (Tw K4 T.Hd fun _ _ _ _ _ h ha hb hk=>⟨trivial,gF ha hb h.good.loop.1 ⟨h.good.z0,h.good.z1⟩⟩)<|BR (Tw (Di TD) T.EC fun _ _ _ _ _ h ha hb hk=>⟨(by rw[hb];unfold Jz;decide),QV ha hb⟩)<|BR (Cr JN T.ID M9)<|BR (Cr JN T.ID ND)<|BR Rv<|BR R_<|BR (Cr Zp T.YJ Ug)<|BR (Cr b7 T.aK VX)<|BR (Cr K9 T.Kj Pn)<|BR (Cr VM T.Rz Q5)<|BR (Cr JA T.IG M_)<|BR (Cr JA T.IG M7)<|BR (Cr Sj T.Nz Ng)<|BR (Cr LR T.KU P6)<|BR (Cr LR T.KU Pw)<|BR (Cr S8 T.Th Vc)<|BR (Cr S8 T.Th VI)<|BR (Cr Um T.YW XS)<|BR (Cr Um T.YW Xm)<|BR (Cr G9 T.compare ZJ)<|BR (Cr G9 T.compare ZI)<|BR (Cr G9 T.compare Zl)<|BR (Cr G9 T.compare ZX)<|BR (Cr G9 T.compare Zb)<|BR (Cr G9 T.compare Zo)<|BR (Cr QJ T.QR UK)<|BR (Cr QJ T.QR Uh)<|BR (Cr VN T.SX Qg)<|BR (Cr ZR T.XU T3)<|BR (Cr iH T.iR Yo)<|BR (Cr ZN T.Xk UO)<|BR (Cr gE T.jX YK)<|BR (Tw (Hx TD) T.Ip fun _ _ _ _ _ h ha hb hk=>⟨(by rw[hb];unfold Cw;decide),IB ha hb<|by decide⟩)<|BR (Cr Rf T.OS Nc)<|BR (Cr RB T.Me NC)<|BR (Cr kX T.qZ Zr)<|BR (Cr fJ T.af Vd)<|BR (Cr sj T.divide bR)<|BR (Cr ig T.multiply Yj)<|BR (Cr cw T.Z7 UL)<|BR (Cr tS T.negate Zq)<|BR (Cr lF T.pF Xy)<|BR (Cr vo T.AAm fY)<|BR (Cr FL T.F8 Pd)<|BR (Cr FL T.F8 P1)<|BR (Cr FL T.F8 P4)<|BR (Cr FL T.F8 P5)<|BR (Cr Il T.K0 UD)<|BR (Cr Il T.K0 Uj)<|BR (Cr Il T.K0 Ua)<|BR (Cr Il T.K0 Tr)<|BR (Cr K9 T.Kj N_)<|BR (Tw (Hx TD) T.Ip fun _ _ _ _ _ h ha hb hk=>⟨(by rw[hb];unfold Cw;decide),IB ha hb<|by decide⟩)<|BR (Tw (Hx TD) T.Ip fun _ _ _ _ _ h ha hb hk=>⟨(by rw[hb];unfold Cw;decide),IB ha hb<|by decide⟩)<|BR (Tw (F0 TD) T.GK fun _ _ _ _ _ h ha hb hk=>⟨(by rw[hb];unfold Cw;decide),GL ha hb<|by decide⟩)<|BR (Tw (F0 TD) T.GK fun _ _ _ _ _ h ha hb hk=>⟨(by rw[hb];unfold Cw;decide),GL ha hb<|by decide⟩)<|BR (Tw (F0 TD) T.GK fun _ _ _ _ _ h ha hb hk=>⟨(by rw[hb];unfold Cw;decide),GL ha hb<|by decide⟩)<|BR (Cr Fg T.Ej Io)<|BR (Cr Fg T.Ej Ik)<|BR (Cr Xc T.ck YA)<|BR (Cr Xc T.ck Xe)<|BR (Tw (Di TD) T.EC fun _ _ _ _ _ h ha hb hk=>⟨(by rw[hb];unfold Jz;decide),Pp ha hb⟩)<|BR (Tw (Di TD) T.EC fun _ _ _ _ _ h ha hb hk=>⟨(by rw[hb];unfold Jz;decide),Ph ha hb⟩)<|BR (Tw (Di TD) T.EC fun _ _ _ _ _ h ha hb hk=>⟨(by rw[hb];unfold Jz;decide),Pu ha hb⟩)<|BR (Cr R3 T.drop jC)<|BR (Cr R3 T.drop jG)<|BR (Cr M3 T.JI Jc)<|BR (Cr JT T.Hv fun ha hb=>JM ha hb<|by decide)<|BR (Cr JT T.Hv fun ha hb=>JM ha hb<|by decide)<|BR (Cr R3 T.drop jO)<|BR (Cr JF T.H_ Lk)<|BR (Cr JF T.H_ Lx)<|BR (Cr fh T.aE Ta)<|BR (Cr xn T.roll i5)<|BR (Cr Vf T.Sg P7)<|BR (Cr Xa T.Ur QU)<|BR (Cr R3 T.drop gO)<|BR (Cr Rq T.Ny M8)<|BR Rv<|BR Rv<|BR Rv<|BR Rv<|BR Rv<|BR Rv<|BR Rv<|BR Rv<|BR R_<|BR R_<|BR R_<|BR R_<|BR R_<|BR R_<|BR R_<|BR R_<|BR DH<|BR DH<|BR DH<|BR DH<|BR DH<|BR DH<|BR DH<|BR DH<|BR DH<|BR DH<|BR DH<|BR DH<|BR DH<|BR DH<|BR DH<|BR DH<|BR DH<|BR DH<|BR DH<|BR DH<|BR DH<|BR DH<|BR DH<|BR DH<|BR DH<|BR DH<|BR DH<|BR DH<|BR DH<|BR DH<|BR DH<|BR DH<|BR DG<|BR DG<|BR DG<|BR DG<|BR DG<|BR DG<|BR DG<|BR DG<|BR DG<|BR DG<|BR DG<|BR DG<|BR DG<|BR DG<|BR DG<|BR DG<|BR DG<|BR DG<|BR DG<|BR DG<|BR DG<|BR DG<|BR DG<|BR DG<|BR DG<|BR DG<|BR DG<|BR DG<|BR DG<|BR DG<|BR DG<|BR DG<|List.forall_mem_nil _)
def ABH: ∀ b∈noL,EX A b= .non:=(Bv.mpr ⟨rfl,(Bv.mpr ⟨rfl,(Bv.mpr ⟨rfl,(Bv.mpr ⟨rfl,(Bv.mpr ⟨rfl,(Bv.mpr ⟨rfl,(Bv.mpr ⟨rfl,(Bv.mpr ⟨rfl,(Bv.mpr ⟨rfl,(Bv.mpr ⟨rfl,(Bv.mpr ⟨rfl,(Bv.mpr ⟨rfl,(Bv.mpr ⟨rfl,(Bv.mpr ⟨rfl,(Bv.mpr ⟨rfl,(Bv.mpr ⟨rfl,(Bv.mpr ⟨rfl,(Bv.mpr ⟨rfl,(Bv.mpr ⟨rfl,(Bv.mpr ⟨rfl,(Bv.mpr ⟨rfl,(Bv.mpr ⟨rfl,(Bv.mpr ⟨rfl,(Bv.mpr ⟨rfl,(Bv.mpr ⟨rfl,(Bv.mpr ⟨rfl,(Bv.mpr ⟨rfl,(Bv.mpr ⟨rfl,(Bv.mpr ⟨rfl,(Bv.mpr ⟨rfl,(Bv.mpr ⟨rfl,(Bv.mpr ⟨rfl,(Bv.mpr ⟨rfl,(Bv.mpr ⟨rfl,(Bv.mpr ⟨rfl,(Bv.mpr ⟨rfl,(Bv.mpr ⟨rfl,(Bv.mpr ⟨rfl,(Bv.mpr ⟨rfl,(fun _ h=>nomatch h)⟩)⟩)⟩)⟩)⟩)⟩)⟩)⟩)⟩)⟩)⟩)⟩)⟩)⟩)⟩)⟩)⟩)⟩)⟩)⟩)⟩)⟩)⟩)⟩)⟩)⟩)⟩)⟩)⟩)⟩)⟩)⟩)⟩)⟩)⟩)⟩)⟩)⟩)⟩)
def ABh: ∀ b:Fin 256,Ht.isInstruction b.val=true->b.val∈AEn:=by decide+kernel
def AEZ: ∀ b:Fin 256,Ht.isInstruction b.val=false->b.val∈noL:=by decide+kernel
def y3:Passes eT X E:=fun _ _ _ _ _ _ _ h=>h.elim
structure AtS(g:B4)(m:Ht.M):Prop where
 pl:m.place=g.place
 lt:g.place<(codeB g m.inFont).length
 byte:g.byte=Ht.byteAt (codeB g m.inFont) g.place
inductive AAc(K:AS)(A:B3)(vs:List V)(H:Hp)(Q:VK)(E:XK):Prop
 | mk: ∀ W g v m,vs= [.ref g.run]->R K A W g v m H->AtS g m->((∀ n,Ht.step g.kind g.c m= .error n->Fl K A W g m.steps m.inFont E n))->((∀ m',Ht.step g.kind g.c m= .ok m'-> ∀ W' v' H',Bc W W'->R K A W' g v' m' H'->Q .non H'))->AAc K A vs H Q E
def step_eq(h:AtS g m):Ht.step g.kind g.c m=if 5000<=m.steps then .error 7 else if Ht.isInstruction g.byte=false\/(g.byte=44/\g.kind≠ .font)then .error 5 else if g.place+DA (codeB g m.inFont) g.place<=(codeB g m.inFont).length then Ht.on (A4 g {m with place:=g.place+DA (codeB g m.inFont) g.place}) fun x=> .ok {x with steps:=m.steps+1}else .error 4:=by
 have hlt: ¬(codeB g m.inFont).length<=m.place:=by rw[h.pl];exact Nat.not_le.mpr h.lt
 have e1:Ht.step g.kind g.c m=(if(codeB g m.inFont).length<=m.place then .error Ht.CODE else if Ht.LIMIT<=m.steps then .error Ht.STEPS else if Ht.isInstruction (Ht.byteAt (codeB g m.inFont) m.place)=false\/(Ht.byteAt (codeB g m.inFont) m.place=0x2C/\g.kind≠ .font)then .error Ht.UNKNOWN else match Ht.lengthAt (codeB g m.inFont) m.place with
  | none=> .error Ht.CODE
  | some n=>Ht.on (Ht.acts g.kind {m with place:=m.place+n} (codeB g m.inFont) m.place n) fun x=> .ok<|{x with steps:=m.steps+1}):=rfl
 rw[e1,AG hlt,h.pl,<-h.byte,Gy h.lt]
 show(if 5000<=m.steps then _ else _)=_
 by_cases q:5000<=m.steps
 ·rw[AI q,AI q];rfl
 ·rw[AG q,AG q]
  by_cases q2:Ht.isInstruction g.byte=false\/(g.byte=44/\g.kind≠ .font)
  ·rw[AI q2,AI q2];rfl
  ·rw[AG q2,AG q2]
   by_cases q3:g.place+DA (codeB g m.inFont) g.place<=(codeB g m.inFont).length
   ·rw[AI q3,AI q3];rfl
   ·rw[AG q3,AG q3];rfl
theorem US [T:Txt K mg A](TD:Ku P w K A):OF P w base 9 168 ["run"] (AAc K A):=by
 refine T.QN.F.Vm ["run","act"] fun H vs Q E hr h=>?_
 obtain⟨W,g,v,m,rfl,h,at_,qe,qo⟩:=h
 refine⟨_,(AB (Aq (A0 BD (AR AH)<|Bt T.k.Pz) (AF<|CJ T.c.fault BK (hr.mono<|by decide) outF rfl<|Af AE) AX)<|AB (AO 1<|Ah (sL TD) T.vJ<|Af<|AR AH)<|AB (Aq (Kd<|Ke AV) (AF<|CJ T.c.fault BK (hr.mono<|by decide) outF rfl<|Af AE) AX)<|AB (BC AH<|Ah Ts T.behind<|Ax (AR AH)<|AR AH)<|AB (Ad<|xG (E:=E) AV<|Af AH)<|AF<|OU AH AE jb),?_⟩
 have se:=step_eq at_
 have bl:g.byte<256:=by rw[at_.byte];exact yY _ _
 refine⟨h.run,AL,kF,rfl,A7 (fun e=>?_) fun e=>?_⟩
 ·have e1:=B7 (V.int.inj<|An e)
  exact⟨_,rfl,(qe 7<|se.trans<|AI<|by lia).ex h⟩
 have e1: ¬ 5000<=m.steps:=fun z=>e<|Av<|by rw[show m.steps=5000 from qA h.good.steps z];rfl
 rw[AG e1]at se
 refine⟨h.run,AL,BM,g.byte,rfl,?_⟩
 cases hi:Ht.isInstruction g.byte with
 | false=>
  have f5:=qe 5<|se.trans<|AI<|.inl hi
  rw[ABH (A:=A) g.byte<|AEZ ⟨g.byte,bl⟩ hi]
  exact⟨_,rfl,f5.ex h⟩
 | true=>
  have ok:=xx (P:=P) (w:=w) (K:=K) (mg:=mg) (base:=base) TD g.byte<|ABh ⟨g.byte,bl⟩ hi
  obtain⟨i,CX,k,ev,F,kp,bd,hcx,kl⟩:=ok.ex
  rw[ev]
  have code:=BF.of (K:=K)<|h.codeAt m.inFont
  by_cases q44:g.byte=44/\g.kind≠ .font
  ·have l1:DA (codeB g m.inFont) g.place=1:=by unfold DA;rw[<-at_.byte,q44.1];rfl
   refine⟨h.run,AL,FR,h.run,AL,HH,_,_,_,rfl,code,at_.lt,(fun bad=>absurd bad<|by rw[l1];have:=at_.lt;lia),fun good=>⟨h.run,AL,(B8 rfl),?_⟩⟩
   have h3:=h.JY _ good
   have ev2:V.ref (A.ad i)= .ref (A.ad 39):=by rw[<-ev,q44.1];rfl
   refine⟨_,_,_,(BL (fun t=>some<|some t) ev2),⟨_,_,_,bL,hr.mono<|by decide,T.define.F.kp,T.define.b,jD⟩,W,g,v,_,rfl,h3,trivial,?_⟩
   have ef:OG g {m with place:=g.place+DA (codeB g m.inFont) g.place}= .error 5:=by
    unfold OG
    exact AG fun z=>q44.2<|ni z
   rw[ef]
   exact(qe 5<|se.trans<|AI<|.inr q44)
  ·rw[AG<|by rintro(z | z);(rw[hi]at z;cases z);exact q44 z]at se
   refine⟨h.run,AL,FR,h.run,AL,HH,_,_,_,rfl,code,at_.lt,(fun bad=>(qe 4<|se.trans<|AG<|by lia).ex h),fun good=>?_⟩
   refine⟨h.run,AL,(B8 rfl),?_⟩
   rw[AI good]at se
   have ai:CA g {m with place:=g.place+DA (codeB g m.inFont) g.place}:=⟨at_.lt,at_.byte,rfl⟩
   refine⟨_,_,_,rfl,⟨CX,k,_,F,hr.mono kl,kp,bd,?_⟩,?_⟩
   ·rcases hcx with rfl | rfl
    ·exact y3
    ·exact jD
   refine⟨W,g,v,_,rfl,h.JY _ good,ai,rfl,(fun z=>?_),?_⟩
   ·by_cases w:g.kind= .font
    ·exact w
    ·exact absurd ⟨z,w⟩ q44
   cases ea:A4 g {m with place:=g.place+DA (codeB g m.inFont) g.place}with
   | error n=>exact qe n<|se.trans<|lQ ea
   | ok m'=>
    intro W' v' H' s' h' hs'
    refine⟨h'.run,AL,kF,_,_,rfl,rfl,h'.run,(B8 rfl),?_⟩
    have h2:=h'.zB (m.steps+1)<|by lia
    rw[show AD (m.steps+1)=AD m'.steps+1 by rw[hs'];rfl]at h2
    exact qo _ (se.trans<|wH ea) W' v' _ s' h2
noncomputable def Mo(g:B4)(p b:Nat):B4:={g with place:=p,byte:=b}
def R.sV{W:Hp}{g:B4}{p b:Nat}{v:Var}{m:Ht.M}{H:Hp}(h:R K A W (Mo g p b) v m H)(n:Nat):R K A W (Mo g n b) v m (upd H g.run<|.ins (A.cl 1) g.Qn<|DJ "place" (.int<|AD n)<|DV (Mo g p b) v m):=
 h.Ef .run rfl rfl {h.good with}
def R.iY{W:Hp}{g:B4}{p b:Nat}{v:Var}{m:Ht.M}{H:Hp}(h:R K A W (Mo g p b) v m H)(n:Nat):R K A W (Mo g p n) v m (upd H g.run<|.ins (A.cl 1) g.Qn<|DJ "byte" (.int<|AD n)<|DV (Mo g p b) v m):=
 h.Ef .run rfl rfl {h.good with}
noncomputable def xY(m:Ht.M):Nat:=if m.inFont=true then 1 else 0
inductive AA0(K:AS)(A:B3)(vs:List V)(H:Hp)(Q:VK)(E:XK):Prop
 | mk: ∀ W g v m,vs= [.ref g.run]->R K A W g v m H->((∀ m',Ht.run g.kind g.c (5001-m.steps) m= .done m'-> ∀ p b W' v' H',Bc W W'->R K A W' (Mo g p b) v' m' H'->Q .non H'))->((∀ f told,Ht.run g.kind g.c (5001-m.steps) m= .fault f told-> ∀ p b W' v' m' H',Bc W W'->R K A W' (Mo g p b) v' m' H'->told= [p,xY m',b,m'.steps]->E (.int (AD f) 0) none H'))->AA0 K A vs H Q E
def SG{k:Ht.Kind}{c:Ht.Codes}{n:Nat}{m:Ht.M}:Ht.run k c (n+1) m=if m.place=(c.of_ m).length/\m.going.isEmpty=true then .done m else match Ht.step k c m with
  | .error f=> .fault f [m.place,xY m,Ht.byteAt (c.of_ m) m.place,m.steps]
  | .ok x=>Ht.run k c n x:=rfl
def vC{k:Ht.Kind}{c:Ht.Codes}{m:Ht.M}(hs:m.steps<=5000)(lt:m.place<(c.of_ m).length):Ht.run k c (5001-m.steps) m=match Ht.step k c m with
  | .error f=> .fault f [m.place,xY m,Ht.byteAt (c.of_ m) m.place,m.steps]
  | .ok x=>Ht.run k c (5000-m.steps) x:=by
 rw[show 5001-m.steps=(5000-m.steps)+1 by lia,SG,AG fun z=>by lia]
def zD{k:Ht.Kind}{c:Ht.Codes}{m:Ht.M}{f:Nat}(hs:m.steps<=5000)(lt:m.place<(c.of_ m).length)(e:Ht.step k c m= .error f):Ht.run k c (5001-m.steps) m= .fault f [m.place,xY m,Ht.byteAt (c.of_ m) m.place,m.steps]:=by
 rw[vC hs lt,e]
def ACn{k:Ht.Kind}{c:Ht.Codes}{m x:Ht.M}(hs:m.steps<=5000)(lt:m.place<(c.of_ m).length)(e:Ht.step k c m= .ok x):Ht.run k c (5001-m.steps) m=Ht.run k c (5000-m.steps) x:=by
 rw[vC hs lt,e]
def zG{k:Ht.Kind}{c:Ht.Codes}{m:Ht.M}(hs:m.steps<=5000)(pl:m.place=(c.of_ m).length)(em:m.going= []):Ht.run k c (5001-m.steps) m= .done m:=by
 rw[show 5001-m.steps=(5000-m.steps)+1 by lia,SG,AI ⟨pl,by rw[em];rfl⟩]
def lM{c:Ht.Bytes}{p:Nat}(h:p=c.length):Ht.byteAt c p=0:=by
 subst h
 unfold Ht.byteAt
 simp
def zq{k:Ht.Kind}{c:Ht.Codes}{m:Ht.M}(hs:m.steps<=5000)(pl:m.place=(c.of_ m).length)(em:m.going≠ []):Ht.run k c (5001-m.steps) m= .fault 4 [m.place,xY m,0,m.steps]:=by
 have es:Ht.step k c m= .error 4:=by
  have e1:Ht.step k c m=(if(c.of_ m).length<=m.place then .error Ht.CODE else if Ht.LIMIT<=m.steps then .error Ht.STEPS else if Ht.isInstruction (Ht.byteAt (c.of_ m) m.place)=false\/(Ht.byteAt (c.of_ m) m.place=0x2C/\k≠ .font)then .error Ht.UNKNOWN else match Ht.lengthAt (c.of_ m) m.place with
  | none=> .error Ht.CODE
  | some n=>Ht.on (Ht.acts k {m with place:=m.place+n} (c.of_ m) m.place n) fun x=> .ok<|{x with steps:=m.steps+1}):=rfl
  rw[e1,AI<|by rw[pl];exact BS _]
  rfl
 rw[show 5001-m.steps=(5000-m.steps)+1 by lia,SG,AG fun z=>em<|List.isEmpty_iff.mp z.2,es,lM pl]
def kU{k:Ht.Kind}{c:Ht.Codes}{m x:Ht.M}(e:Ht.step k c m= .ok x):x.steps=m.steps+1:=by
 unfold Ht.step at e
 dsimp only at e
 split at e
 ·cases e
 split at e
 ·cases e
 split at e
 ·cases e
 split at e
 ·cases e
 ·unfold Ht.on at e
  split at e
  ·cases e
  ·cases e
   rfl
def ABx{c:Ht.Bytes}:(TZ c).length=c.length:=by unfold TZ;rw[A8]
def Tu (TD:Ku P w K A):OF P w base 10 169 ["run"] (AA0 K A):=by
 refine T.HQ.F.Vm ["run","ended"] fun H vs Q E hr h=>?_
 obtain⟨W,g,v,m,rfl,h,qd,qf⟩:=h
 refine⟨_,(AB (AO 1 aI)<|AF<|JO PassesOwn.leaving (we<|MV AV)<|AB (BC AH<|AR AH)<|AF<|Aq (A0 Dn (AR AH)<|Dc T.k.CD<|Af<|AR AH) (AB (BC AH<|A9 Ab (AR AH)<|AR AH)<|AF<|Ad<|Ah (US TD) T.QN<|Af AH)<|AB (BC AH AE)<|AB (Aq (A0 DE (Dc T.k.CD<|Af<|AR AH) AE) (AF<|CJ T.c.fault BK (hr.mono<|by decide) outF rfl<|Af AE) AX)<|AF<|AO 1 aI),?_⟩
 refine⟨fun k σ H'=>(∃ p b m' v' W',σ= [some<|.ref g.run,some<|.bl false]/\k=5001-m'.steps/\Bc W W'/\R K A W' (Mo g p b) v' m' H'/\Ht.run g.kind g.c (5001-m'.steps) m'=Ht.run g.kind g.c (5001-m.steps) m)\/(k=0/\σ= [some<|.ref g.run,some<|.bl true]/\Q .non H'),⟨5001-m.steps,.inl ⟨g.place,g.byte,m,v,W,rfl,rfl,same_refl,h,rfl⟩⟩,?_⟩
 rintro k σ H1 (⟨p,b,m1,v1,W1,rfl,rfl,s1,h1,er⟩ |⟨rfl,rfl,q⟩)
 case inr=>
  exact by first | exact q | exact q
 refine⟨_,fun _ _ q=>q,?_⟩
 refine⟨h1.run,AL,HR,h1.run,AL,(B8 rfl),?_⟩
 have h2:=h1.sV m1.place
 have hs:=h1.good.steps
 have hpl:m1.place<=(codeB g m1.inFont).length:=h1.good.place
 have cd:=BF.of (K:=K)<|h2.codeAt m1.inFont
 refine⟨h2.run,AL,HH,h2.run,AL,FR,.inl cd,?_⟩
 rw[ABx]
 refine A7 (fun e=>?_) fun e=>?_
 ·have lt:m1.place<(codeB g m1.inFont).length:=BQ.mp (An e)
  refine⟨h2.run,AL,FR,h2.run,AL,HH,cd,OK lt,h2.run,AL,(B8 rfl),?_⟩
  have h3:=h2.iY<|Ht.byteAt (codeB g m1.inFont) m1.place
  refine⟨W1,Mo g m1.place<|Ht.byteAt (codeB g m1.inFont) m1.place,v1,m1,rfl,h3,⟨rfl,lt,rfl⟩,(fun n en=>?_),fun m2 e2 W2 v2 H2 s2 h4=>?_⟩
  ·intro W2 v2 m2 H2 s2 h4 es ef
   refine qf n _ (er.symm.trans<|zD hs lt en) _ _ W2 v2 m2 H2 (fun b o z=>s2 b o<|s1 b o z) h4 ?_
   rw[es,show xY m2=xY m1 by unfold xY;rw[ef]]
   rfl
  ·have e3:=kU e2
   have hs2:=h4.good.steps
   refine⟨5001-m2.steps,by lia,.inl ⟨_,_,m2,v2,W2,rfl,rfl,(fun b o z=>s2 b o<|s1 b o z),h4,?_⟩⟩
   rw[<-er,ACn (k:=g.kind) (c:=g.c) hs lt e2,show 5001-m2.steps=5000-m1.steps by lia]
 ·have pl:m1.place=(codeB g m1.inFont).length:=by
   have: ¬ m1.place<(codeB g m1.inFont).length:=fun z=>e<|Av<|BQ.mpr z
   lia
  refine⟨h2.run,AL,(B8 rfl),?_⟩
  have h3:=h2.iY 0
  refine⟨h3.run,AL,JE,.inl<|BF.of h3.CL,?_⟩
  rw[f_]
  refine A7 (fun e4=>?_) fun e4=>?_
  ·have e5:(0:Int)<AD m1.going.length:=An e4
   refine⟨_,rfl,fun d hd=>?_⟩
   refine qf 4 _ (er.symm.trans<|zq hs pl fun z=>by rw[z]at e5;exact absurd e5<|by decide) _ _ W1 v1 m1 _ s1 (h3.new hd) rfl
  ·have eg:m1.going= []:=by
    cases eg:m1.going with
    | nil=>rfl
    | cons y l=>exact absurd (Av (show(0:Int)<AD m1.going.length by rw[eg];exact BQ.mpr<|Oj _)) e4
   refine⟨0,by lia,.inr ⟨rfl,rfl,?_⟩⟩
   exact qd m1 (er.symm.trans<|zG hs pl eg) _ _ W1 v1 _ s1 h3
noncomputable def XW(l:List Nat):List V:=l.map fun n=> .int (AD n)
inductive nW(K:AS)(A:B3)(vs:List V)(H:Hp)(Q:VK)(E_:XK):Prop
 | mk: ∀ W g v m,vs= [.ref g.run]->R K A W g v m H->((∀ m',Ht.run g.kind g.c (5001-m.steps) m= .done m'-> ∀ p b W' v' H' l,Bc W W'->W l=none->R K A W' (Mo g p b) v' m' H'->W' l=some (.lst [])->Q (.ref l) H'))->((∀ f told,Ht.run g.kind g.c (5001-m.steps) m= .fault f told-> ∀ p b W' v' m' H' l,Bc W W'->W l=none->R K A W' (Mo g p b) v' m' H'->W' l=some (.lst (XW (f::told)))->Q (.ref l) H'))->nW K A vs H Q E_
def ACf:V.int (bI m.inFont)= .int (AD<|xY m):=by unfold bI xY;split<;>rfl
def V2(he:PE (inH X a) e ta)(hb:KQ e f X.env (eval e X.env)=eval e X.env):PE (inH X a) (.Attribute e f pos) (vt X.K ta f):=cV he hb
theorem none_of(s:Bc W W')(h:W' l=none):W l=none:=by
 cases e:W l with
 | none=>rfl
 | some o=>rw[s _ _ e]at h;cases h
def Np (TD:Ku P w K A):O0 P w base 11 170 ["run"] (nW K A):=by
 refine T.Sy.F.DQ ["run","fault"] fun H vs Q E hr h=>?_
 obtain⟨W,g,v,m,rfl,h,qd,qf⟩:=h
 refine⟨_,(AB (kL (i:=1) (C:=A.cl 0) ⟨rfl,rfl,rfl,rfl,rfl⟩ (Tu TD) (hr.mono<|by decide) rfl T.HQ.g T.HQ.F.kp T.HQ.b (Af AH) T.c.fault.cls rfl T.c.fault.g (show Ij (["run","fault"]:List Str) by decide+kernel) rfl rfl fun a=>AF<|AY<|Ba<|Cs (yQ T.c.fault.cls AV)<|Rp (V2 AH rfl) (V2 AH rfl) (V2 AH rfl)<|V2 AH rfl)<|AF<|AY<|Ba Es),?_⟩
 refine⟨W,g,v,m,rfl,h,(fun m' er p b W' v' H' s1 h1=>?_),(fun f told er p b W' v' m' H' s1 h1 et=>?_)⟩
 ·exact⟨B6 _,fun l hl=>qd m' er p b _ v' _ l (fun a o z=>Bd (h1.free hl) a o<|s1 a o z) (none_of s1<|h1.free hl) (h1.M4 hl) AJ⟩
 ·refine⟨_,rfl,fun a d ha hd=>?_⟩
  have h2:=h1.new (o:=XHO (A.cl 0) a d) ha
  refine⟨a,d,_,rfl,AJ,(AQ<|Ac hd ha).trans hd,?_⟩
  refine⟨h2.run,AL,HH,h2.run,AL,oA,h2.run,AL,BM,h2.run,AL,kF,?_⟩
  refine⟨(show 5<=sizeLine by decide),fun l hl=>?_⟩
  refine qf f told er p b _ v' m' _ l (fun a o z=>Bd (h2.free hl) a o<|s1 a o z) (none_of s1<|h2.free hl) (h2.M4 hl)<|AJ.trans ?_
  rw[et,ACf]
  rfl
end GF
end
section
namespace GF
open PySem L2
section
noncomputable abbrev SS:=Tag->AK->HO->Prop
noncomputable def ADV:SS:=fun _ _ _=>False
noncomputable def Y6(t:Tag)(l:AK)(o:HO):SS:=fun t' a o'=>t'=t/\a=l/\o'=o
noncomputable def R8(S S':SS):SS:=fun t a o=>S t a o\/S' t a o
noncomputable def Ca(S:SS)(t:Tag)(l:AK)(o:HO):SS:=fun t' a o'=>(t'=t/\a=l/\o'=o)\/(t'≠t/\S t' a o')
structure Nw(H H':Hp)(S:SS):Prop where
 same:Bc H H'
 at_: ∀ t a o,S t a o->H' a=some o/\H a=none
 one: ∀ t t' a o o',S t a o->S t' a o'->t=t'
variable{K:AS}{A:B3}{W:Hp}{g:B4}{v:Var}{m:Ht.M}{H0 H H':Hp}{S S':SS}{t t':Tag}{l p a:AK}{o o' o1:HO}
def B0:Ca S t l o t l o:= .inl ⟨rfl,rfl,rfl⟩
def Nw.nil:Nw H H ADV:=⟨fun _ _ e=>e,fun _ _ _ z=>z.elim,fun _ _ _ _ _ z=>z.elim⟩
def Nw.mono(h:Nw H0 H S)(s: ∀ t a o,S' t a o->S t a o):Nw H0 H S':=⟨h.same,fun t a o z=>h.at_ t a o<|s _ _ _ z,fun t t' a o o' x y=>h.one t t' a o o' (s _ _ _ x)<|s _ _ _ y⟩
def Nw.mQ(h:Nw H0 H S)(f:H l=none):H0 l=none:=none_of h.same f
def Nw.Zn(h:Nw H0 H S)(f:H l=none):Nw H0 (upd H l o) S:=
 ⟨fun b u e=>by rw[AQ<|Ac (h.same _ _ e) f];exact h.same _ _ e,fun t a u z=>⟨by rw[AQ<|Ac (h.at_ _ _ _ z).1 f];exact(h.at_ _ _ _ z).1,(h.at_ _ _ _ z).2⟩,h.one⟩
def Nw.add(h:Nw H0 H S)(f:H l=none):Nw H0 (upd H l o) (R8 S<|Y6 t l o):=by
 have h2:=h.Zn (o:=o) f
 refine⟨h2.same,?_,?_⟩
 ·rintro t' a u (z |⟨rfl,rfl,rfl⟩)
  ·exact h2.at_ _ _ _ z
  ·exact⟨AJ,h.mQ f⟩
 ·rintro t1 t2 a u u' (z |⟨rfl,rfl,rfl⟩) (y |⟨rfl,e,rfl⟩)
  ·exact h.one _ _ _ _ _ z y
  ·exact absurd e<|Ac (h.at_ _ _ _ z).1 f
  ·exact absurd rfl<|Ac (h.at_ _ _ _ y).1 f
  ·rfl
def Nw.put(h:Nw H0 H S)(f:H l=none):Nw H0 (upd H l o) (Ca S t l o):=
 (h.add f).mono fun t' a u z=>z.elim (fun z=> .inr z) fun z=> .inl z.2
def Nw.is(h:Nw H0 H (Ca S t p o)):H p=some o:=(h.at_ _ _ _ B0).1
def Nw.set(h:Nw H0 H (Ca S t p o))(o1:HO):Nw H0 (upd H p o1) (Ca S t p o1):=by
 have hp:=h.at_ _ _ _ B0
 have ne: ∀ t' a u,t'≠t->S t' a u->a≠p:=fun t' a u n z e=>by subst e;exact n<|h.one _ _ _ _ _ (.inr ⟨n,z⟩) B0
 refine⟨fun b u e=>?_,?_,?_⟩
 ·rw[AQ<|Ac e hp.2]
  exact h.same _ _ e
 ·rintro t' a u (⟨rfl,rfl,rfl⟩ |⟨n,z⟩)
  ·exact⟨AJ,hp.2⟩
  ·rw[AQ<|ne _ _ _ n z]
   exact h.at_ _ _ _<|.inr ⟨n,z⟩
 ·rintro t1 t2 a u u' (⟨rfl,rfl,rfl⟩ |⟨n,z⟩) (⟨rfl,e,rfl⟩ |⟨n',y⟩)
  ·rfl
  ·exact absurd rfl<|ne _ _ _ n' y
  ·exact absurd e<|ne _ _ _ n z
  ·exact h.one _ _ _ _ _ (.inr ⟨n,z⟩)<|.inr ⟨n',y⟩
def sY(n:t≠t')(z:Ca (Ca S t' l o') t p o x a y):Ca (Ca S t p o) t' l o' x a y:=by
 rcases z with⟨rfl,rfl,rfl⟩ |⟨n1,⟨rfl,rfl,rfl⟩ |⟨n2,z⟩⟩
 ·exact .inr ⟨n,B0⟩
 ·exact B0
 ·exact .inr ⟨n2,.inr ⟨n1,z⟩⟩
def Nw.under(h:Nw H0 H (Ca S t p o))(f:H l=none)(n:t≠t')(o':HO):Nw H0 (upd H l o') (Ca (Ca S t' l o') t p o):=(h.put f).mono fun _ _ _ z=>sY n z
def Nw.Yd(h:Nw H0 H (Ca S t p o))(f:H l=none)(n:t≠t')(o':HO):Nw H0 (upd H l o') (Ca (R8 S<|Y6 t' l o') t p o):=(h.add (t:=t') (o:=o') f).mono fun x b y z=>by
 rcases z with⟨rfl,rfl,rfl⟩ |⟨n1,z | z⟩
 ·exact .inl B0
 ·exact .inl<|.inr ⟨n1,z⟩
 ·exact .inr z
open Classical in
noncomputable def SW(S:SS)(H:Hp):Hp:=fun a=>if ∃ t o,t≠ .rest/\S t a o then none else H a
def Bk(h:Nw H0 H S)(e:H0 a=some o):SW S H a=some o:=by
 unfold SW
 rw[AG fun⟨t,u,_,z⟩=>by rw[(h.at_ _ _ _ z).2]at e;cases e]
 exact h.same _ _ e
def Xb(h:Nw H0 H S)(e:S .rest a o):SW S H a=some o:=by
 unfold SW
 rw[AG fun⟨t,u,n,z⟩=>n<|h.one _ _ _ _ _ z e]
 exact(h.at_ _ _ _ e).1
open Classical in
def R.make(h:Nw H0 H S)(hw: ∀ t a o,want A g v m t=some (a,o)->S t a o)(gd:Good K (SW S H) g v m):R K A (SW S H) g v m H:=by
 refine⟨⟨fun a=>if e: ∃ t o,S t a o then e.choose else .rest,fun t a o e=>?_,fun a o e=>?_⟩,gd⟩
 ·have s:=hw t a o e
  have x: ∃ t o,S t a o:=⟨t,o,s⟩
  refine⟨(h.at_ _ _ _ s).1,?_⟩
  simp only[dif_pos x]
  obtain⟨u,z⟩:=x.choose_spec
  exact h.one _ _ _ _ _ z s
 ·unfold SW at e
  split at e
  ·cases e
  ·rename_i n
   refine⟨e,?_⟩
   by_cases x: ∃ t o,S t a o
   ·simp only[dif_pos x]
    obtain⟨u,z⟩:=x.choose_spec
    exact yW fun y=>n ⟨_,u,y,z⟩
   ·simp only[dif_neg x]
end
end GF
end
section
namespace GF
open PySem PySem.Spec PyProof.Rows L2
variable{P:BH}{w:Ao}{K:AS}{mg:Str->Option AN}{base:Az}{A:B3}[T:Txt K mg A]
inductive AEH(C:AK)(vs:List V)(H:Hp)(Q:VK)(E_:XK):Prop
 | mk: ∀ p dx,vs= [.ref p]->H p=some (.ins C dx [])->Q .non (upd H p (.ins C dx (RR Ht.usual)))->AEH C vs H Q E_
def Sw :O0 P w base 1 171 ["self"] (AEH<|A.cl 5):=by
 refine T.UA.1.DQ ["self"] fun H vs Q E hr h=>?_
 obtain⟨p,dx,rfl,hp,q⟩:=h
 refine⟨_,(AB (BC AH AE)<|AB (BC AH AE)<|AB (BC AH AE)<|AB (BC AH AE)<|AB (BC AH AE)<|AB (BC AH AE)<|AF<|BC AH AE),hp,BG,(B8 rfl),AJ,BG,(B8 rfl),AJ,BG,(B8 rfl),AJ,BG,(B8 rfl),AJ,BG,(B8 rfl),AJ,BG,(B8 rfl),AJ,BG,(B8 rfl),?_⟩
 rw[Bl,Bl,Bl,Bl,Bl,Bl]
 exact q
inductive ADX(C:AK)(vs:List V)(H:Hp)(Q:VK)(E_:XK):Prop
 | mk: ∀ k dk x,vs= [.ref k]->H k=some (.ins C dk (RR x))->(∀ q dq,H q=none->H dq=none->dq≠q->Q (.ref q) (upd (upd H dq (.own q)) q (.ins C dq (RR x))))->ADX C vs H Q E_
def fT :O0 P w base 3 172 ["self"] (ADX<|A.cl 5):=by
 refine T.aQ.F.DQ ["self","other"] fun H vs Q E hr h=>?_
 obtain⟨k,dk,x,rfl,hk,qq⟩:=h
 refine⟨_,(AB (AO 1<|XQ T.c.u7 Sw (hr.mono<|by decide) rfl T.c.uf T.UA.2 .nil Gn)<|AB (BC AV<|AR AH)<|AB (BC AV<|AR AH)<|AB (BC AV<|AR AH)<|AB (BC AV<|AR AH)<|AB (BC AV<|AR AH)<|AB (BC AV<|AR AH)<|AB (BC AV<|AR AH)<|AF<|AY AV),?_⟩
 intro q dq hq hdq ne
 refine⟨q,dq,rfl,AJ,rfl,?_⟩
 rw[Bl]
 have n0:k≠q:=fun z=>by rw[<-z,hk]at hq;cases hq
 have n1:k≠dq:=fun z=>by rw[<-z,hk]at hdq;cases hdq
 obtain⟨H1,hH1⟩: ∃ H1,H1=upd H dq (.own q):=⟨_,rfl⟩
 rw[<-hH1]
 have hk1:H1 k=some (.ins (A.cl 5) dk<|RR x):=by rw[hH1,AQ n1];exact hk
 refine⟨(AQ n0).trans hk1,BG,Xz,AJ,BG,(B8 rfl),?_⟩
 rw[Bl]
 refine⟨(AQ n0).trans hk1,BG,LI,AJ,BG,(B8 rfl),?_⟩
 rw[Bl]
 refine⟨(AQ n0).trans hk1,BG,Nj,AJ,BG,(B8 rfl),?_⟩
 rw[Bl]
 refine⟨(AQ n0).trans hk1,BG,Hz,AJ,BG,(B8 rfl),?_⟩
 rw[Bl]
 refine⟨(AQ n0).trans hk1,BG,Kc,AJ,BG,(B8 rfl),?_⟩
 rw[Bl]
 refine⟨(AQ n0).trans hk1,BG,Fs,AJ,BG,(B8 rfl),?_⟩
 rw[Bl]
 refine⟨(AQ n0).trans hk1,BG,WC,AJ,BG,(B8 rfl),?_⟩
 rw[Bl,hH1]
 exact qq q dq hq hdq ne
noncomputable def grV(u d:V)(c k t ol en kp:AK)(st pl:Int):List (Str×V):= [("units",u),("dots",d),("cells",.ref c),("controls",.ref k),("twilight",.ref t),("outline",.ref ol),("ends",.ref en),("kept",.ref kp),("still",.int st),("plain",.int pl)]
inductive AEU(A:B3)(vs:List V)(H:Hp)(Q:VK)(E_:XK):Prop
 | mk: ∀ H0 S tg p dx u d c k t,vs= [.ref p,u,d,.ref c,.ref k,.ref t]-> .gr≠tg->Nw H0 H (Ca S .gr p (.ins (A.cl 6) dx []))->(∀ ol en kp dk H',Nw H0 H' (Ca (Ca (R8 (R8 S (Y6 tg ol (.lst []))) (Y6 .rest en (.lst []))) .kp kp (.ins (A.cl 5) dk (RR Ht.usual))) .gr p (.ins (A.cl 6) dx (grV u d c k t ol en kp 0 0)))->Q .non H')->AEU A vs H Q E_
def NP :O0 P w base 3 173 ["self","units","dots","cells","controls","twilight"] (AEU A):=by
 refine T.Nq.1.DQ ["self","units","dots","cells","controls","twilight"] fun H vs Q E hr h=>?_
 obtain⟨H0,S,tg,p,dx,u,d,c,k,t,rfl,ht,n,q⟩:=h
 refine⟨_,(AB (BC AH AV)<|AB (BC AH Aj)<|AB (BC AH A6)<|AB (BC AH CG)<|AB (BC AH ES)<|AB (BC AH<|Ba Es)<|AB (BC AH<|Ba Es)<|AB (BC AH<|XQ T.c.u7 Sw (hr.mono<|by decide) rfl T.c.uf T.UA.2 .nil Gn)<|AB (BC AH AE)<|AF<|BC AH AE),n.is,AW,(B8 rfl),?_⟩
 replace n:=n.set<|.ins (A.cl 6) dx [("units",u)]
 refine⟨n.is,AW,(B8 rfl),?_⟩
 replace n:=n.set<|.ins (A.cl 6) dx [("units",u),("dots",d)]
 refine⟨n.is,AW,(B8 rfl),?_⟩
 replace n:=n.set<|.ins (A.cl 6) dx [("units",u),("dots",d),("cells",.ref c)]
 refine⟨n.is,AW,(B8 rfl),?_⟩
 replace n:=n.set<|.ins (A.cl 6) dx [("units",u),("dots",d),("cells",.ref c),("controls",.ref k)]
 refine⟨n.is,AW,(B8 rfl),?_⟩
 replace n:=n.set<|.ins (A.cl 6) dx [("units",u),("dots",d),("cells",.ref c),("controls",.ref k),("twilight",.ref t)]
 refine⟨B6 _,fun ol hol=>?_⟩
 replace n:=n.Yd (t':=tg) hol ht<|.lst []
 refine⟨n.is,AW,(B8 rfl),?_⟩
 replace n:=n.set<|.ins (A.cl 6) dx [("units",u),("dots",d),("cells",.ref c),("controls",.ref k),("twilight",.ref t),("outline",.ref ol)]
 refine⟨B6 _,fun en hen=>?_⟩
 replace n:=n.Yd (t':= .rest) hen (by intro z;cases z) (.lst [])
 refine⟨n.is,AW,(B8 rfl),?_⟩
 replace n:=n.set<|.ins (A.cl 6) dx [("units",u),("dots",d),("cells",.ref c),("controls",.ref k),("twilight",.ref t),("outline",.ref ol),("ends",.ref en)]
 intro kp dk hkp hdk nek
 refine⟨kp,dk,rfl,AJ,rfl,?_⟩
 rw[Bl]
 replace n:=n.Zn (o:= .own kp) hdk
 replace n:=n.under (t':= .kp) (l:=kp) ((AQ nek.symm).trans hkp) (by intro z;cases z) (.ins (A.cl 5) dk (RR Ht.usual))
 refine⟨n.is,AW,(B8 rfl),?_⟩
 replace n:=n.set<|.ins (A.cl 6) dx [("units",u),("dots",d),("cells",.ref c),("controls",.ref k),("twilight",.ref t),("outline",.ref ol),("ends",.ref en),("kept",.ref kp)]
 refine⟨n.is,AW,(B8 rfl),?_⟩
 replace n:=n.set<|.ins (A.cl 6) dx [("units",u),("dots",d),("cells",.ref c),("controls",.ref k),("twilight",.ref t),("outline",.ref ol),("ends",.ref en),("kept",.ref kp),("still",.int 0)]
 refine⟨n.is,AW,(B8 rfl),?_⟩
 replace n:=n.set<|.ins (A.cl 6) dx [("units",u),("dots",d),("cells",.ref c),("controls",.ref k),("twilight",.ref t),("outline",.ref ol),("ends",.ref en),("kept",.ref kp),("still",.int 0),("plain",.int 0)]
 exact q ol en kp dk _ n
noncomputable def NA(kd:Ht.Kind):Int:=if kd= .font then 1 else 0
noncomputable def rnV(A:B3)(kd:Ht.Kind)(gr fo fn co:V)(CL C1 refs Bj:AK):List (Str×V):= [("kind",.int<|kI kd),("ground",gr),("font",fo),("functions",fn),("code",co),("whose",.int<|NA kd),("place",.int 0),("after",.int 0),("byte",.int 0),("done",.int 0),("frames",.ref CL),("stack",.ref C1),("projection",.ref<|A.tg 0),("freedom",.ref<|A.tg 0),("old_projection",.ref<|A.tg 0),("references",.ref refs),("pointers",.ref Bj),("loop",.int 1),("rounding",.int 1),("rounding_byte",.int 0)]
def ABw(h:Q (.int<|NA kd) H):if decide (V.int (kI kd)=V.int 0)=true then tC (.int 1) σ H Q else tC (.int 0) σ H Q:=by cases kd<;>exact h
inductive AEz(A:B3)(vs:List V)(H:Hp)(Q:VK)(E_:XK):Prop
 | mk: ∀ H0 S p dx kd gr co fo fn,vs= [.ref p,.int (kI kd),gr,co,fo,fn]->Nw H0 H (Ca S .run p (.ins (A.cl 1) dx []))->(∀ CL C1 refs Bj H',Nw H0 H' (Ca (Ca (Ca (Ca (Ca S .CL CL (.lst [])) .C1 C1 (.lst [])) .refs refs (.lst [.int 0,.int 0,.int 0])) .Bj Bj (.lst [.int 1,.int 1,.int 1])) .run p (.ins (A.cl 1) dx (rnV A kd gr fo fn co CL C1 refs Bj)))->Q .non H')->AEz A vs H Q E_
def NU :O0 P w base 1 17 ["self","kind","ground","code","font","functions"] (AEz A):=by
 refine T.Ry.1.DQ ["self","kind","ground","code","font","functions"] fun H vs Q E hr h=>?_
 obtain⟨H0,S,p,dx,kd,gr,co,fo,fn,rfl,n,q⟩:=h
 refine⟨_,(AB (BC AH AV)<|AB (BC AH Aj)<|AB (BC AH CG)<|AB (BC AH ES)<|AB (BC AH A6)<|AB (BC AH<|Bn (A0 BD AV<|Bt T.k.jr) AE AE)<|AB (BC AH AE)<|AB (BC AH AE)<|AB (BC AH AE)<|AB (BC AH AE)<|AB (BC AH<|Ba Es)<|AB (BC AH<|Ba Es)<|AB (BC AH<|DX rfl T.k.Ri<|show L2.RelV (.ref<|A.tg 0) _ from rfl)<|AB (BC AH<|DX rfl T.k.Ri<|show L2.RelV (.ref<|A.tg 0) _ from rfl)<|AB (BC AH<|DX rfl T.k.Ri<|show L2.RelV (.ref<|A.tg 0) _ from rfl)<|AB (BC AH<|Ba<|CH AE AE AE)<|AB (BC AH<|Ba<|CH AE AE AE)<|AB (BC AH AE)<|AB (BC AH<|Bt T.k.vk)<|AF<|BC AH AE),?_⟩
 refine⟨n.is,AL,(B8 rfl),?_⟩
 replace n:=n.set<|.ins (A.cl 1) dx [("kind",.int<|kI kd)]
 refine⟨n.is,AL,(B8 rfl),?_⟩
 replace n:=n.set<|.ins (A.cl 1) dx [("kind",.int<|kI kd),("ground",gr)]
 refine⟨n.is,AL,(B8 rfl),?_⟩
 replace n:=n.set<|.ins (A.cl 1) dx [("kind",.int<|kI kd),("ground",gr),("font",fo)]
 refine⟨n.is,AL,(B8 rfl),?_⟩
 replace n:=n.set<|.ins (A.cl 1) dx [("kind",.int<|kI kd),("ground",gr),("font",fo),("functions",fn)]
 refine⟨n.is,AL,(B8 rfl),?_⟩
 replace n:=n.set<|.ins (A.cl 1) dx [("kind",.int<|kI kd),("ground",gr),("font",fo),("functions",fn),("code",co)]
 refine⟨rfl,ABw<|⟨n.is,AL,(B8 rfl),?_⟩⟩
 replace n:=n.set<|.ins (A.cl 1) dx [("kind",.int<|kI kd),("ground",gr),("font",fo),("functions",fn),("code",co),("whose",.int<|NA kd)]
 refine⟨n.is,AL,(B8 rfl),?_⟩
 replace n:=n.set<|.ins (A.cl 1) dx [("kind",.int<|kI kd),("ground",gr),("font",fo),("functions",fn),("code",co),("whose",.int<|NA kd),("place",.int 0)]
 refine⟨n.is,AL,(B8 rfl),?_⟩
 replace n:=n.set<|.ins (A.cl 1) dx [("kind",.int<|kI kd),("ground",gr),("font",fo),("functions",fn),("code",co),("whose",.int<|NA kd),("place",.int 0),("after",.int 0)]
 refine⟨n.is,AL,(B8 rfl),?_⟩
 replace n:=n.set<|.ins (A.cl 1) dx [("kind",.int<|kI kd),("ground",gr),("font",fo),("functions",fn),("code",co),("whose",.int<|NA kd),("place",.int 0),("after",.int 0),("byte",.int 0)]
 refine⟨n.is,AL,(B8 rfl),?_⟩
 replace n:=n.set<|.ins (A.cl 1) dx [("kind",.int<|kI kd),("ground",gr),("font",fo),("functions",fn),("code",co),("whose",.int<|NA kd),("place",.int 0),("after",.int 0),("byte",.int 0),("done",.int 0)]
 refine⟨B6 _,fun CL hfrs=>?_⟩
 replace n:=n.under (t':= .CL) hfrs (by intro z;cases z) (.lst [])
 refine⟨n.is,AL,(B8 rfl),?_⟩
 replace n:=n.set<|.ins (A.cl 1) dx [("kind",.int<|kI kd),("ground",gr),("font",fo),("functions",fn),("code",co),("whose",.int<|NA kd),("place",.int 0),("after",.int 0),("byte",.int 0),("done",.int 0),("frames",.ref CL)]
 refine⟨B6 _,fun C1 hstk=>?_⟩
 replace n:=n.under (t':= .C1) hstk (by intro z;cases z) (.lst [])
 refine⟨n.is,AL,(B8 rfl),?_⟩
 replace n:=n.set<|.ins (A.cl 1) dx [("kind",.int<|kI kd),("ground",gr),("font",fo),("functions",fn),("code",co),("whose",.int<|NA kd),("place",.int 0),("after",.int 0),("byte",.int 0),("done",.int 0),("frames",.ref CL),("stack",.ref C1)]
 refine⟨n.is,AL,(B8 rfl),?_⟩
 replace n:=n.set<|.ins (A.cl 1) dx [("kind",.int<|kI kd),("ground",gr),("font",fo),("functions",fn),("code",co),("whose",.int<|NA kd),("place",.int 0),("after",.int 0),("byte",.int 0),("done",.int 0),("frames",.ref CL),("stack",.ref C1),("projection",.ref<|A.tg 0)]
 refine⟨n.is,AL,(B8 rfl),?_⟩
 replace n:=n.set<|.ins (A.cl 1) dx [("kind",.int<|kI kd),("ground",gr),("font",fo),("functions",fn),("code",co),("whose",.int<|NA kd),("place",.int 0),("after",.int 0),("byte",.int 0),("done",.int 0),("frames",.ref CL),("stack",.ref C1),("projection",.ref<|A.tg 0),("freedom",.ref<|A.tg 0)]
 refine⟨n.is,AL,(B8 rfl),?_⟩
 replace n:=n.set<|.ins (A.cl 1) dx [("kind",.int<|kI kd),("ground",gr),("font",fo),("functions",fn),("code",co),("whose",.int<|NA kd),("place",.int 0),("after",.int 0),("byte",.int 0),("done",.int 0),("frames",.ref CL),("stack",.ref C1),("projection",.ref<|A.tg 0),("freedom",.ref<|A.tg 0),("old_projection",.ref<|A.tg 0)]
 refine⟨(by decide),fun refs hrefs=>?_⟩
 replace n:=n.under (t':= .refs) hrefs (by intro z;cases z) (.lst [.int 0,.int 0,.int 0])
 refine⟨n.is,AL,(B8 rfl),?_⟩
 replace n:=n.set<|.ins (A.cl 1) dx [("kind",.int<|kI kd),("ground",gr),("font",fo),("functions",fn),("code",co),("whose",.int<|NA kd),("place",.int 0),("after",.int 0),("byte",.int 0),("done",.int 0),("frames",.ref CL),("stack",.ref C1),("projection",.ref<|A.tg 0),("freedom",.ref<|A.tg 0),("old_projection",.ref<|A.tg 0),("references",.ref refs)]
 refine⟨(show 3<=sizeLine by decide),fun Bj hptrs=>?_⟩
 replace n:=n.under (t':= .Bj) hptrs (by intro z;cases z) (.lst [.int 1,.int 1,.int 1])
 refine⟨n.is,AL,(B8 rfl),?_⟩
 replace n:=n.set<|.ins (A.cl 1) dx [("kind",.int<|kI kd),("ground",gr),("font",fo),("functions",fn),("code",co),("whose",.int<|NA kd),("place",.int 0),("after",.int 0),("byte",.int 0),("done",.int 0),("frames",.ref CL),("stack",.ref C1),("projection",.ref<|A.tg 0),("freedom",.ref<|A.tg 0),("old_projection",.ref<|A.tg 0),("references",.ref refs),("pointers",.ref Bj)]
 refine⟨n.is,AL,(B8 rfl),?_⟩
 replace n:=n.set<|.ins (A.cl 1) dx [("kind",.int<|kI kd),("ground",gr),("font",fo),("functions",fn),("code",co),("whose",.int<|NA kd),("place",.int 0),("after",.int 0),("byte",.int 0),("done",.int 0),("frames",.ref CL),("stack",.ref C1),("projection",.ref<|A.tg 0),("freedom",.ref<|A.tg 0),("old_projection",.ref<|A.tg 0),("references",.ref refs),("pointers",.ref Bj),("loop",.int 1)]
 refine⟨n.is,AL,(B8 rfl),?_⟩
 replace n:=n.set<|.ins (A.cl 1) dx [("kind",.int<|kI kd),("ground",gr),("font",fo),("functions",fn),("code",co),("whose",.int<|NA kd),("place",.int 0),("after",.int 0),("byte",.int 0),("done",.int 0),("frames",.ref CL),("stack",.ref C1),("projection",.ref<|A.tg 0),("freedom",.ref<|A.tg 0),("old_projection",.ref<|A.tg 0),("references",.ref refs),("pointers",.ref Bj),("loop",.int 1),("rounding",.int 1)]
 refine⟨n.is,AL,(B8 rfl),?_⟩
 replace n:=n.set<|.ins (A.cl 1) dx [("kind",.int<|kI kd),("ground",gr),("font",fo),("functions",fn),("code",co),("whose",.int<|NA kd),("place",.int 0),("after",.int 0),("byte",.int 0),("done",.int 0),("frames",.ref CL),("stack",.ref C1),("projection",.ref<|A.tg 0),("freedom",.ref<|A.tg 0),("old_projection",.ref<|A.tg 0),("references",.ref refs),("pointers",.ref Bj),("loop",.int 1),("rounding",.int 1),("rounding_byte",.int 0)]
 exact q CL C1 refs Bj _ n
end GF
end
section
namespace GF
open PySem L2
section
variable{K:AS}{A:B3}{H0 H H':Hp}{S S':SS}{t t':Tag}{l p a:AK}{o o' o1:HO}
structure QI where
 pp:Nat->AK
 pd:Nat->AK
 lo:Nat->AK
 ln:Nat->AK
 was:Nat->Ht.Pos
 now:Nat->Ht.Pos
 xk:Nat->Int
noncomputable def QI.put(P:QI)(n:Nat)(x dx lo ln:AK)(w a:Ht.Pos)(k:Int):QI where
 pp i:=if i=n then x else P.pp i
 pd i:=if i=n then dx else P.pd i
 lo i:=if i=n then lo else P.lo i
 ln i:=if i=n then ln else P.ln i
 was i:=if i=n then w else P.was i
 now i:=if i=n then a else P.now i
 xk i:=if i=n then k else P.xk i
noncomputable def sPt(A:B3)(z:Nat)(P:QI)(i:Nat):SS:=fun t a o=>(t= .pt z i/\a=P.pp i/\o= .ins (A.cl 3) (P.pd i) (Na (P.lo i) (P.ln i)<|P.xk i))\/(t= .po z i/\a=P.lo i/\o= .lst (pV<|P.was i))\/(t= .pn z i/\a=P.ln i/\o= .lst (pV<|P.now i))
noncomputable def Gs(A:B3)(z n:Nat)(P:QI):SS:=fun t a o=> ∃ i,i<n/\sPt A z P i t a o
noncomputable def refsOf(P:QI)(n:Nat):List V:=(BO n).map fun i=> .ref (P.pp i)
def ADg{e f a b:HO}:upd (upd (upd (upd H x e) lo a) ln b) x f=upd (upd (upd H lo a) ln b) x f:=by
 funext c
 by_cases h1:c=x
 ·subst h1;rw[AJ,AJ]
 rw[AQ h1,AQ h1]
 by_cases h2:c=ln
 ·subst h2;rw[AJ,AJ]
 rw[AQ h2,AQ h2]
 by_cases h3:c=lo
 ·subst h3;rw[AJ,AJ]
 rw[AQ h3,AQ h3,AQ h1]
def X0{w a:Ht.Pos}:refsOf (P.put n x dx lo ln w a k) (n+1)=refsOf P n++ [.ref x]:=by
 unfold refsOf
 rw[Ha,E6]
 congr 1
 ·exact PM fun i hi=>by
   have:i≠n:=DN<|PV.mp hi
   show V.ref (if i=n then x else P.pp i)=_
   rw[AG this]
 ·show [V.ref<|if n=n then x else P.pp n]=_
  rw[AI rfl]
def LB:(refsOf P n).length=n:=by unfold refsOf;rw[A8,CO]
def U0(h:i≠n):sPt A z (P.put n x dx lo ln w b k) i t a o=sPt A z P i t a o:=by
 unfold sPt QI.put
 simp only[AG h]
def Nw.point(h:Nw H0 H (Ca (R8 S<|Gs A z n P) (.zl z) D o))(hx:H x=none)(hd:H dx=none)(xd:dx≠x)(hl:H lo=none)(hn:H ln=none)(e1:lo≠ln)(e2:lo≠x)(e3:ln≠x)(e4:lo≠dx)(e5:ln≠dx):
  Nw H0 (upd (upd (upd (upd H dx<|.own x) lo<|.lst<|pV w) ln<|.lst<|pV b) x<|.ins (A.cl 3) dx<|Na lo ln k) (Ca (R8 S<|Gs A z (n+1)<|P.put n x dx lo ln w b k) (.zl z) D o):=by
 have h1:=h.Zn (o:= .own x) hd
 have h2:=h1.add (t:= .po z n) (o:= .lst<|pV w) (l:=lo)<|(AQ e4).trans hl
 have h3:=h2.add (t:= .pn z n) (o:= .lst<|pV b) (l:=ln)<|(AQ e1.symm).trans<|(AQ e5).trans hn
 have h4:=h3.add (t:= .pt z n) (o:= .ins (A.cl 3) dx<|Na lo ln k) (l:=x)<|(AQ e3.symm).trans<|(AQ e2.symm).trans<|(AQ xd.symm).trans hx
 refine h4.mono fun t a u q=>?_
 rcases q with⟨rfl,rfl,rfl⟩ |⟨ne,q |⟨i,hi,q⟩⟩
 ·exact .inl<|.inl<|.inl B0
 ·exact .inl<|.inl<|.inl<|.inr ⟨ne,.inl q⟩
 ·by_cases e:i=n
  ·subst e
   unfold sPt QI.put at q
   simp only[D6]at q
   rcases q with q | q | q
   ·exact .inr q
   ·exact .inl<|.inl<|.inr q
   ·exact .inl<|.inr q
  ·rw[U0 e]at q
   exact .inl<|.inl<|.inl<|.inr ⟨ne,.inr ⟨i,by lia,q⟩⟩
end
end GF
end
section
namespace GF
open PySem PySem.Spec PyProof.Rows L2
variable{P:BH}{w:Ao}{K:AS}{mg:Str->Option AN}{base:Az}{A:B3}[T:Txt K mg A]
def c_{F G:Hp->Prop}(h:F H):ADW σ H (fun b H3=>if b=true then F H3 else G H3):=by
 show if true=true then F H else G H
 rw[AI rfl]
 exact h
noncomputable def zer(P:QI)(n:Nat):Prop:= ∀ i,i<n->P.was i=(0,0)/\P.now i=(0,0)/\P.xk i=0
noncomputable def P0:QI:=⟨fun _=>0,fun _=>0,fun _=>0,fun _=>0,fun _=>(0,0),fun _=>(0,0),fun _=>0⟩
inductive AEh(A:B3)(vs:List V)(H:Hp)(Q:VK)(E_:XK):Prop
 | mk: ∀ H0 S n z,vs= [.int (AD n)]->n<=64->Nw H0 H S->(∀ l P H',zer P n->Nw H0 H' (Ca (R8 S (Gs A z n P)) (.zl z) l (.lst (refsOf P n)))->Q (.ref l) H')->AEh A vs H Q E_
def Nw.begin{P:QI}(h:Nw H0 H S)(f:H D=none):Nw H0 (upd H D<|.lst []) (Ca (R8 S<|Gs A z 0 P) (.zl z) D<|.lst<|refsOf P 0):=
 (h.put f).mono fun t a o q=>by
  rcases q with q |⟨ne,q |⟨i,hi,q⟩⟩
  ·exact .inl q
  ·exact .inr ⟨ne,q⟩
  ·exact absurd hi<|HW _
def SM :O0 P w base 3 51 ["count"] (AEh A):=by
 refine T.Nu.F.DQ ["count","number"] fun H vs Q E hr h=>?_
 obtain⟨H0,S,n,z,rfl,hn,nw,q⟩:=h
 refine⟨_,(AF<|AY<|vG (own:= [("number",1)]) rfl (show Ij (["count","number"]:List Str) by decide+kernel) (UY rfl T.k.Jw<|Af AH) (show NJ ["count","number"] (BY<|top 69) _ _ from LN<|by decide+kernel) (fun _ _ _ _ _=>(FV 1)) (fun _ _ _ _ _=>Sr) fun _ _ _ _ _=>(GJ T.c.fB Kh (hr.mono<|by decide) rfl T.c.cS T.LW.2 .nil Gn<|CH AE AE AE)),?_⟩
 refine⟨_,rfl,(by lia),(by lia),fun D hD=>Yb (fun i H'=> ∃ P,zer P i/\Nw H0 H' (Ca (R8 S<|Gs A z i P) (.zl z) D<|.lst<|refsOf P i)) ⟨P0,(fun i hi=>absurd hi<|HW _),nw.begin hD⟩ ?_ ?_⟩
 ·rintro i H3 hi ⟨P,zp,n3⟩
  refine⟨rfl,c_ ?_⟩
  intro x dx nx nd xd
  refine⟨x,dx,_,_,_,rfl,AJ,fun lo ln h1 h2 h3=>⟨rfl,?_⟩⟩
  have a1:lo≠x:=fun z=>by subst z;rw[AJ]at h1;cases h1
  have a2:ln≠x:=fun z=>by subst z;rw[AJ]at h2;cases h2
  rw[AQ a1]at h1
  rw[AQ a2]at h2
  have b1:lo≠dx:=fun z=>by subst z;rw[AJ]at h1;cases h1
  have b2:ln≠dx:=fun z=>by subst z;rw[AJ]at h2;cases h2
  rw[AQ b1]at h1
  rw[AQ b2]at h2
  have n4:=n3.point (w:=(0,0)) (b:=(0,0)) (k:=0) nx nd xd h1 h2 h3 a1 a2 b1 b2
  rw[ADg]
  refine⟨_,n4.is,(by rw[LB];exact HV hi<|Ez hn<|by decide),P.put i x dx lo ln (0,0) (0,0) 0,?_,?_⟩
  ·intro j hj
   by_cases e:j=i
   ·subst e
    unfold QI.put
    simp only[D6]
    exact⟨trivial,trivial,trivial⟩
   ·unfold QI.put
    simp only[AG e]
    exact zp j<|by lia
  ·rw[X0]
   exact(n4.set<|.lst<|refsOf P i++ [.ref x])
 ·rintro H3 ⟨P,zp,n3⟩
  exact q D P H3 zp n3
section
variable{H0 H H':Hp}{S:SS}{t:Tag}{l:AK}{o:HO}
def Nw.grow(h:Nw H0 H S)(s:Bc H H'):Nw H0 H' S:=⟨fun a o e=>s _ _<|h.same _ _ e,fun t a o z=>⟨s _ _ (h.at_ _ _ _ z).1,(h.at_ _ _ _ z).2⟩,h.one⟩
def Nw.ABP{x dx lo ln D:AK}{w b:Ht.Pos}(h:Nw H0 H (Ca (R8 S<|Gs A z n C) (.zl z) D o))(np:kO (A.cl 3) H' x dx lo ln w b k)(hx:H x=none)(hl:H lo=none)(hn:H ln=none)(s:Bc H H'):
  Nw H0 H' (Ca (R8 S<|Gs A z (n+1)<|C.put n x dx lo ln w b k) (.zl z) D o):=by
 have h1:=h.grow s
 have e2:lo≠x:=fun z=>by have q:=np.old;rw[z,np.at_]at q;cases q
 have e3:ln≠x:=fun z=>by have q:=np.now;rw[z,np.at_]at q;cases q
 have fr: ∀ y,H y=none-> ∀ t u,¬ Ca (R8 S<|Gs A z n C) (.zl z) D o t y u:=fun y e t u z=>by rw[(h.at_ _ _ _ z).1]at e;cases e
 have key: ∀ t a u,Ca (R8 S<|Gs A z (n+1)<|C.put n x dx lo ln w b k) (.zl z) D o t a u->Ca (R8 S<|Gs A z n C) (.zl z) D o t a u\/(t= .pt z n/\a=x/\u= .ins (A.cl 3) dx (Na lo ln k))\/(t= .po z n/\a=lo/\u= .lst (pV w))\/(t= .pn z n/\a=ln/\u= .lst (pV b)):=by
  intro t a u q
  rcases q with⟨rfl,rfl,rfl⟩ |⟨ne,q |⟨i,hi,q⟩⟩
  ·exact .inl B0
  ·exact .inl<|.inr ⟨ne,.inl q⟩
  ·by_cases e:i=n
   ·subst e
    unfold sPt QI.put at q
    simp only[D6]at q
    exact .inr q
   ·rw[U0 e]at q
    exact .inl<|.inr ⟨ne,.inr ⟨i,by lia,q⟩⟩
 refine⟨h1.same,fun t a u q=>?_,fun t t' a u u' q q'=>?_⟩
 ·rcases key t a u q with q |⟨rfl,rfl,rfl⟩ |⟨rfl,rfl,rfl⟩ |⟨rfl,rfl,rfl⟩
  ·exact h1.at_ _ _ _ q
  ·exact⟨np.at_,h.mQ hx⟩
  ·exact⟨np.old,h.mQ hl⟩
  ·exact⟨np.now,h.mQ hn⟩
 ·rcases key t a u q with y |⟨rfl,rfl,rfl⟩ |⟨rfl,rfl,rfl⟩ |⟨rfl,rfl,rfl⟩<;>rcases key t' _ u' q' with y' |⟨rfl,e,rfl⟩ |⟨rfl,e,rfl⟩ |⟨rfl,e,rfl⟩
  ·exact h.one _ _ _ _ _ y y'
  ·subst e;exact absurd y<|fr _ hx _ _
  ·subst e;exact absurd y<|fr _ hl _ _
  ·subst e;exact absurd y<|fr _ hn _ _
  ·exact absurd y'<|fr _ hx _ _
  ·rfl
  ·exact absurd e.symm e2
  ·exact absurd e.symm e3
  ·exact absurd y'<|fr _ hl _ _
  ·exact absurd e e2
  ·rfl
  ·exact absurd e np.ne
  ·exact absurd y'<|fr _ hn _ _
  ·exact absurd e e3
  ·exact absurd e.symm np.ne
  ·rfl
noncomputable def bC(A:B3)(H:Hp)(C:QI)(n:Nat):Prop:= ∀ i,i<n->kO (A.cl 3) H (C.pp i) (C.pd i) (C.lo i) (C.ln i) (C.was i) (C.now i) (C.xk i)
noncomputable def alike(C B:QI)(n:Nat):Prop:= ∀ i,i<n->C.was i=B.was i/\C.now i=B.now i/\C.xk i=B.xk i
def kO.mono{p dx lo ln:AK}{w b:Int×Int}(h:kO C H p dx lo ln w b k)(s:Bc H H'):kO C H' p dx lo ln w b k:=⟨s _ _ h.at_,s _ _ h.old,s _ _ h.now,h.ne⟩
inductive mG(A:B3)(vs:List V)(H:Hp)(Q:VK)(E_:XK):Prop
 | mk: ∀ H0 S n z B a,vs= [.ref a]->n<=64->Nw H0 H S->H0 a=some (.lst (refsOf B n))->bC A H0 B n->(∀ l C H',alike C B n->Nw H0 H' (Ca (R8 S (Gs A z n C)) (.zl z) l (.lst (refsOf C n)))->Q (.ref l) H')->mG A vs H Q E_
theorem qC(h:(refsOf C n)[i]?=some x):i<n/\x= .ref (C.pp i):=by
 unfold refsOf at h
 rw[CZ]at h
 cases e:(BO n)[i]? with
 | none=>rw[e]at h;cases h
 | some j=>
  rw[e]at h
  have hi:=(Ie.mp e)
  obtain⟨hl,hj⟩:=hi
  rw[lX]at hj
  subst hj
  rw[CO]at hl
  exact⟨hl,(C5 h).symm⟩
def u_ :O0 P w base 4 52 ["zone"] (mG A):=by
 refine T.AAo.F.DQ ["zone","point"] fun H vs Q E hr h=>?_
 obtain⟨H0,S,n,z,B,a,rfl,hn,nw,ha,hb,q⟩:=h
 refine⟨_,(AF<|AY<|vG (own:= [("point",1)]) rfl (show Ij (["zone","point"]:List Str) by decide+kernel) (GO AH) (show NJ ["zone","point"] (BY<|top 70) _ _ from LN<|by decide+kernel) (fun _ _ _ _ _=>(FV 1)) (fun _ _ _ _ _=>Sr) fun _ _ _ _ _=>(BI AV ZV T.Yc)),?_⟩
 refine⟨⟨_,BF.of<|nw.same _ _ ha⟩,fun D hD=>?_⟩
 refine lZ (xs:=refsOf B n) (fun i H'=> ∃ C,alike C B i/\Nw H0 H' (Ca (R8 S<|Gs A z i C) (.zl z) D<|.lst<|refsOf C i)) ⟨P0,(fun i hi=>absurd hi<|HW _),nw.begin hD⟩ (fun i H' _ ⟨C,_,n3⟩=>BF.of<|n3.same _ _ ha) ?_ ?_
 ·rintro i x H3 hx ⟨C,al,n3⟩
  obtain⟨hi,rfl⟩:=qC hx
  have hp:=(hb i hi).mono n3.same
  refine⟨rfl,c_<|⟨hp.at_,rfl,_,_,_,_,_,_,_,rfl,hp,?_⟩⟩
  rintro p' H4 ⟨dx,lo,ln,np,h1,h2,h3,s4⟩
  have n4:=n3.ABP np h1 h2 h3 s4
  refine⟨_,n4.is,(by rw[LB];exact HV hi<|Ez hn<|by decide),C.put i p' dx lo ln (B.was i) (B.now i)<|B.xk i,?_,?_⟩
  ·intro j hj
   by_cases e:j=i
   ·subst e
    unfold QI.put
    simp only[D6]
    exact⟨trivial,trivial,trivial⟩
   ·unfold QI.put
    simp only[AG e]
    exact al j<|by lia
  ·rw[X0]
   exact(n4.set<|.lst<|refsOf C i++ [.ref p'])
 ·rintro H3 ⟨C,al,n3⟩
  rw[LB]at al n3
  exact q D C H3 al n3
end
noncomputable def sGr(A:B3)(S:SS)(gr dg:AK)(u d:V)(cl kk tw ol en kp dk:AK):SS:=Ca (Ca (R8 (R8 S<|Y6 (.zl 1) ol<|.lst [])<|Y6 .rest en<|.lst []) .kp kp<|.ins (A.cl 5) dk<|RR Ht.usual) .gr gr (.ins (A.cl 6) dg<|grV u d cl kk tw ol en kp 0 0)
inductive ADx(A:B3)(vs:List V)(H:Hp)(Q:VK)(E_:XK):Prop
 | mk: ∀ H0 S u d nc np kk,vs= [u,d,.int (AD nc),.ref kk,.int (AD np)]->nc<=64->np<=64->Nw H0 H S->(∀ cl tw C gr dg ol en kp dk H',zer C np->Nw H0 H' (sGr A (Ca (R8 (Ca S .cells cl (.lst (iV (Ek nc 0)))) (Gs A 0 np C)) (.zl 0) tw (.lst (refsOf C np))) gr dg u d cl kk tw ol en kp dk)->Q (.ref gr) H')->ADx A vs H Q E_
def s_:(iV<|Ek i 0).length=i:=by unfold iV;rw[A8,IY]
def lK:iV (Ek (i+1) 0)=iV (Ek i 0)++ [.int 0]:=by unfold iV;rw[List.replicate_succ',E6];rfl
def Ze :O0 P w base 5 174 ["units","dots","cell_count","controls","point_count"] (ADx A):=by
 refine T.Y8.F.DQ ["units","dots","cell_count","controls","point_count","cells","number"] fun H vs Q E hr h=>?_
 obtain⟨H0,S,u,d,nc,np,kk,rfl,hc,hnp,nw,q⟩:=h
 refine⟨_,(AB (Xo (i:=5) (own:= [("number",6)]) rfl (show Ij (["units","dots","cell_count","controls","point_count","cells","number"]:List Str) by decide+kernel) rfl rfl (d4 rfl rfl rfl<|by decide+kernel) (UY rfl T.k.Jw<|Af Aj) (show NJ ["units","dots","cell_count","controls","point_count","cells","number"] (BY<|top 207) _ _ from LN<|by decide+kernel) (fun _ _ _ _ _=>(FV 6)) (fun _ _ _ _ _=>Sr) fun _ _ _ _ _=>AE)<|AF<|AY<|GJ T.c.gD NP (hr.mono<|by decide) rfl T.c.gP T.Nq.2 .nil Gn<|Cs AH<|Rp AV ES A6<|Ah SM T.Nu<|Af CG),?_⟩
 refine⟨_,rfl,(by lia),(by lia),fun D hD=>Yb (fun i H'=>Nw H0 H'<|Ca S .cells D<|.lst<|iV<|Ek i 0) (nw.put hD) ?_ ?_⟩
 ·rintro i H3 hi n3
  refine⟨rfl,c_<|⟨_,n3.is,(by rw[s_];exact HV hi<|Ez hc<|by decide),?_⟩⟩
  rw[lK]
  exact n3.set _
 ·intro H3 n3
  refine⟨H0,_,np,0,rfl,hnp,n3,fun tw C H4 zc n4=>?_⟩
  intro x dx hx hdx ne
  exact⟨H0,_,.zl 1,x,dx,u,d,D,kk,tw,rfl,(by intro z;cases z),((n4.Zn hdx).put ((AQ ne.symm).trans hx)),fun ol en kp dk H5 n5=>⟨rfl,q D tw C x dx ol en kp dk H5 zc n5⟩⟩
structure vT(A:B3)(H:Hp)(sz dz:AK)(u d:V)(cl kk tw ol en kp dk:AK)(st pl:Int)(xs ys:List V)(B:QI)(n:Nat)(x:Ht.Kept):Prop where
 at_:H sz=some (.ins (A.cl 6) dz (grV u d cl kk tw ol en kp st pl))
 cells:H cl=some (.lst xs)
 Cq:H kk=some (.lst ys)
 tw:H tw=some (.lst (refsOf B n))
 pts:bC A H B n
 kp:H kp=some (.ins (A.cl 5) dk (RR x))
noncomputable def sGs(A:B3)(S:SS)(gr dg:AK)(u d:V)(cl kk tw:AK)(ol en:V)(kp dk:AK)(x:Ht.Kept)(xs ys:List V)(C:QI)(n:Nat)(ol1 en1:AK):SS:=
 Ca (Ca (R8 (R8 (Ca (R8 (Ca (Ca S .cells cl<|.lst xs) .Cq kk<|.lst ys)<|Gs A 0 n C) (.zl 0) tw<|.lst<|refsOf C n)<|Y6 .rest ol1<|.lst [])<|Y6 .rest en1<|.lst []) .kp kp<|.ins (A.cl 5) dk<|RR x)
  .gr gr (.ins (A.cl 6) dg [("units",u),("dots",d),("cells",.ref cl),("controls",.ref kk),("twilight",.ref tw),("outline",ol),("ends",en),("kept",.ref kp),("still",.int 0),("plain",.int 0)])
inductive AD7(A:B3)(vs:List V)(H:Hp)(Q:VK)(E_:XK):Prop
 | mk: ∀ H0 S sz dz u d cl kk tw ol0 en0 kp0 dk0 st pl xs ys B n x ol en,vs= [.ref sz,ol,en]->n<=64->xs.length<=64->ys.length<=64->vT A H0 sz dz u d cl kk tw ol0 en0 kp0 dk0 st pl xs ys B n x->Nw H0 H S->(∀ cl' kk' tw' C gr dg kp dk ol1 en1 H',alike C B n->Nw H0 H' (sGs A S gr dg u d cl' kk' tw' ol en kp dk (if pl=0 then x else Ht.usual) xs ys C n ol1 en1)->Q (.ref gr) H')->AD7 A vs H Q E_
def Po :O0 P w base 5 175 ["size","outline","ends"] (AD7 A):=by
 refine T.Ky.F.DQ ["size","outline","ends","ground"] fun H vs Q E hr h=>?_
 obtain⟨H0,S,sz,dz,u,d,cl,kk,tw,ol0,en0,kp0,dk0,st,pl,xs,ys,B,n,x,ol,en,rfl,hn,hx,hy,hz,nw,q⟩:=h
 refine⟨_,(AB (AO 3<|GJ T.c.gD NP (hr.mono<|by decide) rfl T.c.gP T.Nq.2 .nil Gn<|Cs (AR AH)<|Rp (AR AH) (LJ Fz rfl T.k.Y2 So<|Af<|AR AH) (LJ Fz rfl T.k.Y2 So<|Af<|AR AH)<|Ah u_ T.AAo<|Af<|AR AH)<|AB (BC A6 AV)<|AB (BC A6 Aj)<|AB (Aq (A0 BD (AR AH) AE) (AF<|BC A6<|BI (AR AH) fT T.aQ) AX)<|AF<|AY A6),nw.same _ _ hz.at_,AW,rfl,nw.same _ _ hz.at_,AW,rfl,nw.same _ _ hz.at_,AW,rfl,_,_,rfl,.inl<|BF.of<|nw.same _ _ hz.cells,fun l1 h1=>?_⟩
 have n1:=nw.put (t:= .cells) (o:= .lst xs) h1
 refine⟨n1.same _ _ hz.at_,AW,rfl,_,_,rfl,.inl<|BF.of<|n1.same _ _ hz.Cq,fun l2 h2=>?_⟩
 have n2:=n1.put (t:= .Cq) (o:= .lst ys) h2
 refine⟨n2.same _ _ hz.at_,AW,rfl,H0,_,n,0,B,tw,rfl,hn,n2,hz.tw,hz.pts,fun tw' C H4 al n4=>?_⟩
 intro p dp hp hdp ne
 refine⟨H0,_,.rest,p,dp,u,d,l1,l2,tw',rfl,(by intro z;cases z),((n4.Zn hdp).put ((AQ ne.symm).trans hp)),fun ol1 en1 kp dk H5 n5=>⟨rfl,n5.is,AW,(B8 rfl),?_⟩⟩
 replace n5:=n5.set<|.ins (A.cl 6) dp [("units",u),("dots",d),("cells",.ref l1),("controls",.ref l2),("twilight",.ref tw'),("outline",ol),("ends",.ref en1),("kept",.ref kp),("still",.int 0),("plain",.int 0)]
 refine⟨n5.is,AW,(B8 rfl),?_⟩
 replace n5:=n5.set<|.ins (A.cl 6) dp [("units",u),("dots",d),("cells",.ref l1),("controls",.ref l2),("twilight",.ref tw'),("outline",ol),("ends",en),("kept",.ref kp),("still",.int 0),("plain",.int 0)]
 refine⟨n5.same _ _ hz.at_,AW,rfl,rfl,A7 (fun e=>?_) fun e=>?_⟩
 ·have e0:=V.int.inj (An e)
  refine⟨n5.same _ _ hz.at_,AW,rfl,n5.same _ _ hz.kp,rfl,_,_,x,rfl,n5.same _ _ hz.kp,fun k2 d2 hk2 hd2 ne2=>?_⟩
  have n6:=(n5.Zn (o:= .own k2) hd2).under (t':= .kp) (l:=k2) ((AQ ne2.symm).trans hk2) (by intro z;cases z) (.ins (A.cl 5) d2 (RR x))
  refine⟨n6.is,AW,(B8 rfl),?_⟩
  refine q l1 l2 tw' C p dp k2 d2 ol1 en1 _ al ?_
  rw[AI e0]
  exact(n6.set<|.ins (A.cl 6) dp [("units",u),("dots",d),("cells",.ref l1),("controls",.ref l2),("twilight",.ref tw'),("outline",ol),("ends",en),("kept",.ref k2),("still",.int 0),("plain",.int 0)]).mono fun t a u z=>z.elim .inl fun z=> .inr ⟨z.1,z.2.elim .inl fun y=> .inr ⟨y.1,.inr ⟨y.1,y.2⟩⟩⟩
 ·have e0:pl≠0:=fun z=>e (Av<|by rw[z])
  refine q l1 l2 tw' C p dp kp dk ol1 en1 _ al ?_
  rw[AG e0]
  exact n5
noncomputable def pJ(a:AK)(p:Nat):List (Str×V):= [("numbers",.ref a),("place",.int<|AD p)]
inductive AEL(C:AK)(vs:List V)(H:Hp)(Q:VK)(E_:XK):Prop
 | mk: ∀ p dx a,vs= [.ref p,.ref a]->H p=some (.ins C dx [])->Q .non (upd H p (.ins C dx (pJ a 0)))->AEL C vs H Q E_
inductive vz(K:AS)(C:AK)(vs:List V)(H:Hp)(Q:VK)(E_:XK):Prop
 | mk: ∀ p dx a i xs,vs= [.ref p]->H p=some (.ins C dx (pJ a i))->BF K H a xs->Q (.bl (decide (i<xs.length))) H->vz K C vs H Q E_
inductive ABO(K:AS)(C:AK)(vs:List V)(H:Hp)(Q:VK)(E_:XK):Prop
 | mk: ∀ p dx a i xs x,vs= [.ref p]->H p=some (.ins C dx (pJ a i))->BF K (upd H p (.ins C dx (pJ a (i+1)))) a xs->xs[i]?=some x->Q x (upd H p (.ins C dx (pJ a (i+1))))->ABO K C vs H Q E_
def Zk :O0 P w base 1 176 ["self","numbers"] (AEL<|A.cl 7):=by
 refine T.Ym.1.DQ ["self","numbers"] fun H vs Q E hr h=>?_
 obtain⟨p,dx,a,rfl,hp,q⟩:=h
 refine⟨_,(AB (BC AH AV)<|AF<|BC AH AE),hp,EV,(B8 rfl),AJ,EV,(B8 rfl),?_⟩
 rw[Bl]
 exact q
def ZW :O0 P w base 1 177 ["self"] (vz K<|A.cl 7):=by
 refine T.X9.F.DQ ["self"] fun H vs Q E hr h=>?_
 obtain⟨p,dx,a,i,xs,rfl,hp,hs,q⟩:=h
 refine⟨_,(AF<|AY<|Hu Dn (AR AH)<|Dc T.k.CD<|Af<|AR AH),hp,EV,rfl,hp,EV,rfl,.inl hs,?_⟩
 have e:decide (AD i<(xs.length:Int))=decide (i<xs.length):=oU.mpr BQ
 show Q (.bl<|decide (AD i<(xs.length:Int))) H
 rw[e]
 exact q
def As :O0 P w base 1 178 ["self"] (ABO K<|A.cl 7):=by
 refine T.A3.F.DQ ["self"] fun H vs Q E hr h=>?_
 obtain⟨p,dx,a,i,xs,x,rfl,hp,hs,hx,q⟩:=h
 refine⟨_,(AB (OU AH AE jb)<|AF<|AY<|A9 Ab (AR AH)<|AU B1 (AR AH) AE),hp,EV,rfl,_,_,rfl,rfl,hp,(B8 rfl),?_⟩
 have e:AD i+1-1=AD i:=by lia
 have hx':XA xs (AD i+1-1)=some x:=by rw[e];exact Em hx
 exact⟨AJ,EV,rfl,AJ,EV,rfl,hs,hx',q⟩
inductive ACP(K:AS)(C:AK)(vs:List V)(H:Hp)(Q:VK)(E_:XK):Prop
 | mk: ∀ p dx a i n xs,vs= [.ref p]->H p=some (.ins C dx (pJ a i))->(∀ o,BF K (upd H p o) a xs)->xs[i]?=some (.int (AD n))->i+1+n<=xs.length->(∀ l,(upd H p (.ins C dx (pJ a (i+1+n)))) l=none->Q (.ref l) (upd (upd H p (.ins C dx (pJ a (i+1+n)))) l (.lst ((xs.drop (i+1)).take n))))->ACP K C vs H Q E_
def C4 :O0 P w base 2 179 ["self"] (ACP K<|A.cl 7):=by
 refine T.DU.F.DQ ["self","length"] fun H vs Q E hr h=>?_
 obtain⟨p,dx,a,i,n,xs,rfl,hp,hs,hx,hl,q⟩:=h
 refine⟨_,(AB (AO 1<|BI AH As T.A3)<|AB (OU AH AV jb)<|AF<|AY<|iO rD (AR AH) (W_<|AU B1 (AR AH) AV)<|W_<|AR AH),hp,rfl,p,dx,a,i,xs,_,rfl,hp,hs _,hx,AJ,EV,rfl,_,_,rfl,rfl,AJ,(B8 rfl),?_⟩
 rw[Bl]
 refine⟨AJ,EV,rfl,AJ,EV,rfl,_,rfl,AJ,EV,rfl,_,rfl,_,_,rfl,hs _,fun l hl2=>?_⟩
 have e:cC xs (some<|AD (i+1)+AD n-AD n) (some<|AD (i+1)+AD n)=(xs.drop<|i+1).take n:=by
  rw[show AD (i+1)+AD n-AD n=((i+1:Nat):Int) by show(((i+1:Nat):Int)+(n:Int)- (n:Int))=_;lia,show AD (i+1)+AD n=((i+1+n:Nat):Int) by show(((i+1:Nat):Int)+(n:Int))=_;lia]
  unfold cC
  rw[HT.WB,HT.WB,Wm hl,Wm<|by lia,show i+1+n- (i+1)=n by lia]
 rw[e]
 exact q l hl2
noncomputable def Wn(u t c:Nat)(tc fo fu:AK)(sz sh:V):List (Str×V):= [("units",.int<|AD u),("point_count",.int<|AD t),("cell_count",.int<|AD c),("told_controls",.ref tc),("font",.ref fo),("functions",.ref fu),("size",sz),("shape",sh)]
inductive ADo(A:B3)(vs:List V)(H:Hp)(Q:VK)(E_:XK):Prop
 | mk: ∀ H0 S p dx,vs= [.ref p]->Nw H0 H (Ca S .run p (.ins (A.cl 8) dx []))->(∀ tc fo fu H',Nw H0 H' (Ca (R8 (R8 (R8 S (Y6 .rest tc (.lst []))) (Y6 .rest fo (.lst []))) (Y6 .rest fu (.dK []))) .run p (.ins (A.cl 8) dx (Wn 16 0 0 tc fo fu .non .non)))->Q .non H')->ADo A vs H Q E_
inductive AEA(C:AK)(vs:List V)(H:Hp)(Q:VK)(E_:XK):Prop
 | mk: ∀ p dx u t c tc fo fu sz sh,vs= [.ref p]->H p=some (.ins C dx (Wn u t c tc fo fu sz sh))->Q .non (upd H p (.ins C dx (Wn u t c tc fo fu .non .non)))->AEA C vs H Q E_
def JX :O0 P w base 1 181 ["machine"] (AEA<|A.cl 8):=by
 refine T.KN.F.DQ ["machine"] fun H vs Q E hr h=>?_
 obtain⟨p,dx,u,t,c,tc,fo,fu,sz,sh,rfl,hp,q⟩:=h
 refine⟨_,(AB (BC AH Y1)<|AF<|BC AH Y1),hp,Ap,(B8 rfl),AJ,Ap,(B8 rfl),?_⟩
 rw[Bl]
 exact q
def VZ :O0 P w base 1 180 ["self"] (ADo A):=by
 refine T.SO.1.DQ ["self"] fun H vs Q E hr h=>?_
 obtain⟨H0,S,p,dx,rfl,n,q⟩:=h
 refine⟨_,(AB (BC AH AE)<|AB (BC AH AE)<|AB (BC AH AE)<|AB (BC AH<|Ba Es)<|AB (BC AH<|Ba Es)<|AB (BC AH Xu)<|AB (BC AH Y1)<|AF<|BC AH Y1),?_⟩
 refine⟨n.is,Ap,(B8 rfl),?_⟩
 replace n:=n.set<|.ins (A.cl 8) dx [("units",.int 16)]
 refine⟨n.is,Ap,(B8 rfl),?_⟩
 replace n:=n.set<|.ins (A.cl 8) dx [("units",.int 16),("point_count",.int 0)]
 refine⟨n.is,Ap,(B8 rfl),?_⟩
 replace n:=n.set<|.ins (A.cl 8) dx [("units",.int 16),("point_count",.int 0),("cell_count",.int 0)]
 refine⟨B6 _,fun tc htc=>?_⟩
 replace n:=n.Yd (t':= .rest) htc (by intro z;cases z) (.lst [])
 refine⟨n.is,Ap,(B8 rfl),?_⟩
 replace n:=n.set<|.ins (A.cl 8) dx [("units",.int 16),("point_count",.int 0),("cell_count",.int 0),("told_controls",.ref tc)]
 refine⟨B6 _,fun fo hfo=>?_⟩
 replace n:=n.Yd (t':= .rest) hfo (by intro z;cases z) (.lst [])
 refine⟨n.is,Ap,(B8 rfl),?_⟩
 replace n:=n.set<|.ins (A.cl 8) dx [("units",.int 16),("point_count",.int 0),("cell_count",.int 0),("told_controls",.ref tc),("font",.ref fo)]
 refine fun fu hfu=>?_
 replace n:=n.Yd (t':= .rest) hfu (by intro z;cases z) (.dK [])
 refine⟨n.is,Ap,(B8 rfl),?_⟩
 replace n:=n.set<|.ins (A.cl 8) dx [("units",.int 16),("point_count",.int 0),("cell_count",.int 0),("told_controls",.ref tc),("font",.ref fo),("functions",.ref fu)]
 refine⟨n.is,Ap,(B8 rfl),?_⟩
 replace n:=n.set<|.ins (A.cl 8) dx [("units",.int 16),("point_count",.int 0),("cell_count",.int 0),("told_controls",.ref tc),("font",.ref fo),("functions",.ref fu),("size",.non)]
 refine⟨n.is,Ap,(B8 rfl),?_⟩
 replace n:=n.set<|.ins (A.cl 8) dx [("units",.int 16),("point_count",.int 0),("cell_count",.int 0),("told_controls",.ref tc),("font",.ref fo),("functions",.ref fu),("size",.non),("shape",.non)]
 exact q tc fo fu _ n
end GF
end
section
namespace GF
open PySem L2
section
variable{K:AS}{A:B3}{H H':Hp}{dd mo md ca cd a l:AK}{o od:HO}{xs:List Int}{i n:Nat}{f:D2}
noncomputable def wo(mo ca dd:AK)(H:Hp):Hp:=fun b=>if b=mo\/b=ca\/b=dd then none else H b
def iN(h:wo mo ca dd H a=some o):H a=some o/\a≠mo/\a≠ca/\a≠dd:=by
 unfold wo at h
 split at h
 ·cases h
 ·rename_i n
  exact⟨h,fun z=>n<|.inl z,fun z=>n<|.inr<|.inl z,fun z=>n<|.inr<|.inr z⟩
def Ye(h:H a=some o)(n1:a≠mo)(n2:a≠ca)(n3:a≠dd):wo mo ca dd H a=some o:=by
 unfold wo
 rw[AG fun z=>z.elim n1 fun z=>z.elim n2 n3]
 exact h
def CS:Bc (wo mo ca dd H) H:=fun _ _ h=>(iN h).1
def kD(e:l=mo\/l=ca\/l=dd):wo mo ca dd (upd H l o)=wo mo ca dd H:=by
 funext b
 unfold wo
 by_cases h:b=mo\/b=ca\/b=dd
 ·rw[AI h,AI h]
 ·rw[AG h,AG h,AQ fun z=>by subst z;exact h e]
def AFr:wo mo ca dd (upd H mo o)=wo mo ca dd H:=kD (.inl rfl)
def su:wo mo ca dd (upd H ca o)=wo mo ca dd H:=kD (.inr<|.inl rfl)
def AEW:wo mo ca dd (upd H dd o)=wo mo ca dd H:=kD (.inr<|.inr rfl)
def DD(s:Bc H H'):Bc (wo mo ca dd H) (wo mo ca dd H'):=fun b o h=>by
 obtain⟨h1,n1,n2,n3⟩:=iN h
 exact Ye (s _ _ h1) n1 n2 n3
def Ks{xs:List V}(s:Bc H H')(h:BF K H a xs):BF K H' a xs:=by
 rcases h with(h |⟨o,h⟩) | h
 ·exact .inl<|.inl<|s _ _ h
 ·exact .inl<|.inr ⟨o,s _ _ h⟩
 ·exact .inr h
noncomputable def t7(B:QI)(z:Ht.Zone):Prop:= ∀ i,i<z.size->B.was i=z.was i/\B.now i=z.at_ i/\B.xk i=AD (z.mark i)
structure uE(A:B3)(H:Hp)(a:AK)(B:QI)(z:Ht.Zone):Prop where
 at_:H a=some (.lst (refsOf B z.size))
 pts:bC A H B z.size
 uC:t7 B z
 ZA:z.size<=64
structure iK(k:Ht.Kept):Prop where
 least:FE k.least
 cutin:FE k.cutin
 width:FE k.width
 uP:FE k.widthcut
 base:k.base<65536
 shift:k.shift<=6
def Yg:iK Ht.usual:=⟨⟨by decide,by decide⟩,⟨by decide,by decide⟩,⟨by decide,by decide⟩,⟨by decide,by decide⟩,by decide,by decide⟩
structure iT(A:B3)(H:Hp)(f:D2)(s:eR)(sz:V):Prop where
 ex: ∃ a dz cl kk tw ol en kp dk B,sz= .ref a/\vT A H a dz (.int (AD f.units)) (.int (AD s.dots)) cl kk tw ol en kp dk (bI s.still) (bI s.plain) (iV s.cells) (iV s.values) B s.zone0.size s.kept/\t7 B s.zone0
 dots:s.dots<=1000
 cells: ∀ x∈s.cells,FE x
 nc:s.cells.length=f.cells
 vals: ∀ x∈s.values,FE x
 nv:s.values.length=f.values.length
 z:Kw s.zone0
 n0:s.zone0.size=f.twilight
 kept:iK s.kept
structure MF(A:B3)(H:Hp)(f:D2)(tc fo fu:AK)(sz sh:V):Prop where
 tc:H tc=some (.lst (iV f.values))
 fo:H fo=some (.lst (TZ f.font))
 fu: ∃ BU,H fu=some (.dK BU)/\ZP BU f.funs
 fin: ∀ x∈f.funs,x.2<=f.font.length
 IT:f.font.length<=2048
 Gm:f.values.length<=64
 vals: ∀ x∈f.values,-32768<=x/\x<=32767
 units:16<=f.units/\f.units<=16384
 tw:f.twilight<=16
 cl:f.cells<=64
 size:(f.size=none/\sz= .non)\/ ∃ s,f.size=some s/\iT A H f s sz
 shape:(f.shape=none/\sh= .non)\/ ∃ x t a b B C,f.shape=some x/\sh= .ref t/\H t=some (.tup [.ref a,.ref b])/\uE A H a B x.1/\uE A H b C x.2
def bC.mono(h:bC A H B n)(s:Bc H H'):bC A H' B n:=fun i hi=>(h i hi).mono s
def uE.mono(h:uE A H a B z)(s:Bc H H'):uE A H' a B z:=⟨s _ _ h.at_,h.pts.mono s,h.uC,h.ZA⟩
def vT.mono{cl kk tw ol en kp dk:AK}{xs ys:List V}(h:vT A H sz dz u d cl kk tw ol en kp dk st pl xs ys B n x)(s:Bc H H'):
  vT A H' sz dz u d cl kk tw ol en kp dk st pl xs ys B n x:=⟨s _ _ h.at_,s _ _ h.cells,s _ _ h.Cq,s _ _ h.tw,h.pts.mono s,s _ _ h.kp⟩
def iT.mono(h:iT A H f s sz)(e:Bc H H'):iT A H' f s sz:=by
 obtain⟨a,dz,cl,kk,tw,ol,en,kp,dk,B,q1,q2,q3⟩:=h.ex
 exact{h with ex:=⟨a,dz,cl,kk,tw,ol,en,kp,dk,B,q1,q2.mono e,q3⟩}
def MF.mono{tc fo fu:AK}(h:MF A H f tc fo fu sz sh)(e:Bc H H'):MF A H' f tc fo fu sz sh:=by
 obtain⟨BU,k1,k2⟩:=h.fu
 exact{h with tc:=e _ _ h.tc,fo:=e _ _ h.fo,fu:=⟨BU,e _ _ k1,k2⟩,size:=(h.size.imp_right fun⟨s,q1,q2⟩=>⟨s,q1,q2.mono e⟩),shape:=(h.shape.imp_right fun⟨x,t,a,b,B,C,q1,q2,q3,q4,q5⟩=>⟨x,t,a,b,B,C,q1,q2,e _ _ q3,q4.mono e,q5.mono e⟩)}
structure MS(K:AS)(A:B3)(H:Hp)(dd:AK)(od:HO)(mo md ca cd a:AK)(xs:List Int)(i:Nat)(f:D2)(tc fo fu:AK)(sz sh:V):Prop where
 hm:H mo=some (.ins (A.cl 8) md (Wn f.units f.twilight f.cells tc fo fu sz sh))
 mf:MF A (wo mo ca dd H) f tc fo fu sz sh
 hc:H ca=some (.ins (A.cl 7) cd (pJ a i))
 hl:BF K (wo mo ca dd H) a (iV xs)
 hd:H dd=some od
 nm:mo≠dd
 nc:ca≠dd
section
variable{tc fo fu:AK}{sz sh:V}
def MS.ne(h:MS K A H dd od mo md ca cd a xs i f tc fo fu sz sh):mo≠ca:=aT h.hm h.hc (by intro z;injection z with _ _ e;exact absurd (BL WL e) (by decide: ¬(8:Nat)=2))
def MS.place(h:MS K A H dd od mo md ca cd a xs i f tc fo fu sz sh)(j:Nat):MS K A (upd H ca<|.ins (A.cl 7) cd<|pJ a j) dd od mo md ca cd a xs j f tc fo fu sz sh:=
 ⟨(AQ h.ne).trans h.hm,by rw[su];exact h.mf,AJ,by rw[su];exact h.hl,(AQ h.nc.symm).trans h.hd,h.nm,h.nc⟩
def MS.apart(h:MS K A H dd od mo md ca cd a xs i f tc fo fu sz sh)(e:H l=none):l≠mo/\l≠ca/\l≠dd:=⟨(Ac h.hm e).symm,(Ac h.hc e).symm,(Ac h.hd e).symm⟩
def Bw(e:H l=none):Bc H (upd H l o):=fun b u z=>by rw[AQ<|Ac z e];exact z
def MS.grow(h:MS K A H dd od mo md ca cd a xs i f tc fo fu sz sh)(s:Bc H H'):MS K A H' dd od mo md ca cd a xs i f tc fo fu sz sh:=
 ⟨s _ _ h.hm,h.mf.mono<|DD s,s _ _ h.hc,Ks (DD s) h.hl,s _ _ h.hd,h.nm,h.nc⟩
def MS.new(h:MS K A H dd od mo md ca cd a xs i f tc fo fu sz sh)(e:H l=none):MS K A (upd H l o) dd od mo md ca cd a xs i f tc fo fu sz sh:=h.grow (Bw e)
def MS.dm(h:MS K A H dd od mo md ca cd a xs i f tc fo fu sz sh)(e:H l=none):wo mo ca dd (upd H l o) l=some o:=Ye AJ (h.apart e).1 (h.apart e).2.1 (h.apart e).2.2
def YU(e:xs[i]?=some x):(iV xs)[i]?=some (.int x):=by unfold iV;rw[CZ,e];rfl
def D7:(iV xs).length=xs.length:=A8 ..
def MS.rn(h:MS K A H dd od mo md ca cd a xs i f tc fo fu sz sh)(e:xs[i]?=some x)(q: ∀ H',MS K A H' dd od mo md ca cd a xs (i+1) f tc fo fu sz sh->wo mo ca dd H'=wo mo ca dd H->Q (.int x) H'):UC σ H fun vs H2=>ABO K (A.cl 7) (V.ref ca::(vs++ [])) H2 Q E:=
 ⟨ca,cd,a,i,iV xs,.int x,rfl,h.hc,Ks (fun b o z=>(iN<|by rw[su];exact z).1) h.hl,YU e,q _ (h.place _) su⟩
def MS.rr(h:MS K A H dd od mo md ca cd a xs i f tc fo fu sz sh)(e:xs[i]?=some (AD m))(le:i+1+m<=xs.length)
  (q: ∀ l H',MS K A H' dd od mo md ca cd a xs (i+1+m) f tc fo fu sz sh->Bc (wo mo ca dd H) (wo mo ca dd H')->wo mo ca dd H' l=some (.lst<|iV<|(xs.drop<|i+1).take m)->wo mo ca dd H l=none->Q (.ref l) H'):UC σ H fun vs H2=>ACP K (A.cl 7) (V.ref ca::(vs++ [])) H2 Q E:=by
 refine⟨ca,cd,a,i,m,iV xs,rfl,h.hc,fun o=>Ks (fun b o z=>(iN<|by rw[su];exact z).1) h.hl,YU e,by rw[D7];exact le,fun l hl=>?_⟩
 have h1:=h.place<|i+1+m
 have e1:(List.drop (i+1)<|iV xs).take m=iV ((xs.drop<|i+1).take m):=by unfold iV;rw[mn,n9]
 rw[e1]
 refine q l _ (h1.new hl) ?_ (h1.dm hl) ?_
 ·have s:=DD (mo:=mo) (ca:=ca) (dd:=dd) (Bw (o:= .lst<|iV<|(xs.drop<|i+1).take m) hl)
  rw[su]at s
  exact s
 ·unfold wo
  split
  ·rfl
  ·rename_i n
   rw[AQ fun z=>n<|.inr<|.inl z]at hl
   exact hl
end
theorem AB8(h:dy r=some (x,s)): ∃ m t,r=AD m::t/\m<=t.length/\x=t.take m/\s=t.drop m:=by
 cases r with
 | nil=>cases h
 | cons k t=>
  have h:(if 0<=k/\k.toNat<=t.length then some (t.take k.toNat,t.drop k.toNat)else none)=some (x,s):=h
  by_cases c:0<=k/\k.toNat<=t.length
  ·rw[AI c]at h
   cases h
   exact⟨k.toNat,t,by rw[show AD k.toNat=k from Lu c.1],c.2,rfl,rfl⟩
  ·rw[AG c]at h
   cases h
def FF(h:R7 (k+1) r=some (ys,t)): ∃ x s zs,dy r=some (x,s)/\R7 k s=some (zs,t)/\ys=x::zs:=by
 unfold R7 at h
 split at h
 ·cases h
 ·rename_i x s e
  split at h
  ·cases h
  ·rename_i zs u e2
   cases h
   exact⟨x,s,zs,e,e2,rfl⟩
def call_of(hs:EN p=some (m,k))(h:MW EN (p::r)=some (c,t)):m<=r.length/\ ∃ ys,R7 k (r.drop m)=some (ys,t)/\c=(p::r.take m)::ys:=by
 simp only[MW,hs]at h
 split at h
 ·cases h
 ·rename_i n
  refine⟨by lia,?_⟩
  split at h
  ·cases h
  ·rename_i ys u e
   cases h
   exact⟨ys,e,rfl⟩
def T_(h:dy (xs.drop i)=some (x,s)): ∃ m,xs[i]?=some (AD m)/\i+1+m<=xs.length/\x=(xs.drop<|i+1).take m/\s=xs.drop (i+1+m):=by
 obtain⟨m,t,e,le,rfl,rfl⟩:=AB8 h
 have h0:(xs.drop i)[0]?=some (AD m):=by rw[e];rfl
 rw[V3]at h0
 have h1:xs.drop (i+1)=t:=by rw[<-FD,e];rfl
 have h2:t.length=xs.length- (i+1):=by rw[<-h1,G3]
 have h3:=(Ie.mp h0).1
 refine⟨m,h0,by lia,by rw[h1],by rw[<-FD,h1]⟩
theorem gY{l:List Int}(h:1<=l.length)(a0:l[0]?=some x):l.take 1= [x]:=by
 match l,h with
 | y::r,_=>cases a0;rfl
theorem iQ{l:List Int}(h:2<=l.length)(a0:l[0]?=some x)(a1:l[1]?=some y):l.take 2= [x,y]:=by
 match l,h with
 | _::_::r,_=>cases a0;cases a1;rfl
theorem gx{l:List Int}(h:3<=l.length)(a0:l[0]?=some x)(a1:l[1]?=some y)(a2:l[2]?=some z):l.take 3= [x,y,z]:=by
 match l,h with
 | _::_::_::r,_=>cases a0;cases a1;cases a2;rfl
theorem vW{l:List Int}(h:4<=l.length)(a0:l[0]?=some x)(a1:l[1]?=some y)(a2:l[2]?=some z)(a3:l[3]?=some u):l.take 4= [x,y,z,u]:=by
 match l,h with
 | _::_::_::_::r,_=>cases a0;cases a1;cases a2;cases a3;rfl
def Ew(h:i<xs.length): ∃ x,xs[i]?=some x:=⟨xs[i],CQ h⟩
def IS:(xs.drop i)[j]?=xs[i+j]?:=V3 ..
noncomputable abbrev gC(f:D2)(c:List (List Int)):=ME f c
noncomputable def Done(K:AS)(A:B3)(dd:AK)(od:HO)(mo md ca cd a:AK)(xs:List Int)(i:Nat)(f:D2)(c:List (List Int))(t:List Int)(H:Hp)(Q:VK):Prop:=
 ∀ l H' j tc' fo' fu' sz' sh',Bc (wo mo ca dd H) (wo mo ca dd H')->MS K A H' dd od mo md ca cd a xs j (gC f c).1 tc' fo' fu' sz' sh'->i<=j->j<=xs.length->xs.drop j=t->wo mo ca dd H' l=some (.lst<|iV (gC f c).2)->wo mo ca dd H l=none->(gC f c).2.length<=200->Q (.ref l) H'
inductive Fw(K:AS)(A:B3)(p:Int)(vs:List V)(H:Hp)(Q:VK)(E_:XK):Prop
 | mk: ∀ dd od mo md ca cd a xs i f tc fo fu sz sh c t,vs= [.ref mo,.ref ca]->MS K A H dd od mo md ca cd a xs i f tc fo fu sz sh->i<=xs.length->MW EN (p::xs.drop i)=some (c,t)->fc c=true->Done K A dd od mo md ca cd a xs i f c t H Q->Fw K A p vs H Q E_
def Done.fin(q:Done K A dd od mo md ca cd a xs i f c t H Q)(h3:MS K A H3 dd od mo md ca cd a xs j g tc' fo' fu' sz' sh')(s:Bc (wo mo ca dd H) (wo mo ca dd H3))(hl:H3 l=none)(e:gC f c=(g,ys))
  (ij:i<=j) (jl:j<=xs.length) (ed:xs.drop j=t) (n:ys.length<=200):Q (.ref l) (upd H3 l<|.lst<|iV ys):=by
 refine q l _ j tc' fo' fu' sz' sh' (s.trans<|DD<|Bw hl) (by rw[e];exact h3.new hl) ij jl ed (by rw[e];exact h3.dm hl) ?_<|by rw[e];exact n
 refine s.free ?_
 unfold wo
 split
 ·rfl
 ·exact hl
def Jb{c:List (List Int)}(hx:Im c=some x)(b:Cy f x=true):gC f c=(f,[-1]):=by
 unfold gC ME
 rw[hx]
 show((Bh f x).1,f7 (Bh f x).2)=_
 unfold Bh
 rw[AI b]
 rfl
def C2{c:List (List Int)}(hx:Im c=some x)(e:Bh f x=y):gC f c=(y.1,f7 y.2):=by
 unfold gC ME
 rw[hx]
 show((Bh f x).1,f7 (Bh f x).2)=_
 rw[e]
def xf(h:fb z=true): ∃ n,z=AD n/\n<=4294967295:=by
 unfold fb at h
 exact⟨z.toNat,(Lu<|An (O4.mp h).1).symm,by lia⟩
def DB{a b:Bool}(h:(a&&b)=true):a=true/\b=true:=O4.mp h
structure ML(K:AS)(A:B3)(H:Hp)(dd:AK)(od:HO)(mo md ca cd a:AK)(xs:List Int)(i:Nat)(fl:List (Str×V))(W:Hp):Prop where
 hm:H mo=some (.ins (A.cl 8) md fl)
 hc:H ca=some (.ins (A.cl 7) cd (pJ a i))
 hl:BF K W a (iV xs)
 w:wo mo ca dd H=W
 ne:mo≠ca
 hd:H dd=some od
 nm:mo≠dd
 nc:ca≠dd
section
variable{tc fo fu:AK}{sz sh:V}{fl:List (Str×V)}{W:Hp}
def MS.ml(h:MS K A H dd od mo md ca cd a xs i f tc fo fu sz sh):ML K A H dd od mo md ca cd a xs i (Wn f.units f.twilight f.cells tc fo fu sz sh) (wo mo ca dd H):=⟨h.hm,h.hc,h.hl,rfl,h.ne,h.hd,h.nm,h.nc⟩
def ML.set(h:ML K A H dd od mo md ca cd a xs i fl W)(fl':List (Str×V)):ML K A (upd H mo<|.ins (A.cl 8) md fl') dd od mo md ca cd a xs i fl' W:=
 ⟨AJ,(AQ h.ne.symm).trans h.hc,h.hl,by rw[AFr];exact h.w,h.ne,(AQ h.nm.symm).trans h.hd,h.nm,h.nc⟩
def ML.apart(h:ML K A H dd od mo md ca cd a xs i fl W)(e:H l=none):l≠mo/\l≠ca/\l≠dd:=⟨(Ac h.hm e).symm,(Ac h.hc e).symm,(Ac h.hd e).symm⟩
def ML.free(h:ML K A H dd od mo md ca cd a xs i fl W)(e:H l=none):W l=none:=by
 rw[<-h.w]
 unfold wo
 split
 ·rfl
 ·exact e
def ML.new(h:ML K A H dd od mo md ca cd a xs i fl W)(e:H l=none):ML K A (upd H l o) dd od mo md ca cd a xs i fl (upd W l o):=by
 have n:=h.apart e
 refine⟨(AQ n.1.symm).trans h.hm,(AQ n.2.1.symm).trans h.hc,Ks (Bw<|h.free e) h.hl,?_,h.ne,(AQ n.2.2.symm).trans h.hd,h.nm,h.nc⟩
 funext b
 by_cases hb:b=l
 ·subst hb
  rw[AJ]
  exact Ye AJ n.1 n.2.1 n.2.2
 ·rw[AQ hb,<-h.w]
  unfold wo
  rw[AQ hb]
def ML.ms(h:ML K A H dd od mo md ca cd a xs i (Wn f.units f.twilight f.cells tc fo fu sz sh) W)(m:MF A W f tc fo fu sz sh):MS K A H dd od mo md ca cd a xs i f tc fo fu sz sh:=
 ⟨h.hm,by rw[h.w];exact m,h.hc,by rw[h.w];exact h.hl,h.hd,h.nm,h.nc⟩
end
end
end GF
end
section
namespace GF
open PySem PySem.Spec PyProof.Rows L2
variable{P:BH}{w:Ao}{K:AS}{mg:Str->Option AN}{base:Az}{A:B3}[T:Txt K mg A]
section
variable{H H':Hp}{mo md ca cd a l:AK}{o:HO}{xs:List Int}{i n:Nat}{f:D2}
def NS:Cy f (.init u t c)=(decide (u<16)||(decide (16384<u)||(decide (16<t)||decide (64<c)))):=rfl
def jR{a b:Bool}(h:a=true):(a||b)=true:=by rw[h];rfl
def Qp{a b:Bool}(h:b=true):(a||b)=true:=by rw[h];exact eJ a
def sU(b:Cy f (.init u t c)=false):Bh f (.init u t c)=(⟨u,t,c,[],[],[],none,none⟩,O3):=by
 unfold Bh
 rw[AG<|by rw[b];decide]
def bA(h:Bc W X)(e:Y=X):Bc W Y:=by rw[e];exact h
def ku:ZP [] []:=⟨B6 _,List.nodup_nil,fun _ h=>absurd h<|Ir,fun _=>rfl⟩
def cf :O0 P w base 2 182 ["machine","calls"] (Fw K A 0):=by
 refine T.UE.F.DQ ["machine","calls","units","point_count","cell_count"] fun H vs Q E hr h=>?_
 obtain⟨dd,od,mo,md,ca,cd,a,xs,i,f,tc,fo,fu,sz,sh,c,t,rfl,h,hi,hcall,hask,q⟩:=h
 refine⟨_,(AB (AO 2<|BI AV As T.A3)<|AB (AO 3<|BI AV As T.A3)<|AB (AO 4<|BI AV As T.A3)<|AB (Aq (PW.pt<|Gg (A0 Dn Aj AE)<|Gg (A0 DE Aj AE)<|Gg (A0 DE A6 AE)<|GZ<|A0 DE CG AE) (AF<|AY<|Ba<|Af<|Bt T.k.C6) AX)<|AB (BC AH Aj)<|AB (BC AH A6)<|AB (BC AH CG)<|AB (BC AH<|Ba Es)<|AB (BC AH<|Ba Es)<|AB (BC AH Xu)<|AB (Ad<|Ah JX T.KN<|Af AH)<|AF<|AY<|Ba<|Af<|Bt T.k.JW),?_⟩
 obtain⟨hl,ys,er,rfl⟩:=call_of rfl hcall
 cases (er)
 have hl2:i+3<=xs.length:=by rw[G3]at hl;lia
 obtain⟨x0,e0⟩:=Ew (xs:=xs) (i:=i+0)<|by lia
 obtain⟨x1,e1⟩:=Ew (xs:=xs) (i:=i+1)<|by lia
 obtain⟨x2,e2⟩:=Ew (xs:=xs) (i:=i+2)<|by lia
 rw[gx hl (IS.trans e0) (IS.trans e1)<|IS.trans e2]at hask q
 have ed:xs.drop (i+3)=(xs.drop i).drop 3:=by rw[FD]
 have ha:=hask
 obtain⟨u,rfl,_⟩:=xf (DB ha).1
 obtain⟨tn,rfl,_⟩:=xf (DB (DB ha).2).1
 obtain⟨cn,rfl,_⟩:=xf (DB (DB ha).2).2
 have hx:Im [[0,AD u,AD tn,AD cn]]=some (.init u tn cn):=rfl
 refine⟨h.hc,rfl,h.rn e0 fun H1 h1 w1=>⟨h1.hc,rfl,h1.rn e1 fun H2 h2 w2=>⟨h2.hc,rfl,h2.rn e2 fun H3 h3 w3=>?_⟩⟩⟩
 have sm:Bc (wo mo ca dd H) (wo mo ca dd H3):=by rw[w3,w2,w1];exact Bc.refl _
 have bad:Cy f (.init u tn cn)=true-> ∀ l,H3 l=none->Q (.ref l) (upd H3 l<|.lst [.int<|-1]):=fun b l hl=>q.fin h3 sm hl (Jb hx b) (by lia) hl2 ed<|by decide
 refine A7 (fun b1=>⟨(show 1<=sizeLine by decide),fun l hl=>bad (by rw[NS];exact jR<|Av<|BQ.mp<|An b1) l hl⟩) fun b1=>?_
 refine A7 (fun b2=>⟨(show 1<=sizeLine by decide),fun l hl=>bad (by rw[NS];exact Qp<|jR<|Av<|BQ.mp<|An b2) l hl⟩) fun b2=>?_
 refine A7 (fun b3=>⟨(show 1<=sizeLine by decide),fun l hl=>bad (by rw[NS];exact Qp<|Qp<|jR<|Av<|BQ.mp<|An b3) l hl⟩) fun b3=>?_
 refine A7 (fun b4=>⟨(show 1<=sizeLine by decide),fun l hl=>bad (by rw[NS];exact Qp<|Qp<|Qp<|Av<|BQ.mp<|An b4) l hl⟩) fun b4=>?_
 have c1: ¬ u<16:=fun z=>b1<|Av<|BQ.mpr z
 have c2: ¬ 16384<u:=fun z=>b2<|Av<|BQ.mpr z
 have c3: ¬ 16<tn:=fun z=>b3<|Av<|BQ.mpr z
 have c4: ¬ 64<cn:=fun z=>b4<|Av<|BQ.mpr z
 have good:Cy f (.init u tn cn)=false:=by rw[NS,D5 c1,D5 c2,D5 c3,D5 c4];rfl
 have k:=h3.ml
 refine⟨k.hm,Ap,(B8 rfl),?_⟩
 replace k:=k.set<|Wn u f.twilight f.cells tc fo fu sz sh
 refine⟨k.hm,Ap,(B8 rfl),?_⟩
 replace k:=k.set<|Wn u tn f.cells tc fo fu sz sh
 refine⟨k.hm,Ap,(B8 rfl),?_⟩
 replace k:=k.set<|Wn u tn cn tc fo fu sz sh
 refine⟨B6 _,fun l1 nl1=>?_⟩
 have sl1:=Bw (o:= .lst [])<|k.free nl1
 replace k:=k.new (o:= .lst []) nl1
 refine⟨k.hm,Ap,(B8 rfl),?_⟩
 replace k:=k.set<|Wn u tn cn l1 fo fu sz sh
 refine⟨B6 _,fun l2 nl2=>?_⟩
 have sl2:=Bw (o:= .lst [])<|k.free nl2
 replace k:=k.new (o:= .lst []) nl2
 refine⟨k.hm,Ap,(B8 rfl),?_⟩
 replace k:=k.set<|Wn u tn cn l1 l2 fu sz sh
 refine fun l3 nl3=>?_
 have sl3:=Bw (o:= .dK [])<|k.free nl3
 replace k:=k.new (o:= .dK []) nl3
 refine⟨k.hm,Ap,(B8 rfl),?_⟩
 replace k:=k.set<|Wn u tn cn l1 l2 l3 sz sh
 refine⟨mo,md,_,_,_,_,_,_,_,_,rfl,k.hm,?_⟩
 replace k:=k.set<|Wn u tn cn l1 l2 l3 .non .non
 refine⟨(show 1<=sizeLine by decide),fun l hl=>?_⟩
 exact q.fin (ys:= [0]) (g:=⟨u,tn,cn,[],[],[],none,none⟩) (k.ms (f:=⟨u,tn,cn,[],[],[],none,none⟩) ⟨sl3 _ _<|sl2 _ _ AJ,sl3 _ _ AJ,⟨[],AJ,ku⟩,(fun _ z=>absurd z<|Ir),B6 _,B6 _,(fun _ z=>absurd z<|Ir),⟨by show 16<=u;lia,by show u<=16384;lia⟩,(by show tn<=16;lia),(by show cn<=64;lia),.inl ⟨rfl,rfl⟩,.inl ⟨rfl,rfl⟩⟩) (bA (sm.trans<|sl1.trans<|sl2.trans sl3) k.w) hl (C2 hx<|sU good) (by lia) hl2 ed<|by decide
def hJ(b: ¬ 64<v.length):Bh f (.values v)=({f with values:=v,size:=none,shape:=none},O3):=by
 unfold Bh
 rw[AG<|by intro z;exact b<|An z]
def all_range{v:List Int}{lo hi:Int}(h:v.all (fun z=>decide (lo<=z)&&decide (z<=hi))=true): ∀ x∈v,lo<=x/\x<=hi:=fun x hx=>by
 have q:=DB<|GB.mp h x hx
 exact⟨An q.1,An q.2⟩
def X5 :O0 P w base 3 183 ["machine","calls"] (Fw K A 1):=by
 refine T.N4.F.DQ ["machine","calls","row"] fun H vs Q E hr h=>?_
 obtain⟨dd,od,mo,md,ca,cd,a,xs,i,f,tc,fo,fu,sz,sh,c,t,rfl,h,hi,hcall,hask,q⟩:=h
 refine⟨_,(AB (AO 2<|BI AV C4 T.DU)<|AB (Aq (A0 DE (Dc T.k.CD<|Af Aj) AE) (AF<|AY<|Ba<|Af<|Bt T.k.C6) AX)<|AB (BC AH Aj)<|AB (Ad<|Ah JX T.KN<|Af AH)<|AF<|AY<|Ba<|Af<|Bt T.k.JW),?_⟩
 obtain⟨hl,ys,er,rfl⟩:=call_of rfl hcall
 rw[FH]at er
 obtain⟨r0,t0,zs0,er0,es0,rfl⟩:=FF er
 obtain⟨m0,em0,le0,rfl,rfl⟩:=T_ er0
 cases (es0)
 have hx:Im [[1],(xs.drop<|i+1).take m0]=some (.values<|(xs.drop<|i+1).take m0):=rfl
 refine⟨h.hc,rfl,h.rr em0 le0 fun l1 H1 h1 s1 r1 f1=>⟨.inl<|BF.of<|CS _ _ r1,?_⟩⟩
 rw[D7]
 refine A7 (fun b1=>⟨(show 1<=sizeLine by decide),fun l2 hl2=>q.fin (ys:= [-1]) h1 s1 hl2 (Jb hx<|Av<|BQ.mp<|An b1) (by lia) le0 rfl<|by decide⟩) fun b1=>?_
 have c1: ¬ 64<((xs.drop<|i+1).take m0).length:=fun z=>b1<|Av<|BQ.mpr z
 have k:=h1.ml
 refine⟨k.hm,Ap,(B8 rfl),?_⟩
 replace k:=k.set<|Wn f.units f.twilight f.cells l1 fo fu sz sh
 refine⟨mo,md,_,_,_,_,_,_,_,_,rfl,k.hm,?_⟩
 replace k:=k.set<|Wn f.units f.twilight f.cells l1 fo fu .non .non
 refine⟨(by decide),fun l hl=>?_⟩
 have mf:=h1.mf
 exact q.fin (ys:= [0]) (g:={f with values:=(xs.drop<|i+1).take m0,size:=none,shape:=none}) (k.ms (f:={f with values:=(xs.drop<|i+1).take m0,size:=none,shape:=none}) ⟨r1,mf.fo,mf.fu,mf.fin,mf.IT,Ec c1,all_range<|hask,mf.units,mf.tw,mf.cl,.inl ⟨rfl,rfl⟩,.inl ⟨rfl,rfl⟩⟩) (bA s1 k.w) hl (C2 hx<|hJ c1) (by lia) le0 rfl<|by decide
end
section
variable{H H':Hp}{mo md ca cd a l:AK}{o:HO}{xs:List Int}{i n:Nat}{f:D2}
def qv(h1: -32768<=v)(h2:v<=32767):Ht.half v=v:=by unfold Ht.half;lia
def rg{z lo hi:Int}(h:(decide (lo<=z)&&decide (z<=hi))=true):lo<=z/\z<=hi:=⟨An (DB h).1,An (DB h).2⟩
def jU{w b:Nat}(h:7<w)(d:Int):Ht.rounded w b d=Ht.rounded 5 b d:=by
 have e: ∀ x,Ht.roundedSize w b x=Ht.roundedSize 5 b x:=fun x=>by
  unfold Ht.roundedSize
  rw[AG<|by lia,AG<|by lia,AG<|by lia,AG<|by lia,AG<|by lia,AG<|by lia]
  rfl
 unfold Ht.rounded
 rw[e,e]
def rl:Bh f (.unit x y)=(f,.numbers [(Ht.unit (x,y)).1,(Ht.unit (x,y)).2]):=by unfold Bh;rw[AG<|by intro z;cases z]
def RX:Bh f (.rounded h b d)=(f,.numbers [Ht.rounded h (b%256) d]):=by unfold Bh;rw[AG<|by intro z;cases z]
def jj(r0: -32768<=x0/\x0<=32767)(r1: -32768<=x1/\x1<=32767):Bh f (.along x0 x1 x2 x3)=(f,.numbers [Ht.along (x0,x1) (x2,x3)]):=by
 unfold Bh
 rw[AG<|by intro z;cases z]
 simp only[qv r0.1 r0.2,qv r1.1 r1.2]
def c6 :O0 P w base 4 195 ["machine","calls"] (Fw K A 8):=by
 refine T.UM.F.DQ ["machine","calls","x","y"] fun H vs Q E hr h=>?_
 obtain⟨dd,od,mo,md,ca,cd,a,xs,i,f,tc,fo,fu,sz,sh,c,t,rfl,h,hi,hcall,hask,q⟩:=h
 refine⟨_,(AB (AO 2<|BI AV As T.A3)<|AB (AO 3<|BI AV As T.A3)<|AF<|AY<|AU UI (Ba<|Af<|Bt T.k.JW)<|LJ Fz rfl T.k.Y2 So<|Af<|Ah Sx T.unit<|Ax Aj A6),?_⟩
 obtain⟨hl,ys,er,rfl⟩:=call_of rfl hcall
 cases (er)
 have hl2:i+2<=xs.length:=by rw[G3]at hl;lia
 obtain⟨x0,e0⟩:=Ew (xs:=xs) (i:=i+0)<|by lia
 obtain⟨x1,e1⟩:=Ew (xs:=xs) (i:=i+1)<|by lia
 rw[iQ hl (IS.trans e0)<|IS.trans e1]at hask q
 have ed:xs.drop (i+2)=(xs.drop i).drop 2:=by rw[FD]
 refine⟨h.hc,rfl,h.rn e0 fun H1 h1 w1=>⟨h1.hc,rfl,h1.rn e1 fun H2 h2 w2=>?_⟩⟩
 have sm:Bc (wo mo ca dd H) (wo mo ca dd H2):=by rw[w2,w1];exact Bc.refl _
 have ha:=DB hask
 refine⟨(by decide),fun l1 n1=>?_⟩
 have s1:=Bw (o:= .lst [.int 0]) n1
 refine⟨x0,x1,rfl,⟨by lia,by lia⟩,fun l2 n2=>?_⟩
 have s2:=Bw (o:= .tup [.int (Ht.unit (x0,x1)).1,.int (Ht.unit (x0,x1)).2]) n2
 refine⟨_,_,rfl,.inr<|Dd.of AJ,fun l3 n3=>?_⟩
 have s3:=Bw (o:= .lst [.int (Ht.unit (x0,x1)).1,.int (Ht.unit (x0,x1)).2]) n3
 refine⟨_,_,_,_,rfl,rfl,s3 _ _<|s2 _ _ AJ,AJ,(show 3<=sizeLine by decide),fun l4 n4=>?_⟩
 exact q.fin (ys:= [0,(Ht.unit (x0,x1)).1,(Ht.unit (x0,x1)).2]) (h2.grow<|s1.trans<|s2.trans s3) (sm.trans<|DD<|s1.trans<|s2.trans s3) n4 (C2 (x:= .unit x0 x1) rfl rl) (by lia) hl2 ed<|show 3<=200 by decide
def VQ :O0 P w base 5 196 ["machine","calls"] (Fw K A 9):=by
 refine T.MN.F.DQ ["machine","calls","how","byte","number"] fun H vs Q E hr h=>?_
 obtain⟨dd,od,mo,md,ca,cd,a,xs,i,f,tc,fo,fu,sz,sh,c,t,rfl,h,hi,hcall,hask,q⟩:=h
 refine⟨_,(AB (AO 2<|BI AV As T.A3)<|AB (AO 3<|AU Dz (BI AV As T.A3) AE)<|AB (AO 4<|BI AV As T.A3)<|AF<|AY<|Ba<|Ax (Bt T.k.JW)<|Ah Ys T.rounded<|CH (Bn (A0 DE Aj<|Bt T.k.LC) (Bt T.k.AAb) Aj) A6 CG),?_⟩
 obtain⟨hl,ys,er,rfl⟩:=call_of rfl hcall
 cases (er)
 have hl2:i+3<=xs.length:=by rw[G3]at hl;lia
 obtain⟨x0,e0⟩:=Ew (xs:=xs) (i:=i+0)<|by lia
 obtain⟨x1,e1⟩:=Ew (xs:=xs) (i:=i+1)<|by lia
 obtain⟨x2,e2⟩:=Ew (xs:=xs) (i:=i+2)<|by lia
 rw[gx hl (IS.trans e0) (IS.trans e1)<|IS.trans e2]at hask q
 have ed:xs.drop (i+3)=(xs.drop i).drop 3:=by rw[FD]
 have ha:=DB hask
 obtain⟨hw,rfl,_⟩:=xf ha.1
 obtain⟨by_,rfl,_⟩:=xf (DB ha.2).1
 have eb:AD by_%256=AD (by_%256):=rfl
 refine⟨h.hc,rfl,h.rn e0 fun H1 h1 w1=>⟨h1.hc,rfl,h1.rn e1 fun H2 h2 w2=>⟨(by show(0:Int)<256;decide),h2.hc,rfl,h2.rn e2 fun H3 h3 w3=>?_⟩⟩⟩
 have sm:Bc (wo mo ca dd H) (wo mo ca dd H3):=by rw[w3,w2,w1];exact Bc.refl _
 refine A7 (fun b1=>?_) fun b1=>?_
 ·have c1:=BQ.mp (An b1)
  refine⟨_,_,_,rfl,trivial,(show 2<=sizeLine by decide),fun l4 n4=>?_⟩
  rw[eb,show UP 5 (AD<|by_%256) x2=Ht.rounded 5 (by_%256) x2 from Y0 5 _ (by decide) x2,<-jU c1]
  exact q.fin (ys:= [0,Ht.rounded hw (by_%256) x2]) h3 sm n4 (C2 (x:= .rounded hw by_ x2) rfl RX) (by lia) hl2 ed<|show 2<=200 by decide
 ·have c1: ¬ 7<hw:=fun z=>b1 (Av<|BQ.mpr z)
  refine⟨_,_,_,rfl,trivial,(show 2<=sizeLine by decide),fun l4 n4=>?_⟩
  rw[eb,Y0 hw _ (by lia) x2]
  exact q.fin (ys:= [0,Ht.rounded hw (by_%256) x2]) h3 sm n4 (C2 (x:= .rounded hw by_ x2) rfl RX) (by lia) hl2 ed<|show 2<=200 by decide
def ZE :O0 P w base 3 197 ["machine","calls"] (Fw K A 10):=by
 refine T.Q0.F.DQ ["machine","calls","vector_x","vector_y","x","y"] fun H vs Q E hr h=>?_
 obtain⟨dd,od,mo,md,ca,cd,a,xs,i,f,tc,fo,fu,sz,sh,c,t,rfl,h,hi,hcall,hask,q⟩:=h
 refine⟨_,(AB (AO 2<|BI AV As T.A3)<|AB (AO 3<|BI AV As T.A3)<|AB (AO 4<|BI AV As T.A3)<|AB (AO 5<|BI AV As T.A3)<|AF<|AY<|Ba<|Ax (Bt T.k.JW)<|Ah K8 T.along<|CH (Iy<|Ax Aj A6) CG ES),?_⟩
 obtain⟨hl,ys,er,rfl⟩:=call_of rfl hcall
 cases (er)
 have hl2:i+4<=xs.length:=by rw[G3]at hl;lia
 obtain⟨x0,e0⟩:=Ew (xs:=xs) (i:=i+0)<|by lia
 obtain⟨x1,e1⟩:=Ew (xs:=xs) (i:=i+1)<|by lia
 obtain⟨x2,e2⟩:=Ew (xs:=xs) (i:=i+2)<|by lia
 obtain⟨x3,e3⟩:=Ew (xs:=xs) (i:=i+3)<|by lia
 rw[vW hl (IS.trans e0) (IS.trans e1) (IS.trans e2)<|IS.trans e3]at hask q
 have ed:xs.drop (i+4)=(xs.drop i).drop 4:=by rw[FD]
 refine⟨h.hc,rfl,h.rn e0 fun H1 h1 w1=>⟨h1.hc,rfl,h1.rn e1 fun H2 h2 w2=>⟨h2.hc,rfl,h2.rn e2 fun H3 h3 w3=>⟨h3.hc,rfl,h3.rn e3 fun H4 h4 w4=>?_⟩⟩⟩⟩
 have sm:Bc (wo mo ca dd H) (wo mo ca dd H4):=by rw[w4,w3,w2,w1];exact Bc.refl _
 have ha:=DB (DB (DB<|hask).1).1
 refine⟨(show 2<=sizeLine by decide),fun l1 n1=>?_⟩
 have s1:=Bw (o:= .tup [.int x0,.int x1]) n1
 refine⟨l1,x0,x1,x2,x3,rfl,Dd.of AJ,⟨by unfold Small;lia,by unfold Small;lia⟩,(show 2<=sizeLine by decide),fun l4 n4=>?_⟩
 exact q.fin (ys:= [0,Ht.along (x0,x1) (x2,x3)]) (h4.grow s1) (sm.trans<|DD s1) n4 (C2 (x:= .along x0 x1 x2 x3) rfl<|jj (rg ha.1)<|rg ha.2) (by lia) hl2 ed<|show 2<=200 by decide
def jP(e:f.size=none):Bh f .state=(f,Wa<|-2):=by unfold Bh;rw[AG<|by intro z;cases z];simp only[e]
def jJ(e:f.size=some s):Bh f .state=(f,.numbers<|Wrhint.keptNums s):=by unfold Bh;rw[AG<|by intro z;cases z];simp only[e]
def Zh :O0 P w base 1 194 ["machine","calls"] (Fw K A 7):=by
 refine T.Q8.F.DQ ["machine","calls","size","kept","seven"] @fun _ _ _ s H vs Q E hr h=>?_
 obtain⟨dd,od,mo,md,ca,cd,a,xs,i,f,tc,fo,fu,sz,sh,c,t,rfl,h,hi,hcall,hask,q⟩:=h
 refine⟨_,(AB (AO 2<|AR AH)<|AB (Aq (Kd<|Ke Aj) (AF<|AY<|Ba<|Af<|Bt T.k.Fu) AX)<|AB (AO 3<|AR Aj)<|AB (AO 4<|Ba<|Cs (AR A6)<|Cs (AR A6)<|Cs (AR A6)<|Rp (AR A6) (AR A6) (AR A6)<|AR A6)<|AF<|AY<|AU UI (AU UI (Ba<|Af<|Bt T.k.JW) CG)<|Ba<|CH (AR Aj) (AR Aj)<|AR Aj),?_⟩
 obtain⟨hl,ys,er,rfl⟩:=call_of rfl hcall
 cases (er)
 have hl2:i+0<=xs.length:=by rw[G3]at hl;lia
 have ed:xs.drop (i+0)=(xs.drop i).drop 0:=by rw[FD]
 have sm:Bc (wo mo ca dd H) (wo mo ca dd H):=Bc.refl _
 refine⟨h.hm,Ap,rfl,?_⟩
 rcases h.mf.size with⟨e0,rfl⟩ |⟨s,e0,ok⟩
 ·refine ?_
  exact⟨(show 1<=sizeLine by decide),fun l1 n1=>q.fin (ys:= [-2]) h sm n1 (C2 rfl<|jP e0) (by lia) hi ed<|by decide⟩
 obtain⟨za,dz,cl,kk,tw,ol,en,kp,dk,B,rfl,hz,zi⟩:=ok.ex
 have hz0:=hz.mono CS
 refine⟨hz0.at_,AW,rfl,?_⟩
 refine⟨hz0.kp,BG,Xz,hz0.kp,BG,LI,hz0.kp,BG,Nj,hz0.kp,BG,Hz,hz0.kp,BG,Kc,hz0.kp,BG,Fs,hz0.kp,BG,WC,(show 7<=sizeLine by decide),fun l1 n1=>?_⟩
 have s1:=Bw (o:= .lst [.int s.kept.least,.int s.kept.cutin,.int s.kept.width,.int s.kept.widthcut,.int<|AD s.kept.base,.int<|AD s.kept.shift,.int<|bI s.kept.flip]) n1
 refine⟨(by decide),fun l2 n2=>?_⟩
 have s2:=Bw (o:= .lst [.int 0]) n2
 refine⟨_,_,_,_,rfl,rfl,AJ,s2 _ _ AJ,(show 8<=sizeLine by decide),fun l3 n3=>?_⟩
 have s3:=Bw (o:= .lst [.int 0,.int s.kept.least,.int s.kept.cutin,.int s.kept.width,.int s.kept.widthcut,.int<|AD s.kept.base,.int<|AD s.kept.shift,.int<|bI s.kept.flip]) n3
 have hz3:=hz0.mono<|s1.trans<|s2.trans s3
 refine⟨hz3.at_,AW,rfl,hz3.at_,AW,rfl,hz3.at_,AW,rfl,(show 3<=sizeLine by decide),fun l4 n4=>?_⟩
 have s4:=Bw (o:= .lst [.int<|bI s.still,.int<|bI s.plain,.int<|AD s.dots]) n4
 refine⟨_,_,_,_,rfl,rfl,s4 _ _ AJ,AJ,(show 11<=sizeLine by decide),fun l5 n5=>?_⟩
 have sa:=s1.trans<|s2.trans<|s3.trans s4
 exact q.fin (h.grow sa) (sm.trans<|DD sa) n5 (C2 rfl<|jJ e0) (by lia) hi ed<|by show 11<=200;decide
end
section
variable{H H':Hp}{mo md ca cd a l:AK}{o:HO}{xs:List Int}{i n:Nat}{f:D2}
noncomputable def Uq(f:D2)(w:Nat):Nat:=if w=0 then f.cells else if w=1 then f.values.length else f.twilight
inductive AEC(A:B3)(vs:List V)(H:Hp)(Q:VK)(E_:XK):Prop
 | mk: ∀ mo md tc fo fu sz sh f w,vs= [.ref mo,.int (AD w)]->H mo=some (.ins (A.cl 8) md (Wn f.units f.twilight f.cells tc fo fu sz sh))->H tc=some (.lst (iV f.values))->Q (.int (AD (Uq f w))) H->AEC A vs H Q E_
inductive AEe(A:B3)(vs:List V)(H:Hp)(Q:VK)(E_:XK):Prop
 | mk: ∀ f s z w n,vs= [.ref z,.int (AD w),.int (AD n)]->iT A H f s (.ref z)->w<=3->n<Uq f w->Q (.int (fN s w n)) H->AEe A vs H Q E_
def getD_at{l:List Int}(h:n<l.length):l[n]?=some (l.getD n 0):=by
 rw[Cc,CQ h]
 rfl
def xV(h:i<n):(refsOf C n)[i]?=some (.ref<|C.pp i):=by
 unfold refsOf
 rw[CZ,Gq h]
 rfl
def nP{w i:Nat}:Cy f (.get w i)=true↔3<w\/Uq f w<=i:=by
 show(if w=0 then decide (f.cells<=i)else if w=1 then decide (f.values.length<=i)else if w<=3 then decide (f.twilight<=i)else true)=true↔_
 unfold Uq
 by_cases h0:w=0
 ·rw[AI h0,AI h0,W8]
  exact⟨.inr,fun z=>z.elim (fun z=>by lia) id⟩
 rw[AG h0,AG h0]
 by_cases h1:w=1
 ·rw[AI h1,AI h1,W8]
  exact⟨.inr,fun z=>z.elim (fun z=>by lia) id⟩
 rw[AG h1,AG h1]
 by_cases h3:w<=3
 ·rw[AI h3,W8]
  exact⟨.inr,fun z=>z.elim (fun z=>by lia) id⟩
 ·rw[AG h3]
  exact⟨fun _=> .inl<|by lia,fun _=>rfl⟩
def tE{w i:Nat}(b: ¬ Cy f (.get w i)=true)(e:f.size=none):Bh f (.get w i)=(f,Wa<|-2):=by unfold Bh;rw[AG b];simp only[e]
def rW{w i:Nat}(b: ¬ Cy f (.get w i)=true)(e:f.size=some s):Bh f (.get w i)=(f,.numbers [fN s w i]):=by unfold Bh;rw[AG b];simp only[e]
def VG :O0 P w base 1 191 ["machine","what"] (AEC A):=by
 refine T.Sk.F.DQ ["machine","what"] fun H vs Q E hr h=>?_
 obtain⟨mo,md,tc,fo,fu,sz,sh,f,w,rfl,hm,ht,q⟩:=h
 refine⟨_,(AB (Aq (A0 BD AV<|Bt T.k.oy) (AF<|AY<|AR AH) AX)<|AB (Aq (A0 BD AV<|Bt T.k.YZ) (AF<|AY<|Dc T.k.CD<|Af<|AR AH) AX)<|AF<|AY<|AR AH),rfl,A7 (fun b0=>?_) fun b0=>?_⟩
 ·have e0:=B7 (V.int.inj<|An b0)
  refine⟨hm,Ap,rfl,?_⟩
  subst e0
  exact q
 have c0: ¬ w=0:=fun z=>b0<|Av<|by rw[z];rfl
 refine⟨rfl,A7 (fun b1=>?_) fun b1=>?_⟩
 ·have e1:=B7 (V.int.inj<|An b1)
  refine⟨hm,Ap,rfl,.inl<|BF.of ht,?_⟩
  subst e1
  rw[D7]
  exact q
 have c1: ¬ w=1:=fun z=>b1<|Av<|by rw[z];rfl
 refine⟨hm,Ap,rfl,?_⟩
 have e:Uq f w=f.twilight:=by unfold Uq;rw[AG c0,AG c1]
 rw[e]at q
 exact q
def TC :O0 P w base 1 192 ["size","what","number"] (AEe A):=by
 refine T.OM.F.DQ ["size","what","number"] @fun _ _ _ s H vs Q E hr h=>?_
 obtain⟨f,s,z,w,n,rfl,ok,hw,hn,q⟩:=h
 refine⟨_,(AB (Aq (A0 BD AV<|Bt T.k.oy) (AF<|AY<|A9 Ab (AR AH) Aj) AX)<|AB (Aq (A0 BD AV<|Bt T.k.YZ) (AF<|AY<|A9 Ab (AR AH) Aj) AX)<|AF<|AY<|A9 Ab (AR<|A9 Ab (AR AH) Aj)<|AU B1 AV<|Bt T.k.yA),?_⟩
 obtain⟨za,dz,cl,kk,tw,ol,en,kp,dk,B,ez,hz,zi⟩:=ok.ex
 cases ez
 refine⟨rfl,A7 (fun b0=>?_) fun b0=>?_⟩
 ·have e0:=B7 (V.int.inj<|An b0)
  subst e0
  exact⟨hz.at_,AW,rfl,BF.of hz.cells,Em<|YU<|getD_at<|by rw[ok.nc];exact hn,q⟩
 have c0: ¬ w=0:=fun z=>b0<|Av<|by rw[z];rfl
 refine⟨rfl,A7 (fun b1=>?_) fun b1=>?_⟩
 ·have e1:=B7 (V.int.inj<|An b1)
  subst e1
  exact⟨hz.at_,AW,rfl,BF.of hz.Cq,Em<|YU<|getD_at<|by rw[ok.nv];exact hn,q⟩
 have c1: ¬ w=1:=fun z=>b1<|Av<|by rw[z];rfl
 have hn0:n<s.zone0.size:=by
  rw[ok.n0]
  unfold Uq at hn
  rw[AG c0,AG c1]at hn
  exact hn
 have pt:=hz.pts n hn0
 refine⟨hz.at_,AW,rfl,BF.of hz.tw,Em<|xV hn0,pt.at_,Aa,Bx _ _ _,?_⟩
 have ew:=(zi n hn0).1
 rcases(show w=2\/w=3 by lia)with rfl | rfl
 ·refine⟨BF.of pt.old,(rfl),?_⟩
  rw[ew]
  exact q
 ·refine⟨BF.of pt.old,(rfl),?_⟩
  rw[ew]
  exact q
def jY :O0 P w base 2 193 ["machine","calls"] (Fw K A 6):=by
 refine T.X3.F.DQ ["machine","calls","what","number"] @fun _ _ _ s H vs Q E hr h=>?_
 obtain⟨dd,od,mo,md,ca,cd,a,xs,i,f,tc,fo,fu,sz,sh,c,t,rfl,h,hi,hcall,hask,q⟩:=h
 refine⟨_,(AB (AO 2<|BI AV As T.A3)<|AB (AO 3<|BI AV As T.A3)<|AB (Aq (PW.pt<|Gg (A0 DE Aj<|Bt T.k.AAH)<|GZ<|A0 U_ A6<|Ah VG T.Sk<|Ax AH Aj) (AF<|AY<|Ba<|Af<|Bt T.k.C6) AX)<|AB (Aq (Kd<|Ke<|AR AH) (AF<|AY<|Ba<|Af<|Bt T.k.Fu) AX)<|AF<|AY<|Ba<|Ax (Bt T.k.JW)<|Ah TC T.OM<|CH (AR AH) Aj A6),?_⟩
 obtain⟨hl,ys,er,rfl⟩:=call_of rfl hcall
 cases (er)
 have hl2:i+2<=xs.length:=by rw[G3]at hl;lia
 obtain⟨x0,e0⟩:=Ew (xs:=xs) (i:=i+0)<|by lia
 obtain⟨x1,e1⟩:=Ew (xs:=xs) (i:=i+1)<|by lia
 rw[iQ hl (IS.trans e0)<|IS.trans e1]at hask q
 have ed:xs.drop (i+2)=(xs.drop i).drop 2:=by rw[FD]
 have ha:=DB hask
 obtain⟨wh,rfl,_⟩:=xf ha.1
 obtain⟨nu,rfl,_⟩:=xf ha.2
 have hx:Im [[6,AD wh,AD nu]]=some (.get wh nu):=rfl
 refine⟨h.hc,rfl,h.rn e0 fun H1 h1 w1=>⟨h1.hc,rfl,h1.rn e1 fun H2 h2 w2=>?_⟩⟩
 have sm:Bc (wo mo ca dd H) (wo mo ca dd H2):=by rw[w2,w1];exact Bc.refl _
 have bad:(3<wh\/Uq f wh<=nu)-> ∀ l,H2 l=none->Q (.ref l) (upd H2 l<|.lst [.int<|-1]):=fun b l hl=>q.fin h2 sm hl (Jb hx<|nP.mpr b) (by lia) hl2 ed<|by decide
 refine A7 (fun b1=>⟨(show 1<=sizeLine by decide),fun l hl=>bad (.inl<|BQ.mp<|An b1) l hl⟩) fun b1=>?_
 refine⟨mo,md,tc,fo,fu,sz,sh,f,wh,rfl,h2.hm,CS _ _ h2.mf.tc,A7 (fun b2=>⟨(show 1<=sizeLine by decide),fun l hl=>bad (.inr<|Bf.mp<|An b2) l hl⟩) fun b2=>?_⟩
 have good: ¬ Cy f (.get wh nu)=true:=fun z=>(nP.mp z).elim (fun z=>absurd z<|by lia) fun z=>absurd z<|by lia
 refine⟨h2.hm,Ap,rfl,?_⟩
 rcases h2.mf.size with⟨e0,rfl⟩ |⟨s,e0,ok⟩
 ·refine ?_
  exact⟨(show 1<=sizeLine by decide),fun l1 n1=>q.fin (ys:= [-2]) h2 sm n1 (C2 hx<|tE good e0) (by lia) hl2 ed<|by decide⟩
 obtain⟨za,rest⟩:=ok.ex
 obtain⟨dz,cl,kk,tw,ol,en,kp,dk,B,rfl,hz,zi⟩:=rest
 refine⟨h2.hm,Ap,rfl,f,s,za,wh,nu,rfl,ok.mono CS,Ec fun z=>b1<|Av<|BQ.mpr z,ee fun z=>b2<|Av<|Bf.mpr z,(show 2<=sizeLine by decide),fun l1 n1=>?_⟩
 exact q.fin (ys:= [0,fN s wh nu]) h2 sm n1 (C2 hx<|rW good e0) (by lia) hl2 ed<|show 2<=200 by decide
def di(b: ¬ 1<z)(e:f.shape=none):Bh f (.points z)=(f,Wa<|-2):=by
 have b': ¬ Cy f (.points z)=true:=fun y=>b<|An y
 unfold Bh
 rw[AG b']
 simp only[e]
def dQ(b: ¬ 1<z)(e:f.shape=some x):Bh f (.points z)=(f,.numbers<|Wrhint.pointsTold<|if z=0 then x.1 else x.2):=by
 have b': ¬ Cy f (.points z)=true:=fun y=>b<|An y
 unfold Bh
 rw[AG b']
 simp only[e]
noncomputable def UN(z:Ht.Zone)(k:Nat):List Int:=0::AD z.size::(BO k).flatMap fun i=> [(z.at_ i).1,(z.at_ i).2,AD<|z.mark i]
def VA:UN z (k+1)=UN z k++ [(z.at_ k).1,(z.at_ k).2,AD<|z.mark k]:=by
 unfold UN
 rw[Ha,List.flatMap_append]
 rfl
theorem QX: ∀{k:Nat},(UN z k).length=2+3*k
 | 0=>rfl
 | k+1=>by
  rw[VA,E5,QX]
  show 2+3*k+3=_
  lia
def lC:iV (x++y)=iV x++iV y:=E6
def Yr :O0 P w base 2 190 ["machine","calls"] (Fw K A 5):=by
 refine T.N9.F.DQ ["machine","calls","zone_number","zone","told","point"] fun H vs Q E hr h=>?_
 obtain⟨dd,od,mo,md,ca,cd,a,xs,i,f,tc,fo,fu,sz,sh,c,t,rfl,h,hi,hcall,hask,q⟩:=h
 refine⟨_,(AB (AO 2<|BI AV As T.A3)<|AB (Aq (A0 DE Aj AE) (AF<|AY<|Ba<|Af<|Bt T.k.C6) AX)<|AB (Aq (Kd<|Ke<|AR AH) (AF<|AY<|Ba<|Af<|Bt T.k.Fu) AX)<|AB (AO 3<|A9 By (AR AH) Aj)<|AB (AO 4<|Ba<|Ax (Bt T.k.JW)<|Dc T.k.CD<|Af A6)<|AB (EM Ig rfl (GO A6) (FV 5)<|AF<|Ad<|VC FG qR mD bH CG<|Af<|Ba<|CH (A9 Ab (AR ES) AE) (A9 Ab (AR ES) AE)<|AR ES)<|AF<|AY CG),?_⟩
 obtain⟨hl,ys,er,rfl⟩:=call_of rfl hcall
 cases (er)
 have hl2:i+1<=xs.length:=by rw[G3]at hl;lia
 obtain⟨x0,e0⟩:=Ew (xs:=xs) (i:=i+0)<|by lia
 have et:=gY hl<|IS.trans e0
 rw[et]at hask q
 have ed:xs.drop (i+1)=(xs.drop i).drop 1:=by rw[FD]
 obtain⟨zn,rfl,_⟩:=xf<|hask
 have hx:Im [[5,AD zn]]=some (.points zn):=rfl
 refine⟨h.hc,rfl,h.rn e0 fun H1 h1 w1=>?_⟩
 have sm:Bc (wo mo ca dd H) (wo mo ca dd H1):=by rw[w1];exact Bc.refl _
 refine A7 (fun b1=>⟨(show 1<=sizeLine by decide),fun l hl=>q.fin (ys:= [-1]) h1 sm hl (Jb hx<|Av<|BQ.mp<|An b1) (by lia) hl2 ed<|by decide⟩) fun b1=>?_
 have c1: ¬ 1<zn:=fun z=>b1<|Av<|BQ.mpr z
 refine⟨h1.hm,Ap,rfl,?_⟩
 rcases h1.mf.shape with⟨e0,rfl⟩ |⟨x,tp,za,zb,B,C,e0,rfl,ht,hza,hzb⟩
 ·refine ?_
  exact⟨(show 1<=sizeLine by decide),fun l1 n1=>q.fin (ys:= [-2]) h1 sm n1 (C2 hx<|di c1 e0) (by lia) hl2 ed<|by decide⟩
 have pick: ∃ zz D z,[V.ref za,.ref zb][zn]?=some (.ref zz)/\uE A (wo mo ca dd H1) zz D z/\(if zn=0 then x.1 else x.2)=z:=by
  rcases(show zn=0\/zn=1 by lia)with rfl | rfl
  ·exact⟨za,B,x.1,rfl,hza,rfl⟩
  ·exact⟨zb,C,x.2,rfl,hzb,rfl⟩
 obtain⟨zz,P,z,ep,hz,ez⟩:=pick
 have st:=C2 hx<|dQ c1 e0
 rw[ez]at st
 refine⟨h1.hm,Ap,rfl,Dd.of<|CS _ _ ht,Em ep,?_⟩
 refine⟨.inl<|BF.of<|CS _ _ hz.at_,(show 2<=sizeLine by decide),fun D nD=>?_⟩
 rw[LB]
 have hn:=hz.ZA
 refine⟨⟨_,BF.of<|Bw nD _ _<|CS _ _ hz.at_⟩,Rh (fun k σ H'=>σ[0]?=some (some<|.ref mo)/\σ[3]?=some (some<|.ref zz)/\σ[4]?=some (some<|.ref D)/\σ.length=6/\Bc H1 H'/\H' D=some (.lst<|iV<|UN z k)) ⟨rfl,rfl,rfl,rfl,Bw nD,AJ⟩ (fun k σ H' _ hv=>BF.of<|hv.2.2.2.2.1 _ _<|CS _ _ hz.at_) ?_ ?_⟩
 ·rintro k y σ H2 hy ⟨v0,v3,v4,vl,s2,hD⟩
  obtain⟨hk,rfl⟩:=qC hy
  have pt:=((hz.pts k hk).mono CS).mono s2
  have uC:=hz.uC k hk
  have v5:(σ.set 5<|some<|.ref<|P.pp k)[5]?=some (some<|.ref<|P.pp k):=by rw[F3<|by lia]
  have v4':(σ.set 5<|some<|.ref<|P.pp k)[4]?=some (some<|.ref D):=by rw[DK<|by decide];exact v4
  have v3':(σ.set 5<|some<|.ref<|P.pp k)[3]?=some (some<|.ref zz):=by rw[DK<|by decide];exact v3
  have v0':(σ.set 5<|some<|.ref<|P.pp k)[0]?=some (some<|.ref mo):=by rw[DK<|by decide];exact v0
  refine Je.of v4' ⟨.inl ⟨rfl,_,BF.of hD⟩,Je.of v5 ⟨pt.at_,Aa,CF _ _ _,BF.of pt.now,(show XA _ 0=some _ from rfl),Je.of v5 ⟨pt.at_,Aa,CF _ _ _,BF.of pt.now,(show XA _ 1=some _ from rfl),Je.of v5 ⟨pt.at_,Aa,LG _ _ _,(show 3<=sizeLine by decide),fun l2 n2=>?_⟩⟩⟩⟩
  have nD2:=Ac hD n2
  refine⟨_,_,_,_,rfl,rfl,(AQ nD2).trans hD,AJ,?_,v0',v3',v4',by rw[DL];exact vl,?_,?_⟩
  ·rw[D7,QX]
   exact CC (show 2+3*k+3<=200 by lia)<|by decide
  ·intro b u e
   have nb:b≠D:=fun z=>by subst z;rw[nD]at e;cases e
   rw[AQ nb]
   exact Bw n2 _ _<|s2 _ _ e
  ·rw[AJ,VA,lC,uC.2.1,uC.2.2]
   rfl
 ·rintro σ H2 ⟨v0,v3,v4,vl,s2,hD⟩
  rw[LB]at hD
  refine Je.of v4 ?_
  have h3:=h1.grow s2
  have ap:=h1.apart nD
  refine q D H2 (i+1) tc fo fu sz _ (sm.trans<|DD s2) (by rw[st];exact h3) (by lia) hl2 ed (by rw[st];exact Ye hD ap.1 ap.2.1 ap.2.2) ?_<|by rw[st];show(UN z z.size).length<=200;rw[QX];lia
  refine sm.free ?_
  unfold wo
  split
  ·rfl
  ·exact nD
noncomputable def fit(n:Nat):Int->List Nat->Bool
 | _,[]=>true
 | b,e::r=>if AD e<=b\/n<=e then false else fit n (AD e) r
theorem o7: ∀{es:List Nat} {b:Int},fit n b es=true↔(∀ e∈es.head?,b<AD e)/\Ft es=true/\ ∀ e∈es,e<n
 | [],b=>by simp[fit,Ft]
 | [e],b=>by
  unfold fit
  split
  ·rename_i h
   simp[Ft]
   intro h2
   rcases h with h | h
   ·exact absurd h2<|by show ¬ b<AD e;lia
   ·exact h
  ·rename_i h
   simp[fit,Ft]
   have:AD e=(e:Int):=rfl
   lia
 | e::e2::r,b=>by
  unfold fit
  have ih:=o7 (es:=e2::r) (b:=AD e)
  have i2:AD e=(e:Int):=rfl
  have i3:AD e2=(e2:Int):=rfl
  split
  ·rename_i h
   simp[Ft]
   intro h2 _ _ h4
   lia
  ·rename_i h
   rw[ih]
   simp[Ft]
   constructor
   ·rintro⟨h1,h2,h3,h4⟩
    exact⟨by lia,⟨by lia,h2⟩,by lia,h3,h4⟩
   ·rintro⟨h1,⟨h2,h3⟩,h4,h5,h6⟩
    exact⟨by lia,h3,h5,h6⟩
inductive AD0(K:AS)(vs:List V)(H:Hp)(Q:VK)(E_:XK):Prop
 | mk: ∀ l es n,vs= [.ref l,.int (AD n)]->BF K H l (XW es)->Q (.bl (fit n (-1) es)) H->AD0 K vs H Q E_
theorem AAB(h:(XW es)[i]?=some x): ∃ e,es[i]?=some e/\x= .int (AD e):=by
 unfold XW at h
 rw[CZ]at h
 cases q:es[i]? with
 | none=>rw[q]at h;cases h
 | some e=>rw[q]at h;exact⟨e,rfl,(C5 h).symm⟩
def yu{es:List Nat}(h:es[i]?=some e):es.drop i=e::es.drop (i+1):=by
 obtain⟨h1,h2⟩:=Ie.mp h
 rw[Vx h1,h2]
def gK :O0 P w base 1 187 ["ends","point_count"] (AD0 K):=by
 refine T.gX.F.DQ ["ends","point_count","before","end"] fun H vs Q E hr h=>?_
 obtain⟨l,es,n,rfl,hs,q⟩:=h
 refine⟨_,(AB (AO 2<|LL HA AE)<|AB (EM Ig rfl (GO AH) (FV 3)<|AB (Aq (PW.pt<|Gg (A0 IM A6 Aj)<|GZ<|A0 U_ A6 AV) (AF<|AY aI) AX)<|AF<|AO 2 A6)<|AF<|AY aI),⟨_,hs⟩,Rh (fun k σ H'=>H'=H/\σ[1]?=some (some<|.int<|AD n)/\σ.length=4/\ ∃ b,σ[2]?=some (some<|.int b)/\fit n (-1) es=fit n b (es.drop k)) ⟨rfl,rfl,rfl,-1,rfl,by rw[FH]⟩ (fun k σ H' _ hv=>by rw[hv.1];exact hs) ?_ ?_⟩
 ·rintro k y σ H2 hy ⟨rfl,v1,vl,b,v2,eb⟩
  obtain⟨e,he,rfl⟩:=AAB hy
  rw[yu he]at eb
  have w3:(σ.set 3<|some<|.int<|AD e)[3]?=some (some<|.int<|AD e):=by rw[F3<|by lia]
  have w2:(σ.set 3<|some<|.int<|AD e)[2]?=some (some<|.int b):=by rw[DK<|by decide];exact v2
  have w1:(σ.set 3<|some<|.int<|AD e)[1]?=some (some<|.int<|AD n):=by rw[DK<|by decide];exact v1
  refine Je.of w3<|Je.of w2<|A7 (fun b1=>?_) fun b1=>?_
  ·have f0:=eb.trans (AI<|.inl<|An b1)
   rw[f0]at q
   exact q
  refine Je.of w3<|Je.of w1<|A7 (fun b2=>?_) fun b2=>?_
  ·rw[eb.trans<|AI<|.inr<|Bf.mp<|An b2]at q
   exact q
  refine Je.of w3 ⟨rfl,?_,by rw[DL,DL];exact vl,AD e,?_,?_⟩
  ·rw[DK<|by decide];exact w1
  ·rw[F3<|by rw[DL];lia]
  ·refine eb.trans (AG ?_)
   rintro(z | z)
   ·exact b1<|Av z
   ·exact b2<|Av<|Bf.mpr z
 ·rintro σ H2 ⟨rfl,v1,vl,b,v2,eb⟩
  have f1:fit n (-1) es=true:=by
   rw[eb,show(XW es).length=es.length from A8 ..,dW]
   rfl
  rw[f1]at q
  exact q
end
section
variable{H0 H H':Hp}{S:SS}{mo md ca cd a l:AK}{o:HO}{xs:List Int}{i n:Nat}{f:D2}
noncomputable def sG0(A:B3)(S:SS)(f:D2)(d:Nat)(kk cl tw:AK)(C:QI)(gr dg ol en kp dk:AK):SS:=
 sGr A (Ca (R8 (Ca (Ca S .Cq kk<|.lst<|iV<|f.values.map<|Ht.scaled f.units d) .cells cl<|.lst<|iV<|Ek f.cells 0)<|Gs A 0 f.twilight C) (.zl 0) tw<|.lst<|refsOf C f.twilight) gr dg (.int<|AD f.units) (.int<|AD d) cl kk tw ol en kp dk
inductive AD8(A:B3)(vs:List V)(H:Hp)(Q:VK)(E_:XK):Prop
 | mk: ∀ H0 S mo md tc fo fu sz sh f d,vs= [.ref mo,.int (AD d)]->d<=1000->(16<=f.units/\f.units<=16384)->f.values.length<=64->f.cells<=64->f.twilight<=16->H0 mo=some (.ins (A.cl 8) md (Wn f.units f.twilight f.cells tc fo fu sz sh))->H0 tc=some (.lst (iV f.values))->Nw H0 H S->(∀ kk cl tw C gr dg ol en kp dk H',zer C f.twilight->Nw H0 H' (sG0 A S f d kk cl tw C gr dg ol en kp dk)->Q (.ref gr) H')->AD8 A vs H Q E_
theorem AC1(h:(iV xs)[i]?=some x): ∃ v,xs[i]?=some v/\x= .int v:=by
 unfold iV at h
 rw[CZ]at h
 cases q:xs[i]? with
 | none=>rw[q]at h;cases h
 | some e=>rw[q]at h;exact⟨e,rfl,(C5 h).symm⟩
def vY(h:xs[k]?=some v):iV ((xs.take<|k+1).map g)=iV ((xs.take k).map g)++ [.int<|g v]:=by
 rw[pM,h,E6,lC]
 rfl
def Sd :O0 P w base 6 184 ["machine","dots"] (AD8 A):=by
 refine T.Tt.F.DQ ["machine","dots","controls","value"] fun H vs Q E hr h=>?_
 obtain⟨H0,S,mo,md,tc,fo,fu,sz,sh,f,d,rfl,hd,hu,hv,hc,htw,hm,ht,nw,q⟩:=h
 refine⟨_,(AB (Xo (i:=2) (own:= [("value",3)]) rfl (show Ij (["machine","dots","controls","value"]:List Str) by decide+kernel) rfl rfl (d4 rfl rfl rfl<|by decide+kernel) (GO<|AR AH) (show NJ ["machine","dots","controls","value"] (BY<|top 224) _ _ from LN<|by decide+kernel) (fun _ _ _ _ _=>(FV 3)) (fun _ _ _ _ _=>Sr) fun _ _ _ _ _=>(Ah K6 T.scaled<|CH A6 AV<|show PE _ _ (vt K _ _)from cV AH rfl))<|AF<|AY<|Ah Ze T.Y8<|Cs (AR AH)<|Rp AV (AR AH) Aj<|AR AH),?_⟩
 have hU:(16:Int)<=f.units/\(f.units:Int)<=16384:=⟨Bf.mpr hu.1,Bf.mpr hu.2⟩
 refine⟨(nw.same _ _ hm),Ap,rfl,⟨_,BF.of<|nw.same _ _ ht⟩,fun kk hkk=>lZ (fun k H'=>Nw H0 H'<|Ca S .Cq kk<|.lst<|iV<|(f.values.take k).map<|Ht.scaled f.units d) (nw.put hkk) (fun k H' _ n3=>BF.of<|n3.same _ _ ht) ?_ ?_⟩
 ·rintro k x H3 hx n3
  obtain⟨v,hv2,rfl⟩:=AC1 hx
  refine⟨rfl,c_<|⟨(n3.same _ _ hm),Ap,rfl,_,_,_,rfl,⟨⟨FP d,Bf.mpr hd⟩,hU⟩,?_⟩⟩
  have hk:=(Ie.mp hv2).1
  refine⟨_,n3.is,(by rw[D7,A8,HN];exact Ez (Nat.min_le_left _ _)<|DO hk<|CC hv<|by decide),?_⟩
  rw[vY hv2]
  exact n3.set _
 ·intro H3 n3
  rw[D7,List.take_length]at n3
  exact⟨(n3.same _ _ hm),Ap,rfl,(n3.same _ _ hm),Ap,rfl,(n3.same _ _ hm),Ap,rfl,H0,_,_,_,f.cells,f.twilight,kk,rfl,hc,CC htw<|by decide,n3,fun cl tw C gr dg ol en kp dk H4 zc n4=>q kk cl tw C gr dg ol en kp dk H4 zc n4⟩
noncomputable def mj(u d:Nat)(ps:List Int)(C:QI)(n:Nat):Prop:= ∀ i,i<n->C.was i=(Ht.scaled u d<|ps.getD (3*i) 0,Ht.scaled u d<|ps.getD (3*i+1) 0)/\C.now i=(Ht.scaled u d<|ps.getD (3*i) 0,Ht.scaled u d<|ps.getD (3*i+1) 0)/\C.xk i=ps.getD (3*i+2) 0%2
def AF5: ∀ n:Fin 65,c9 0 (((3*n.val:Nat):Int)) 3=true/\Ov 0 (((3*n.val:Nat):Int)) 3=(n.val:Int):=by decide+kernel
inductive AEj(A:B3)(vs:List V)(H:Hp)(Q:VK)(E_:XK):Prop
 | mk: ∀ H0 S sz dz u d cl kk tw ol en kp pl st pn ps n,vs= [.ref sz,.ref pl]->n<=64->ps.length=3*n->d<=1000->(16<=u/\u<=16384)->H0 sz=some (.ins (A.cl 6) dz (grV (.int (AD u)) (.int (AD d)) cl kk tw ol en kp st pn))->H0 pl=some (.lst (iV ps))->Nw H0 H S->(∀ l C H',mj u d ps C n->Nw H0 H' (Ca (R8 S (Gs A 1 n C)) (.zl 1) l (.lst (refsOf C n)))->Q (.ref l) H')->AEj A vs H Q E_
def ZH :O0 P w base 3 188 ["size","points"] (AEj A):=by
 refine T.YV.F.DQ ["size","points","outline","place","x","y"] fun H vs Q E hr h=>?_
 obtain⟨H0,S,sz,dz,u,d,cl,kk,tw,ol,en,kp,pl,st,pn,ps,n,rfl,hn,hps,hd,hu,hs,hp,nw,q⟩:=h
 refine⟨_,(AB (AO 2<|Ba Es)<|AB (EM Ig rfl (ax rfl T.k.Jw<|CH AE (Dc T.k.CD<|Af AV) AE) (FV 3)<|AB (AO 4<|Ah K6 T.scaled<|CH (A9 Ab AV A6) (AR AH)<|AR AH)<|AB (AO 5<|Ah K6 T.scaled<|CH (A9 Ab AV<|AU BJ A6 AE) (AR AH)<|AR AH)<|AF<|Ad<|VC FG TN SQ LD Aj<|Af<|GJ T.c.fB Kh (hr.mono<|by decide) rfl T.c.cS T.LW.2 .nil Gn<|CH CG ES<|AU Dz (A9 Ab AV<|AU BJ A6 AE) AE)<|AF<|AY Aj),?_⟩
 have hD:=Bf.mpr hd
 have hU:(16:Int)<=u/\(u:Int)<=16384:=⟨Bf.mpr hu.1,Bf.mpr hu.2⟩
 refine⟨B6 _,fun D nD=>?_⟩
 have n0:=nw.begin (A:=A) (z:=1) (P:=P0) nD
 have rr:=AF5 ⟨n,by lia⟩
 refine⟨.inl<|BF.of<|n0.same _ _ hp,0,_,3,n,rfl,⟨by decide,by decide,by rw[D7,hps];exact rr.1,by rw[D7,hps];exact rr.2⟩,Qx (fun k σ H'=>σ[0]?=some (some<|.ref sz)/\σ[1]?=some (some<|.ref pl)/\σ[2]?=some (some<|.ref D)/\σ.length=6/\ ∃ C,mj u d ps C k/\Nw H0 H' (Ca (R8 S<|Gs A 1 k C) (.zl 1) D<|.lst<|refsOf C k)) ⟨rfl,rfl,rfl,rfl,P0,(fun i hi=>absurd hi<|HW _),n0⟩ ?_ ?_⟩
 ·rintro k σ H3 hk ⟨v0,v1,v2,vl,C,io,n3⟩
  have ek:(0:Int)+(k:Nat)*3=AD (3*k):=by show(0:Int)+(k:Int)*3=((3*k:Nat):Int);lia
  rw[ek]
  have l1:(σ.set 3<|some<|.int<|AD<|3*k).length=6:=by rw[DL];exact vl
  have a0:(σ.set 3<|some<|.int<|AD<|3*k)[0]?=some (some<|.ref sz):=by rw[DK<|by decide];exact v0
  have a1:(σ.set 3<|some<|.int<|AD<|3*k)[1]?=some (some<|.ref pl):=by rw[DK<|by decide];exact v1
  have a2:(σ.set 3<|some<|.int<|AD<|3*k)[2]?=some (some<|.ref D):=by rw[DK<|by decide];exact v2
  have a3:(σ.set 3<|some<|.int<|AD<|3*k)[3]?=some (some<|.int<|AD<|3*k):=by rw[F3<|by lia]
  have hs3:=n3.same _ _ hs
  have hp3:=BF.of (K:=K)<|n3.same _ _ hp
  refine Je.of a1<|Je.of a3 ⟨hp3,Em<|YU<|getD_at (l:=ps) (n:=3*k)<|by lia,Je.of a0 ⟨hs3,AW,rfl,Je.of a0 ⟨hs3,AW,rfl,_,_,_,rfl,⟨⟨FP d,hD⟩,hU⟩,?_⟩⟩⟩
  have l2: ∀ v,((σ.set 3<|some<|.int<|AD<|3*k).set 4 v).length=6:=fun v=>by rw[DL];exact l1
  have b0: ∀ v,((σ.set 3<|some<|.int<|AD<|3*k).set 4 v)[0]?=some (some<|.ref sz):=fun v=>by rw[DK<|by decide];exact a0
  have b1: ∀ v,((σ.set 3<|some<|.int<|AD<|3*k).set 4 v)[1]?=some (some<|.ref pl):=fun v=>by rw[DK<|by decide];exact a1
  have b2: ∀ v,((σ.set 3<|some<|.int<|AD<|3*k).set 4 v)[2]?=some (some<|.ref D):=fun v=>by rw[DK<|by decide];exact a2
  have b3: ∀ v,((σ.set 3<|some<|.int<|AD<|3*k).set 4 v)[3]?=some (some<|.int<|AD<|3*k):=fun v=>by rw[DK<|by decide];exact a3
  have b4: ∀ v,((σ.set 3<|some<|.int<|AD<|3*k).set 4 v)[4]?=some v:=fun v=>by rw[F3<|by lia]
  refine Je.of (b1 _)<|Je.of (b3 _) ⟨hp3,(Em<|YU<|getD_at (l:=ps) (n:=3*k+1)<|by lia),Je.of (b0 _) ⟨hs3,AW,rfl,Je.of (b0 _) ⟨hs3,AW,rfl,_,_,_,rfl,⟨⟨FP d,hD⟩,hU⟩,?_⟩⟩⟩
  have l3: ∀ v w,(((σ.set 3<|some<|.int<|AD<|3*k).set 4 v).set 5 w).length=6:=fun v w=>by rw[DL];exact l2 v
  have c0: ∀ v w,(((σ.set 3<|some<|.int<|AD<|3*k).set 4 v).set 5 w)[0]?=some (some<|.ref sz):=fun v w=>by rw[DK<|by decide];exact b0 v
  have c1: ∀ v w,(((σ.set 3<|some<|.int<|AD<|3*k).set 4 v).set 5 w)[1]?=some (some<|.ref pl):=fun v w=>by rw[DK<|by decide];exact b1 v
  have c2: ∀ v w,(((σ.set 3<|some<|.int<|AD<|3*k).set 4 v).set 5 w)[2]?=some (some<|.ref D):=fun v w=>by rw[DK<|by decide];exact b2 v
  have c3: ∀ v w,(((σ.set 3<|some<|.int<|AD<|3*k).set 4 v).set 5 w)[3]?=some (some<|.int<|AD<|3*k):=fun v w=>by rw[DK<|by decide];exact b3 v
  have c4: ∀ v w,(((σ.set 3<|some<|.int<|AD<|3*k).set 4 v).set 5 w)[4]?=some v:=fun v w=>by rw[DK<|by decide];exact b4 v
  have c5: ∀ v w,(((σ.set 3<|some<|.int<|AD<|3*k).set 4 v).set 5 w)[5]?=some w:=fun v w=>by rw[F3<|by rw[l2];decide]
  refine Je.of (c2 _ _) ⟨.inl ⟨rfl,_,BF.of n3.is⟩,Je.of (c4 _ _)<|Je.of (c5 _ _)<|Je.of (c1 _ _)<|Je.of (c3 _ _) ⟨hp3,(Em<|YU<|getD_at (l:=ps) (n:=3*k+2)<|by lia),(by show(0:Int)<2;decide),?_⟩⟩
  intro x dx nx nd xd
  refine⟨x,dx,_,_,_,rfl,AJ,fun lo ln h1 h2 h3=>⟨rfl,?_⟩⟩
  have d1:lo≠x:=fun z=>by subst z;rw[AJ]at h1;cases h1
  have d2:ln≠x:=fun z=>by subst z;rw[AJ]at h2;cases h2
  rw[AQ d1]at h1
  rw[AQ d2]at h2
  have f1:lo≠dx:=fun z=>by subst z;rw[AJ]at h1;cases h1
  have f2:ln≠dx:=fun z=>by subst z;rw[AJ]at h2;cases h2
  rw[AQ f1]at h1
  rw[AQ f2]at h2
  have n4:=n3.point (w:=(Ht.scaled u d<|ps.getD (3*k) 0,Ht.scaled u d<|ps.getD (3*k+1) 0)) (b:=(Ht.scaled u d<|ps.getD (3*k) 0,Ht.scaled u d<|ps.getD (3*k+1) 0)) (k:=ps.getD (3*k+2) 0%2) nx nd xd h1 h2 h3 d1 d2 f1 f2
  rw[ADg]
  refine⟨n4.is,(by rw[LB];exact HV hk<|Ez hn<|by decide),c0 _ _,c1 _ _,c2 _ _,l3 _ _,C.put k x dx lo ln (Ht.scaled u d<|ps.getD (3*k) 0,Ht.scaled u d<|ps.getD (3*k+1) 0) (Ht.scaled u d<|ps.getD (3*k) 0,Ht.scaled u d<|ps.getD (3*k+1) 0)<|ps.getD (3*k+2) 0%2,?_,?_⟩
  ·intro j hj
   by_cases e:j=k
   ·subst e
    unfold QI.put
    simp only[D6]
    exact⟨trivial,trivial,trivial⟩
   ·unfold QI.put
    simp only[AG e]
    exact io j<|by lia
  ·rw[X0]
   exact(n4.set<|.lst<|refsOf C k++ [.ref x])
 ·rintro σ H3 ⟨v0,v1,v2,vl,C,io,n3⟩
  exact Je.of v2<|q D C H3 io n3
end
end GF
end
section
namespace GF
open PySem PySem.Spec PyProof.Rows L2
section
variable{K:AS}{mg:Str->Option AN}{A:B3}{H0 H:Hp}{S:SS}
noncomputable def xN(kd:Ht.Kind)(c:Ht.Codes)(m:Ht.M)(run Qn gr Y_ kp VR CL C1 refs cl kk en fn own font z0 z1:AK)(Z0 Z1:QI):B4 where
 run:=run
 Qn:=Qn
 gr:=gr
 Y_:=Y_
 kp:=kp
 VR:=VR
 CL:=CL
 C1:=C1
 refs:=refs
 cells:=cl
 Cq:=kk
 ends:=en
 fn:=fn
 own:=own
 font:=font
 zl z:=if z=0 then z0 else z1
 pp z:=if z=0 then Z0.pp else Z1.pp
 pd z:=if z=0 then Z0.pd else Z1.pd
 kind:=kd
 c:=c
 nc:=m.cells.length
 nv:=m.values.length
 n0:=m.zone0.size
 n1:=m.zone1.size
 un:=m.units
 place:=0
 byte:=0
noncomputable def sO(A:B3)(Bj:AK)(Z0 Z1:QI)(BU:List (Key×V)):Var where
 tP:=A.tg 0
 tF:=A.tg 0
 tQ:=A.tg 0
 Bj:=Bj
 lo z:=if z=0 then Z0.lo else Z1.lo
 ln z:=if z=0 then Z0.ln else Z1.ln
 BU:=BU
 K1 _:=0
 cp _:=0
structure Bg(A:B3)(S:SS)(kd:Ht.Kind)(m:Ht.M)(run Qn gr Y_ kp VR CL C1 refs Bj cl kk en fn own font z0 z1:AK)(Z0 Z1:QI)(BU:List (Key×V)):Prop where
 run:S .run run (.ins (A.cl 1) Qn (rnV A kd (.ref gr) (.ref font) (.ref fn) (.ref own) CL C1 refs Bj))
 gr:S .gr gr (.ins (A.cl 6) Y_ (grV (.int (AD m.units)) (.int (AD m.dots)) cl kk z0 z1 en kp 0 0))
 kp:S .kp kp (.ins (A.cl 5) VR (RR m.kept))
 CL:S .CL CL (.lst [])
 C1:S .C1 C1 (.lst [])
 refs:S .refs refs (.lst [.int 0,.int 0,.int 0])
 Bj:S .Bj Bj (.lst [.int 1,.int 1,.int 1])
 cl:S .cells cl (.lst (iV m.cells))
 kk:S .Cq kk (.lst (iV m.values))
 fn:kd= .font->S .fn fn (.dK BU)
 z0:S (.zl 0) z0 (.lst (refsOf Z0 m.zone0.size))
 z1:S (.zl 1) z1 (.lst (refsOf Z1 m.zone1.size))
 p0: ∀ t a o,Gs A 0 m.zone0.size Z0 t a o->S t a o
 p1: ∀ t a o,Gs A 1 m.zone1.size Z1 t a o->S t a o
 i0:t7 Z0 m.zone0
 i1:t7 Z1 m.zone1
 fo:kd= .font->own=font
structure mS(kd:Ht.Kind)(m:Ht.M):Prop where
 stack:m.stack= []
 P:m.P=(16384,0)
 F:m.F=(16384,0)
 Q:m.Q=(16384,0)
 r0:m.r0=0
 r1:m.r1=0
 r2:m.r2=0
 z0:m.z0=1
 z1:m.z1=1
 z2:m.z2=1
 loop:m.loop=1
 way:m.way=1
 byte:m.byte=0
 still:m.still=false
 plain:m.plain=false
 place:m.place=0
 inFont:m.inFont=decide (kd= .font)
 going:m.going= []
 steps:m.steps=0
def OH(e:b=decide (kd= .font)):mS kd (nG f d cells values zone0 zone1 ends kept funs b):=
 ⟨rfl,rfl,rfl,rfl,rfl,rfl,rfl,rfl,rfl,rfl,rfl,rfl,rfl,rfl,rfl,rfl,e,rfl,rfl⟩
def AAE:bI (decide (kd= .font))=NA kd:=by cases kd<;>rfl
theorem Bg.want{run Qn gr Y_ kp VR CL C1 refs Bj cl kk en fn own font z0 z1:AK}(B:Bg A S kd m run Qn gr Y_ kp VR CL C1 refs Bj cl kk en fn own font z0 z1 Z0 Z1 BU)(F:mS kd m)
  (t:Tag) (a:AK) (o:HO) (h:want A (xN kd c m run Qn gr Y_ kp VR CL C1 refs cl kk en fn own font z0 z1 Z0 Z1) (sO A Bj Z0 Z1 BU) m t=some (a,o)):S t a o:=by
 cases t with
 | rest=>cases h
 | run=>
  have e:DV (xN kd c m run Qn gr Y_ kp VR CL C1 refs cl kk en fn own font z0 z1 Z0 Z1) (sO A Bj Z0 Z1 BU) m=rnV A kd (.ref gr) (.ref font) (.ref fn) (.ref own) CL C1 refs Bj:=by
   unfold DV rnV bJ
   rw[F.inFont,F.place,F.steps,F.loop,F.way,F.byte,AAE]
   by_cases k:kd= .font
   ·rw[Av k,AI rfl]
    have e:=B.fo k
    subst e
    rfl
   ·rw[D5 k,AG<|by decide]
    rfl
  have h:some (run,HO.ins (A.cl 1) Qn<|DV (xN kd c m run Qn gr Y_ kp VR CL C1 refs cl kk en fn own font z0 z1 Z0 Z1) (sO A Bj Z0 Z1 BU) m)=some (a,o):=h
  rw[e]at h
  cases h
  exact B.run
 | gr=>
  have h:some (gr,HO.ins (A.cl 6) Y_ [("units",.int<|AD m.units),("dots",.int<|AD m.dots),("cells",.ref cl),("controls",.ref kk),("twilight",.ref z0),("outline",.ref z1),("ends",.ref en),("kept",.ref kp),("still",.int<|bI m.still),("plain",.int<|bI m.plain)])=some (a,o):=h
  rw[F.still,F.plain]at h
  cases h
  exact B.gr
 | kp=>cases h;exact B.kp
 | CL=>
  have h:some (CL,HO.lst<|(BO m.going.length).map fun j=> .ref<|(sO A Bj Z0 Z1 BU).K1 j)=some (a,o):=h
  rw[F.going]at h
  cases h
  exact B.CL
 | C1=>
  have h:some (C1,HO.lst<|iV m.stack.reverse)=some (a,o):=h
  rw[F.stack]at h
  cases h
  exact B.C1
 | refs=>
  have h:some (refs,HO.lst [.int m.r0,.int m.r1,.int m.r2])=some (a,o):=h
  rw[F.r0,F.r1,F.r2]at h
  cases h
  exact B.refs
 | Bj=>
  have h:some (Bj,HO.lst [.int<|AD m.z0,.int<|AD m.z1,.int<|AD m.z2])=some (a,o):=h
  rw[F.z0,F.z1,F.z2]at h
  cases h
  exact B.Bj
 | cells=>cases h;exact B.cl
 | Cq=>cases h;exact B.kk
 | fn=>
  have h:(if kd= .font then some (fn,HO.dK BU)else none)=some (a,o):=h
  by_cases k:kd= .font
  ·rw[AI k]at h
   cases h
   exact B.fn k
  ·rw[AG k]at h
   cases h
 | zl z=>
  match z with
  | 0=>cases h;exact B.z0
  | 1=>cases h;exact B.z1
  | z+2=>
   simp only[GF.want]at h
   rw[AG<|show ¬ z+2<2 by lia]at h
   cases h
 | fr j=>
  have h:(if j<m.going.length then some _ else none)=some (a,o):=h
  rw[F.going,AG<|by show ¬ j<0;lia]at h
  cases h
 | pt z i=>
  match z with
  | 0=>
   have h:(if 0<2/\i<m.zone0.size then some (Z0.pp i,HO.ins (A.cl 3) (Z0.pd i)<|Na (Z0.lo i) (Z0.ln i)<|AD<|m.zone0.mark i)else none)=some (a,o):=h
   by_cases k:0<2/\i<m.zone0.size
   ·rw[AI k,<-(B.i0 i k.2).2.2]at h
    cases h
    exact B.p0 _ _ _ ⟨i,k.2,.inl ⟨rfl,rfl,rfl⟩⟩
   ·rw[AG k]at h
    cases h
  | 1=>
   have h:(if 1<2/\i<m.zone1.size then some (Z1.pp i,HO.ins (A.cl 3) (Z1.pd i)<|Na (Z1.lo i) (Z1.ln i)<|AD<|m.zone1.mark i)else none)=some (a,o):=h
   by_cases k:1<2/\i<m.zone1.size
   ·rw[AI k,<-(B.i1 i k.2).2.2]at h
    cases h
    exact B.p1 _ _ _ ⟨i,k.2,.inl ⟨rfl,rfl,rfl⟩⟩
   ·rw[AG k]at h
    cases h
  | z+2=>
   simp only[GF.want]at h
   rw[AG fun y=>absurd y.1<|show ¬ z+2<2 by lia]at h
   cases h
 | po z i=>
  match z with
  | 0=>
   have h:(if 0<2/\i<m.zone0.size then some (Z0.lo i,HO.lst<|pV<|m.zone0.was i)else none)=some (a,o):=h
   by_cases k:0<2/\i<m.zone0.size
   ·rw[AI k,<-(B.i0 i k.2).1]at h
    cases h
    exact B.p0 _ _ _ ⟨i,k.2,.inr<|.inl ⟨rfl,rfl,rfl⟩⟩
   ·rw[AG k]at h
    cases h
  | 1=>
   have h:(if 1<2/\i<m.zone1.size then some (Z1.lo i,HO.lst<|pV<|m.zone1.was i)else none)=some (a,o):=h
   by_cases k:1<2/\i<m.zone1.size
   ·rw[AI k,<-(B.i1 i k.2).1]at h
    cases h
    exact B.p1 _ _ _ ⟨i,k.2,.inr<|.inl ⟨rfl,rfl,rfl⟩⟩
   ·rw[AG k]at h
    cases h
  | z+2=>
   simp only[GF.want]at h
   rw[AG fun y=>absurd y.1<|show ¬ z+2<2 by lia]at h
   cases h
 | pn z i=>
  match z with
  | 0=>
   have h:(if 0<2/\i<m.zone0.size then some (Z0.ln i,HO.lst<|pV<|m.zone0.at_ i)else none)=some (a,o):=h
   by_cases k:0<2/\i<m.zone0.size
   ·rw[AI k,<-(B.i0 i k.2).2.1]at h
    cases h
    exact B.p0 _ _ _ ⟨i,k.2,.inr<|.inr ⟨rfl,rfl,rfl⟩⟩
   ·rw[AG k]at h
    cases h
  | 1=>
   have h:(if 1<2/\i<m.zone1.size then some (Z1.ln i,HO.lst<|pV<|m.zone1.at_ i)else none)=some (a,o):=h
   by_cases k:1<2/\i<m.zone1.size
   ·rw[AI k,<-(B.i1 i k.2).2.1]at h
    cases h
    exact B.p1 _ _ _ ⟨i,k.2,.inr<|.inr ⟨rfl,rfl,rfl⟩⟩
   ·rw[AG k]at h
    cases h
  | z+2=>
   simp only[GF.want]at h
   rw[AG fun y=>absurd y.1<|by lia]at h
   cases h
structure i6(W:Hp)(kd:Ht.Kind)(c:Ht.Codes)(m:Ht.M)(en fn own font:AK)(BU:List (Key×V)):Prop where
 down:W own=some (.lst (TZ c.own))
 vU:W font=some (.lst (TZ c.font))
 ba:c.own.length<=2048
 IT:c.font.length<=2048
 ends:W en=some (.lst (m.ends.map fun e=> .int (AD e)))
 iM:m.ends.length<=8
 LK:N7 m.zone1.size m.ends
 fns:kd≠ .font->W fn=some (.dK BU)
 Vh:ZP BU m.funs
 bq: ∀ x∈m.funs,x.2<=c.font.length
 fk:kd= .font->own=font/\c.own=c.font
 kept:iK m.kept
 cells: ∀ x∈m.cells,FE x
 QY:m.cells.length<=64
 vals: ∀ x∈m.values,FE x
 Gm:m.values.length<=64
 zone0:Kw m.zone0
 zone1:Kw m.zone1
 units:16<=m.units/\m.units<=16384
 dots:m.dots<=1000
theorem i6.good{run Qn gr Y_ kp VR CL C1 refs Bj cl kk en fn own font z0 z1:AK} [T:Txt K mg A](G:i6 W kd c m en fn own font BU)(F:mS kd m):
  Good K W (xN kd c m run Qn gr Y_ kp VR CL C1 refs cl kk en fn own font z0 z1 Z0 Z1) (sO A Bj Z0 Z1 BU) m where
 tP:=by rw[F.P];exact T.k.Hj W
 tF:=by rw[F.F];exact T.k.Hj W
 tQ:=by rw[F.Q];exact T.k.Hj W
 sP:=by rw[F.P];exact⟨by decide,by decide⟩
 sF:=by rw[F.F];exact⟨by decide,by decide⟩
 sQ:=by rw[F.Q];exact⟨by decide,by decide⟩
 own:=G.down
 font:=G.vU
 ba:=G.ba
 IT:=G.IT
 ends:=G.ends
 iM:=G.iM
 LK:=G.LK
 fns:=G.fns
 Vh:=G.Vh
 bq:=G.bq
 fk:=G.fk
 st:=by rw[F.stack];exact B6 _
 sti:=by rw[F.stack];exact fun _ z=>absurd z<|Ir
 r0:=by rw[F.r0];exact⟨by decide,by decide⟩
 r1:=by rw[F.r1];exact⟨by decide,by decide⟩
 r2:=by rw[F.r2];exact⟨by decide,by decide⟩
 z0:=by rw[F.z0];decide
 z1:=by rw[F.z1];decide
 z2:=by rw[F.z2];decide
 loop:=by rw[F.loop];exact⟨by decide,by decide⟩
 way:=by rw[F.way];decide
 byte:=by rw[F.byte];decide
 least:=G.kept.least
 cutin:=G.kept.cutin
 width:=G.kept.width
 uP:=G.kept.uP
 base:=G.kept.base
 shift:=G.kept.shift
 cells:=G.cells
 QY:=G.QY
 vals:=G.vals
 Gm:=G.Gm
 zone0:=G.zone0
 zone1:=G.zone1
 units:=G.units
 dots:=G.dots
 going:=by rw[F.going];exact B6 _
 gS:=by rw[F.going];exact fun _ z=>absurd z<|Ir
 eQ:=by rw[F.going];trivial
 place:=by rw[F.place];exact B6 _
 steps:=by rw[F.steps];exact B6 _
 nc:=rfl
 nv:=rfl
 n0:=rfl
 n1:=rfl
 un:=rfl
def R.begin_{run Qn gr Y_ kp VR CL C1 refs Bj cl kk en fn own font z0 z1:AK} [T:Txt K mg A](n:Nw H0 H S)(B:Bg A S kd m run Qn gr Y_ kp VR CL C1 refs Bj cl kk en fn own font z0 z1 Z0 Z1 BU)(F:mS kd m)
  (G:i6 (SW S H) kd c m en fn own font BU):R K A (SW S H) (xN kd c m run Qn gr Y_ kp VR CL C1 refs cl kk en fn own font z0 z1 Z0 Z1) (sO A Bj Z0 Z1 BU) m H:=
 R.make n (B.want F) (G.good F)
end
section
variable{K:AS}{mg:Str->Option AN}{A:B3}{H0 H H' W:Hp}{S:SS}{f:D2}{mo ca dd:AK}
noncomputable def sRn(A:B3)(S:SS)(p dx:AK)(kd:Ht.Kind)(gr fo fn co:V)(CL C1 refs Bj:AK):SS:=
 Ca (Ca (Ca (Ca (Ca S .CL CL<|.lst []) .C1 C1<|.lst []) .refs refs<|.lst [.int 0,.int 0,.int 0]) .Bj Bj<|.lst [.int 1,.int 1,.int 1]) .run p (.ins (A.cl 1) dx<|rnV A kd gr fo fn co CL C1 refs Bj)
noncomputable def ADi:Tag->Bool
 | .run | .Bj | .refs | .C1 | .CL=>true
 | _=>false
def Dq{CL C1 refs Bj:AK}(n:ADi t=false)(h:S t a o):sRn A S p dx kd gr fo fn co CL C1 refs Bj t a o:=
 .inr ⟨(fun z=>by subst z;cases n),.inr ⟨(fun z=>by subst z;cases n),.inr ⟨(fun z=>by subst z;cases n),.inr ⟨(fun z=>by subst z;cases n),.inr ⟨(fun z=>by subst z;cases n),h⟩⟩⟩⟩⟩
def wV(h:Gs A z n C t a o): ∃ i,t= .pt z i\/t= .po z i\/t= .pn z i:=by
 obtain⟨i,_,h⟩:=h
 rcases h with⟨rfl,_⟩ |⟨rfl,_⟩ |⟨rfl,_⟩
 ·exact⟨i,.inl rfl⟩
 ·exact⟨i,.inr<|.inl rfl⟩
 ·exact⟨i,.inr<|.inr rfl⟩
noncomputable def xq:Tag->Bool
 | .pt _ _ | .po _ _ | .pn _ _=>true
 | _=>false
def S_(h:Gs A z n C t a o):xq t=true:=by
 obtain⟨i,rfl | rfl | rfl⟩:=wV h<;>rfl
def My(h:xq t=true)(n:xq u=false):t≠u:=fun z=>by rw[z,n]at h;cases h
def uH(h:xq t=true):ADi t=false:=by cases t<;>first | rfl | cases h
noncomputable def m0(f:D2)(d:Nat)(funs:List (Nat×Nat))(b:Bool):Ht.M:=nG f d (cu f.cells) (f.values.map<|Ht.scaled f.units d) (Ht.blank f.twilight) (Ht.blank 0) [] Ht.usual funs b
def zA(h:16<=u)(v:Int):Ht.scaled u 0 v=0:=by
 unfold Ht.scaled
 have e:64*v*AD 0=0:=by rw[show AD 0=0 from rfl,Int.mul_zero]
 rw[e]
 have e2:Ht.near 0 (AD u)=0:=by
  unfold Ht.near
  have:(0:Int)<AD u:=by show(0:Int)<(u:Int);lia
  rw[AG<|by lia,GD _<|by lia]
  exact Int.ediv_eq_zero_of_lt (by lia)<|by lia
 rw[e2]
 rfl
def pX(h:16<=f.units):PH f=m0 f 0 [] true:=by
 unfold PH m0
 have e:f.values.map (Ht.scaled f.units 0)=cu f.values.length:=by
  unfold cu
  rw[PM fun v _=>zA h v,List.map_const']
 rw[e]
def Ln:(Ht.blank n).size=n:=IY ..
def Xl(h:i<n):(Ek n x).getD i y=x:=by
 rw[Cc,dw,AI h]
 rfl
def ACy(h:zer C n):t7 C (Ht.blank n):=fun i hi=>by
 rw[Ln]at hi
 obtain⟨a,b,c⟩:=h i hi
 refine⟨a.trans<|(Xl hi).symm,b.trans<|(Xl hi).symm,c.trans ?_⟩
 ·show 0=AD ((Ek n 0).getD i 0)
  rw[Xl hi]
  rfl
theorem Xq(h:n<=64):Kw (Ht.blank n) where
 lo:=by show(Ek n _).length=(Ek n _).length;simp only[IY]
 lm:=by show(Ek n _).length=(Ek n _).length;simp only[IY]
 ZA:=by show(Ek n _).length<=64;rw[IY];exact h
 org:=fun x hx=>by rw[W7 hx];exact⟨⟨by decide,by decide⟩,⟨by decide,by decide⟩⟩
 now:=fun x hx=>by rw[W7 hx];exact⟨⟨by decide,by decide⟩,⟨by decide,by decide⟩⟩
 marks:=fun x hx=>by rw[W7 hx];decide
theorem wk(x:Int):FE (Ht.cut x):=by unfold FE Ht.cut;lia
theorem bg0{p dx gr dg kp dk CL C1 refs Bj cl kk tw ol en fn own font:AK}(zc:zer C f.twilight)(hfn:kd= .font->S .fn fn (.dK BU))(ho:kd= .font->own=font):
  Bg A (sRn A (sG0 A S f d kk cl tw C gr dg ol en kp dk) p dx kd (.ref gr) (.ref font) (.ref fn) (.ref own) CL C1 refs Bj) kd (m0 f d funs b) p dx gr dg kp dk CL C1 refs Bj cl kk en fn own font tw ol C P0 BU where
 run:=B0
 gr:=Dq rfl B0
 kp:=Dq rfl<|.inr ⟨nofun,B0⟩
 CL:= .inr ⟨nofun,.inr ⟨nofun,.inr ⟨nofun,.inr ⟨nofun,B0⟩⟩⟩⟩
 C1:= .inr ⟨nofun,.inr ⟨nofun,.inr ⟨nofun,B0⟩⟩⟩
 refs:= .inr ⟨nofun,.inr ⟨nofun,B0⟩⟩
 Bj:= .inr ⟨nofun,B0⟩
 cl:=Dq rfl<|.inr ⟨nofun,.inr ⟨nofun,.inl<|.inl<|.inr ⟨nofun,.inl B0⟩⟩⟩
 kk:=Dq rfl<|.inr ⟨nofun,.inr ⟨nofun,.inl<|.inl<|.inr ⟨nofun,.inl<|.inr ⟨nofun,B0⟩⟩⟩⟩
 fn:=fun e=>Dq rfl<|.inr ⟨nofun,.inr ⟨nofun,.inl<|.inl<|.inr ⟨nofun,.inl<|.inr ⟨nofun,.inr ⟨nofun,hfn e⟩⟩⟩⟩⟩
 z0:=by
  show sRn A (sG0 A S f d kk cl tw C gr dg ol en kp dk) p dx kd (.ref gr) (.ref font) (.ref fn) (.ref own) CL C1 refs Bj (.zl 0) tw (.lst<|refsOf C (Ht.blank f.twilight).size)
  rw[Ln]
  exact Dq rfl<|.inr ⟨nofun,.inr ⟨nofun,.inl<|.inl B0⟩⟩
 z1:=Dq rfl<|.inr ⟨nofun,.inr ⟨nofun,.inl<|.inr ⟨rfl,rfl,rfl⟩⟩⟩
 p0:=fun t a o h=>by
  have h:Gs A 0 (Ht.blank f.twilight).size C t a o:=h
  rw[Ln]at h
  have i:=S_ h
  exact Dq (uH i)<|.inr ⟨My i rfl,.inr ⟨My i rfl,.inl<|.inl<|.inr ⟨My i rfl,.inr h⟩⟩⟩
 p1:=fun t a o ⟨i,hi,_⟩=>absurd hi<|HW _
 i0:=ACy zc
 i1:=fun i hi=>absurd hi<|HW _
 fo:=ho
theorem good0(h1:W own=some (.lst<|TZ c.own))(h2:W font=some (.lst<|TZ c.font))(l1:c.own.length<=2048)(l2:c.font.length<=2048)(he:W en=some (.lst []))
  (hfn:kd≠ .font->W fn=some (.dK BU)) (fo:ZP BU funs) (fi: ∀ x∈funs,x.2<=c.font.length) (fk:kd= .font->own=font/\c.own=c.font) (lc:f.cells<=64) (lv:f.values.length<=64) (lt:f.twilight<=16) (u:16<=f.units/\f.units<=16384) (hd:d<=1000):
  i6 W kd c (m0 f d funs b) en fn own font BU where
 down:=h1
 vU:=h2
 ba:=l1
 IT:=l2
 ends:=he
 iM:=B6 _
 LK:=trivial
 fns:=hfn
 Vh:=fo
 bq:=fi
 fk:=fk
 kept:=Yg
 cells:=fun x hx=>by rw[W7 hx];exact⟨by decide,by decide⟩
 QY:=by show(Ek f.cells (0:Int)).length<=64;rw[IY];exact lc
 vals:=fun x hx=>by obtain⟨v,_,rfl⟩:=Fv.mp hx;exact wk _
 Gm:=by show(f.values.map _).length<=64;rw[A8];exact lv
 zone0:=Xq<|CC lt<|by decide
 zone1:=Xq<|by decide
 units:=u
 dots:=hd
section
variable{g:B4}{v:Var}{m:Ht.M}{om oc od:HO}
theorem R.pZ(h:R K A W g v m H)(hm:W mo=some om)(hc:W ca=some oc/\W dd=some od){o:HO}(e:want A g v m t=some (a,o)):wo mo ca dd H a=some o:=Ye (h.at_ e) (h.Q3 e hm).symm (h.Q3 e hc.1).symm (h.Q3 e hc.2).symm
noncomputable def AEv(g:B4)(v:Var)(m:Ht.M)(z:Nat):QI:=⟨g.pp z,g.pd z,v.lo z,v.ln z,(m.zone z).was,(m.zone z).at_,fun i=>AD<|(m.zone z).mark i⟩
theorem R.Zv(h:R K A W g v m H)(hm:W mo=some om)(hc:W ca=some oc/\W dd=some od)(hz:z<2):uE A (wo mo ca dd H) (g.zl z) (AEv g v m z) (m.zone z) where
 at_:=h.pZ hm hc (t:= .zl z)<|by simp only[want];rw[AI hz];rfl
 pts:=fun i hi=>by
  have e1:want A g v m (.pt z i)=some (g.pp z i,.ins (A.cl 3) (g.pd z i)<|Na (v.lo z i) (v.ln z i)<|AD<|(m.zone z).mark i):=by simp only[want];rw[AI ⟨hz,hi⟩]
  have e2:want A g v m (.po z i)=some (v.lo z i,.lst<|pV<|(m.zone z).was i):=by simp only[want];rw[AI ⟨hz,hi⟩]
  have e3:want A g v m (.pn z i)=some (v.ln z i,.lst<|pV<|(m.zone z).at_ i):=by simp only[want];rw[AI ⟨hz,hi⟩]
  exact⟨h.pZ hm hc e1,h.pZ hm hc e2,h.pZ hm hc e3,h.apart e3 e2<|by intro z;cases z⟩
 uC:=fun i _=>⟨rfl,rfl,rfl⟩
 ZA:=by
  rcases(show z=0\/z=1 by lia)with rfl | rfl
  ·exact h.good.zone0.ZA
  ·exact h.good.zone1.ZA
theorem Good.kg(h:Good K W g v m):iK m.kept:=⟨h.least,h.cutin,h.width,h.uP,h.base,h.shift⟩
theorem R.AEF(h:R K A W g v m H)(hm:W mo=some om)(hc:W ca=some oc/\W dd=some od)(un:g.un=f.units)(nc:g.nc=f.cells)(nv:g.nv=f.values.length)(n0:g.n0=f.twilight):iT A (wo mo ca dd H) f (OV m) (.ref g.gr) where
 ex:=by
  have z:=h.Zv hm hc (z:=0)<|by decide
  have e:want A g v m .gr=some (g.gr,.ins (A.cl 6) g.Y_<|rZ g m):=rfl
  refine⟨g.gr,g.Y_,g.cells,g.Cq,g.zl 0,g.zl 1,g.ends,g.kp,g.VR,AEv g v m 0,rfl,⟨?_,h.pZ hm hc (t:= .cells) rfl,h.pZ hm hc (t:= .Cq) rfl,z.at_,z.pts,h.pZ hm hc (t:= .kp) rfl⟩,z.uC⟩
  rw[<-un,<-h.good.un]
  exact h.pZ hm hc e
 dots:=h.good.dots
 cells:=h.good.cells
 nc:=h.good.nc.trans nc
 vals:=h.good.vals
 nv:=h.good.nv.trans nv
 z:=h.good.zone0
 n0:=h.good.n0.trans n0
 kept:=h.good.kg
end
end
end GF
end
section
namespace GF
open PySem PySem.Spec PyProof.Rows L2
variable{P:BH}{w:Ao}{K:AS}{mg:Str->Option AN}{base:Az}{A:B3}[T:Txt K mg A]
section
variable{H0 H H':Hp}{S:SS}{mo md ca cd a l:AK}{o:HO}{xs:List Int}{i n:Nat}{f:D2}
def fA(h: ∀ x∈r,0<=x/\x<=255):TZ (HZ r)=iV r:=by
 unfold TZ HZ iV
 rw[Om]
 refine PM fun x hx=>?_
 obtain⟨h1,h2⟩:=h x hx
 show V.int (AD (UInt8.ofNat x.toNat).toNat)= .int x
 rw[UInt8.toNat_ofNat']
 have:x.toNat%256=x.toNat:=Bu<|by lia
 rw[show(2:Nat)^8=256 from rfl,this,show AD x.toNat=x from Lu h1]
def text_len:(HZ r).length=r.length:=A8 ..
theorem SV: ∀{n:Nat} {m:Ht.M},Ht.run k c n m= .fault fl told->told.length=4
 | 0,m,h=>by cases h;rfl
 | n+1,m,h=>by
  rw[SG]at h
  split at h
  ·cases h
  ·split at h
   ·cases h;rfl
   ·exact SV h
def PN{l:List Nat}:XW l=iV (l.map AD):=by unfold XW iV;rw[Om];rfl
def k9(b: ¬ 2048<c.length)(e:Ht.runAll .font ⟨c,c⟩ (PH f)= .done m):Bh f (.font c)=({f with font:=c,funs:=m.funs,size:=none,shape:=none},O3):=by
 have b': ¬ Cy f (.font c)=true:=fun y=>b<|An y
 unfold Bh
 rw[AG b']
 simp only[e,PR]
def kr(b: ¬ 2048<c.length)(e:Ht.runAll .font ⟨c,c⟩ (PH f)= .fault k told):Bh f (.font c)=(f,.refused<|-5::(k::told).map AD):=by
 have b': ¬ Cy f (.font c)=true:=fun y=>b<|An y
 unfold Bh
 rw[AG b']
 simp only[e,PR]
 rfl
def uT{p dx gr dg kp dk CL C1 refs Bj cl kk tw ol en:AK}{x y z w:V}:sRn A (sG0 A S f d kk cl tw C gr dg ol en kp dk) p dx kd x y z w CL C1 refs Bj .rest en (.lst []):=
 Dq rfl (.inr ⟨nofun,.inr ⟨nofun,.inr ⟨rfl,rfl,rfl⟩⟩⟩)
def eX (TD:Ku P w K A):O0 P w base 12 185 ["machine","calls"] (Fw K A 2):=by
 refine T.T9.F.DQ ["machine","calls","code","functions","fault"] fun H vs Q E hr h=>?_
 obtain⟨dd,od,mo,md,ca,cd,a,xs,i,f,tc,fo,fu,sz,sh,c,t,rfl,h,hi,hcall,hask,q⟩:=h
 refine⟨_,(AB (AO 2<|BI AV C4 T.DU)<|AB (Aq (A0 DE (Dc T.k.CD<|Af Aj)<|Bt T.k.Lb) (AF<|AY<|Ba<|Af<|Bt T.k.C6) AX)<|AB (AO 3 Xu)<|AB (AO 4<|Ah (Np TD) T.Sy<|Af<|GJ T.c.uv NU (hr.mono<|by decide) rfl T.c.w_ T.Ry.2 .nil Gn<|Cs (Bt T.k.jr)<|Rp (Ah Sd T.Tt<|Ax AH AE) Aj Aj A6)<|AB (Aq (A0 DE (Dc T.k.CD<|Af CG) AE) (AF<|AY<|AU UI (Ba<|Af<|Bt T.k.IH) CG) AX)<|AB (BC AH Aj)<|AB (BC AH A6)<|AB (Ad<|Ah JX T.KN<|Af AH)<|AF<|AY<|Ba<|Af<|Bt T.k.JW),?_⟩
 obtain⟨hl,ys,er,rfl⟩:=call_of rfl hcall
 rw[FH]at er
 obtain⟨ra,ta,zsa,era,esa,rfl⟩:=FF er
 obtain⟨ma,ema,lea,rfl,rfl⟩:=T_ era
 cases (esa)
 have hx:Im [[2],(xs.drop<|i+1).take ma]=some (.font<|HZ<|(xs.drop<|i+1).take ma):=rfl
 refine⟨h.hc,rfl,h.rr ema lea fun l1 H1 h1 s1 r1 f1=>⟨.inl<|BF.of<|CS _ _ r1,?_⟩⟩
 have tb:=fA<|all_range<|hask
 rw[D7,<-(text_len (r:=(xs.drop<|i+1).take ma))]
 rw[<-tb]at r1
 obtain⟨co,eco⟩: ∃ co,co=HZ ((xs.drop (i+1)).take ma):=⟨_,rfl⟩
 rw[<-eco]at hx r1 ⊢
 refine A7 (fun b1=>⟨(show 1<=sizeLine by decide),fun l2 hl2=>q.fin (ys:= [-1]) h1 s1 hl2 (Jb hx<|Av<|BQ.mp<|An b1) (by lia) lea rfl<|by decide⟩) fun b1=>?_
 have c1: ¬ 2048<co.length:=fun z=>b1<|Av<|BQ.mpr z
 refine fun fn hfn=>?_
 have mf:=h1.mf
 refine⟨H1,_,mo,md,tc,fo,fu,sz,sh,f,0,rfl,by decide,mf.units,mf.Gm,mf.cl,mf.tw,h1.hm,CS _ _ mf.tc,(Nw.nil (H:=H1)).put (t:= .fn) (o:= .dK []) hfn,fun kk cl tw C gr dg ol en kp dk H2 zc n2=>?_⟩
 intro p dx np ndx ne
 refine⟨H1,_,p,dx,.font,_,_,_,_,rfl,((n2.Zn ndx).put<|(AQ ne.symm).trans np),fun CL C1 refs Bj H3 n3=>⟨rfl,?_⟩⟩
 refine⟨_,_,_,_,rfl,R.begin_ (K:=K) n3 (bg0 (kd:= .font) (funs:= []) (b:=true) (own:=l1) (font:=l1) (fn:=fn) (BU:= []) zc (fun _=>B0) fun _=>rfl) (OH rfl)<|good0 (c:=⟨co,co⟩) (Bk n3<|CS _ _ r1) (Bk n3<|CS _ _ r1) (Ec c1) (Ec c1) (Xb n3 uT) (fun z=>absurd rfl z) ku (fun _ z=>absurd z<|Ir) (fun _=>⟨rfl,rfl⟩) mf.cl mf.Gm mf.tw mf.units<|B6 _,(fun m' er pl b W' v' H' l sw wl r' el=>?_),(fun fl told er pl b W' v' m' H' l sw wl r' el=>?_)⟩
 ·have re:Ht.runAll .font ⟨co,co⟩ (PH f)= .done m':=by rw[pX mf.units.1];exact er
  have sH:Bc H1 H':=fun b o z=>r'.sub _ _<|sw _ _<|Bk n3 z
  have hl':=r'.sub _ _ el
  refine⟨.inl<|BF.of hl',?_⟩
  have h4:=h1.grow sH
  have k:=h4.ml
  refine⟨k.hm,Ap,(B8 rfl),?_⟩
  replace k:=k.set<|Wn f.units f.twilight f.cells tc l1 fu sz sh
  refine⟨k.hm,Ap,(B8 rfl),?_⟩
  replace k:=k.set<|Wn f.units f.twilight f.cells tc l1 fn sz sh
  refine⟨mo,md,_,_,_,_,_,_,_,_,rfl,k.hm,?_⟩
  replace k:=k.set<|Wn f.units f.twilight f.cells tc l1 fn .non .non
  refine⟨(by decide),fun l9 hl9=>?_⟩
  have sW:=DD (mo:=mo) (ca:=ca) (dd:=dd) sH
  exact q.fin (ys:= [0]) (g:={f with font:=co,funs:=m'.funs,size:=none,shape:=none}) (k.ms (f:={f with font:=co,funs:=m'.funs,size:=none,shape:=none}) ⟨h4.mf.tc,sW _ _ r1,⟨v'.BU,r'.pZ (sw _ _<|Bk n3 h1.hm) (Vw (sw _ _<|Bk n3 h1.hc)<|sw _ _<|Bk n3 h1.hd) (t:= .fn) rfl,r'.good.Vh⟩,r'.good.bq,Ec c1,mf.Gm,mf.vals,mf.units,mf.tw,mf.cl,.inl ⟨rfl,rfl⟩,.inl ⟨rfl,rfl⟩⟩) (bA (s1.trans sW) k.w) hl9 (C2 hx<|k9 c1 re) (by lia) lea rfl<|by decide
 ·have re:Ht.runAll .font ⟨co,co⟩ (PH f)= .fault fl told:=by rw[pX mf.units.1];exact er
  have sH:Bc H1 H':=fun b o z=>r'.sub _ _<|sw _ _<|Bk n3 z
  have hl':=r'.sub _ _ el
  have tl:=SV er
  refine⟨.inl<|BF.of hl',A7 (fun _=>?_) fun z=>absurd (Av<|BQ.mpr<|Oj _) z⟩
  refine⟨(by decide),fun l2 n2=>?_⟩
  have s2:=Bw (o:= .lst [.int<|-5]) n2
  refine⟨_,_,_,_,rfl,rfl,AJ,s2 _ _ hl',(by rw[PN,D7,A8];show 1+(told.length+1)<=sizeLine;rw[tl];decide),fun l3 n3=>?_⟩
  rw[PN]
  exact q.fin ((h1.grow sH).grow s2) (s1.trans<|DD<|sH.trans s2) n3 (C2 hx<|kr c1 re) (by lia) lea rfl<|by show((fl::told).map AD).length+1<=200;rw[A8];show told.length+1+1<=200;rw[tl];decide
end
section
variable{H0 H H':Hp}{S:SS}{mo md ca cd a l:AK}{o:HO}{xs:List Int}{i n:Nat}{f:D2}
def S9:Cy f (.size d c)=(decide (d<1)||(decide (1000<d)||decide (2048<c.length))):=rfl
def jw(b: ¬ Cy f (.size d c)=true)(e:Ht.runAll .size ⟨c,f.font⟩ (oZ f d)= .done m):Bh f (.size d c)=({f with size:=some<|OV m,shape:=none},O3):=by
 unfold Bh
 rw[AG b]
 simp only[e,PR]
def kn(b: ¬ Cy f (.size d c)=true)(e:Ht.runAll .size ⟨c,f.font⟩ (oZ f d)= .fault k told):Bh f (.size d c)=(f,.refused<|-5::(k::told).map AD):=by
 unfold Bh
 rw[AG b]
 simp only[e,PR]
 rfl
def cI (TD:Ku P w K A):O0 P w base 12 186 ["machine","calls"] (Fw K A 3):=by
 refine T.Tq.F.DQ ["machine","calls","dots","code","ground","fault"] fun H vs Q E hr h=>?_
 obtain⟨dd,od,mo,md,ca,cd,a,xs,i,f,tc,fo,fu,sz,sh,c,t,rfl,h,hi,hcall,hask,q⟩:=h
 refine⟨_,(AB (AO 2<|BI AV As T.A3)<|AB (AO 3<|BI AV C4 T.DU)<|AB (Aq (PW.pt<|Gg (A0 Dn Aj AE)<|Gg (A0 DE Aj AE)<|GZ<|A0 DE (Dc T.k.CD<|Af A6)<|Bt T.k.Lb) (AF<|AY<|Ba<|Af<|Bt T.k.C6) AX)<|AB (AO 4<|Ah Sd T.Tt<|Ax AH Aj)<|AB (AO 5<|Ah (Np TD) T.Sy<|Af<|GJ T.c.uv NU (hr.mono<|by decide) rfl T.c.w_ T.Ry.2 .nil Gn<|Cs (Bt T.k.wX)<|Rp CG A6 (AR AH)<|AR AH)<|AB (Aq (A0 DE (Dc T.k.CD<|Af ES) AE) (AF<|AY<|AU UI (Ba<|Af<|Bt T.k.IH) ES) AX)<|AB (BC AH CG)<|AB (BC AH Y1)<|AF<|AY<|Ba<|Af<|Bt T.k.JW),?_⟩
 obtain⟨hl,ys,er,rfl⟩:=call_of rfl hcall
 have hl2:i+1<=xs.length:=by rw[G3]at hl;lia
 rw[FD]at er
 obtain⟨ra,ta,zsa,era,esa,rfl⟩:=FF er
 obtain⟨ma,ema,lea,rfl,rfl⟩:=T_ era
 cases (esa)
 obtain⟨x0,e0⟩:=Ew (xs:=xs) (i:=i+0)<|by lia
 rw[gY hl<|IS.trans e0]at hask q
 have ha:=DB<|hask
 obtain⟨d,rfl,_⟩:=xf ha.1
 have hx:Im [[3,AD d],(xs.drop<|i+1+1).take ma]=some (.size d<|HZ<|(xs.drop<|i+1+1).take ma):=rfl
 refine⟨h.hc,rfl,h.rn e0 fun H0 h0 w0=>⟨h0.hc,rfl,h0.rr ema lea fun l1 H1 h1 s1 r1 f1=>?_⟩⟩
 have tb:=fA<|all_range ha.2
 have tln:=text_len (r:=(xs.drop<|i+1+1).take ma)
 rw[<-tb]at r1
 obtain⟨co,eco⟩: ∃ co,co=HZ ((xs.drop (i+1+1)).take ma):=⟨_,rfl⟩
 rw[<-eco]at hx r1 tln
 have sm:Bc (wo mo ca dd H) (wo mo ca dd H1):=by rw[<-w0];exact s1
 have bad:Cy f (.size d co)=true-> ∀ l,H1 l=none->Q (.ref l) (upd H1 l<|.lst [.int<|-1]):=fun b l hl=>q.fin h1 sm hl (Jb hx b) (by lia) lea rfl<|by decide
 refine A7 (fun b1=>⟨(show 1<=sizeLine by decide),fun l hl=>bad (by rw[S9];exact jR<|Av<|BQ.mp<|An b1) l hl⟩) fun b1=>?_
 refine A7 (fun b2=>⟨(show 1<=sizeLine by decide),fun l hl=>bad (by rw[S9];exact Qp<|jR<|Av<|BQ.mp<|An b2) l hl⟩) fun b2=>?_
 refine⟨.inl<|BF.of<|CS _ _ r1,?_⟩
 have bln:(TZ co).length=co.length:=A8 ..
 rw[bln]
 refine A7 (fun b3=>⟨(show 1<=sizeLine by decide),fun l hl=>bad (by rw[S9];exact Qp<|Qp<|Av<|BQ.mp<|An b3) l hl⟩) fun b3=>?_
 have c1: ¬ d<1:=fun z=>b1<|Av<|BQ.mpr z
 have c2: ¬ 1000<d:=fun z=>b2<|Av<|BQ.mpr z
 have c3: ¬ 2048<co.length:=fun z=>b3<|Av<|BQ.mpr z
 have good: ¬ Cy f (.size d co)=true:=by rw[S9,D5 c1,D5 c2,D5 c3];decide
 have mf:=h1.mf
 obtain⟨BU,hfu,fof⟩:=mf.fu
 refine⟨H1,_,mo,md,tc,fo,fu,sz,sh,f,d,rfl,Ec c2,mf.units,mf.Gm,mf.cl,mf.tw,h1.hm,CS _ _ mf.tc,Nw.nil,fun kk cl tw C gr dg ol en kp dk H2 zc n2=>⟨(n2.same _ _ h1.hm),Ap,rfl,(n2.same _ _ h1.hm),Ap,rfl,?_⟩⟩
 intro p dx np ndx ne
 refine⟨H1,_,p,dx,.size,_,_,_,_,rfl,((n2.Zn ndx).put<|(AQ ne.symm).trans np),fun CL C1 refs Bj H3 n3=>⟨rfl,?_⟩⟩
 refine⟨_,_,_,_,rfl,R.begin_ (K:=K) n3 (bg0 (kd:= .size) (funs:=f.funs) (b:=false) (own:=l1) (font:=fo) (fn:=fu) (BU:=BU) zc nofun nofun) (OH rfl)<|good0 (c:=⟨co,f.font⟩) (Bk n3<|CS _ _ r1) (Bk n3<|CS _ _ mf.fo) (Ec c3) mf.IT (Xb n3 uT) (fun _=>Bk n3<|CS _ _ hfu) fof mf.fin nofun mf.cl mf.Gm mf.tw mf.units (Ec c2),(fun m' er pl b W' v' H' l sw wl r' el=>?_),(fun fl told er pl b W' v' m' H' l sw wl r' el=>?_)⟩
 ·have re:=er
  have sH:Bc H1 H':=fun b o z=>r'.sub _ _<|sw _ _<|Bk n3 z
  have hl':=r'.sub _ _ el
  refine⟨.inl<|BF.of hl',?_⟩
  have h4:=h1.grow sH
  have k:=h4.ml
  refine⟨k.hm,Ap,(B8 rfl),?_⟩
  replace k:=k.set<|Wn f.units f.twilight f.cells tc fo fu (.ref gr) sh
  refine⟨k.hm,Ap,(B8 rfl),?_⟩
  replace k:=k.set<|Wn f.units f.twilight f.cells tc fo fu (.ref gr) .non
  refine⟨(by decide),fun l9 hl9=>?_⟩
  have mf4:=h4.mf
  have szk:=r'.AEF (sw _ _<|Bk n3 h1.hm) (Vw (sw _ _<|Bk n3 h1.hc)<|sw _ _<|Bk n3 h1.hd) rfl (IY ..) (A8 ..) Ln
  have szk2:iT A (wo mo ca dd H') {f with size:=some<|OV m',shape:=none} (OV m') (.ref gr):=⟨szk.ex,szk.dots,szk.cells,szk.nc,szk.vals,szk.nv,szk.z,szk.n0,szk.kept⟩
  exact q.fin (ys:= [0]) (g:={f with size:=some<|OV m',shape:=none}) (k.ms (f:={f with size:=some<|OV m',shape:=none}) ⟨mf4.tc,mf4.fo,mf4.fu,mf.fin,mf.IT,mf.Gm,mf.vals,mf.units,mf.tw,mf.cl,.inr ⟨_,rfl,szk2⟩,.inl ⟨rfl,rfl⟩⟩) (bA (sm.trans<|DD (mo:=mo) (ca:=ca) (dd:=dd) sH) k.w) hl9 (C2 hx<|jw good re) (by lia) lea rfl<|by decide
 ·have sH:Bc H1 H':=fun b o z=>r'.sub _ _ (sw _ _<|Bk n3 z)
  have hl':=r'.sub _ _ el
  have tl:=SV er
  refine⟨.inl<|BF.of hl',A7 (fun _=>?_) fun z=>absurd (Av<|BQ.mpr<|Oj _) z⟩
  refine⟨(by decide),fun l2 n2=>?_⟩
  have s2:=Bw (o:= .lst [.int<|-5]) n2
  refine⟨_,_,_,_,rfl,rfl,AJ,s2 _ _ hl',(by rw[PN,D7,A8];show 1+(told.length+1)<=sizeLine;rw[tl];decide),fun l3 n3=>?_⟩
  rw[PN]
  exact q.fin ((h1.grow sH).grow s2) (sm.trans<|DD<|sH.trans s2) n3 (C2 hx<|kn good er) (by lia) lea rfl<|by show((fl::told).map AD).length+1<=200;rw[A8];show told.length+1+1<=200;rw[tl];decide
end
end GF
end
section
namespace GF
open PySem PySem.Spec PyProof.Rows L2
section
variable{K:AS}{mg:Str->Option AN}{A:B3}{H0 H H' W:Hp}{S:SS}{f:D2}{mo ca dd:AK}
theorem lJ: ∀{ps:List Int},dS ps=true->ps.length=3*(Gp ps).length/\ ∀ i,i<(Gp ps).length->(Gp ps)[i]?=some (ps.getD (3*i) 0,ps.getD (3*i+1) 0,J9<|ps.getD (3*i+2) 0)/\0<=ps.getD (3*i+2) 0
 | [],_=>⟨rfl,fun i h=>absurd h<|HW _⟩
 | [_],h=>by cases h
 | [_,_],h=>by cases h
 | x::y::k::r,h=>by
  have h:(decide (-32768<=x)&&(decide (x<=32767)&&(decide (-32768<=y)&&(decide (y<=32767)&&(decide (0<=k)&&(decide (k<=255)&&dS r))))))=true:=h
  have h5:=(DB (DB (DB (DB h).2).2).2).2
  have hk:=An (DB h5).1
  obtain⟨i1,i2⟩:=lJ (DB (DB h5).2).2
  refine⟨?_,fun i hi=>?_⟩
  ·show r.length+1+1+1=3*((Gp r).length+1)
   lia
  ·match i with
   | 0=>exact⟨rfl,hk⟩
   | j+1=>
    have hj:j<(Gp r).length:=by
     have:j+1<(Gp r).length+1:=hi
     lia
    have e0:3*(j+1)=3*j+1+1+1:=by lia
    have e1:3*(j+1)+1=3*j+1+1+1+1:=by lia
    have e2:3*(j+1)+2=3*j+2+1+1+1:=by lia
    rw[e1,e2,e0]
    exact i2 j hj
def OE:(GX f d g).size=g.points.length:=A8 ..
def getD_map{l:List α}{g:α->β}{x:α}{y:β}(h:l[i]?=some x):(l.map g).getD i y=g x:=by
 rw[Cc,CZ,h]
 rfl
def sA(hp:dS ps=true)(io:mj f.units d ps C (Gp ps).length):t7 C (GX f d ⟨Gp ps,es,co⟩):=fun i hi=>by
 rw[OE]at hi
 obtain⟨e,pos⟩:=(lJ hp).2 i hi
 obtain⟨a,b,c⟩:=io i hi
 refine⟨a.trans<|(getD_map (g:=fun p:Int×Int×Nat=>(Ht.scaled f.units d p.1,Ht.scaled f.units d p.2.1)) (y:=(0,0)) e).symm,b.trans<|(getD_map (g:=fun p:Int×Int×Nat=>(Ht.scaled f.units d p.1,Ht.scaled f.units d p.2.1)) (y:=(0,0)) e).symm,c.trans ?_⟩
 ·show _=AD (((Gp ps).map fun p=>p.2.2%2).getD i 0)
  rw[getD_map e]
  show _=((J9 (ps.getD (3*i+2) 0)%2:Nat):Int)
  unfold J9
  lia
theorem iu(h:g.points.length<=64):Kw (GX f d g) where
 lo:=rfl
 lm:=by show(g.points.map _).length=(g.points.map _).length;simp only[A8]
 ZA:=by show(g.points.map _).length<=64;rw[A8];exact h
 org:=fun x hx=>by obtain⟨v,_,rfl⟩:=Fv.mp hx;exact⟨Dk _,Dk _⟩
 now:=fun x hx=>by obtain⟨v,_,rfl⟩:=Fv.mp hx;exact⟨Dk _,Dk _⟩
 marks:=fun x hx=>by obtain⟨v,_,rfl⟩:=Fv.mp hx;show v.2.2%2<8;lia
theorem bG: ∀{es:List Nat},Ft es=true->(∀ e∈es,e<n)->N7 n es
 | [],_,_=>trivial
 | [a],_,h=>h a<|bp.mpr rfl
 | a::b::l,r,h=>by
  have r:(decide (a<b)&&Ft (b::l))=true:=r
  exact⟨An (DB r).1,bG (DB r).2 fun e he=>h e<|Cz _ he⟩
def Wd:fit n (-1) es=true↔Ft es=true/\ ∀ e∈es,e<n:=by
 rw[o7]
 exact⟨fun h=>h.2,fun h=>⟨fun e _=>by show(-1:Int)<(e:Int);lia,h⟩⟩
theorem AAR:(!Ft es||es.any fun e=>decide (n<=e))=!fit n (-1) es:=by
 cases q:fit n (-1) es with
 | true=>
  obtain⟨a,b⟩:=Wd.mp q
  rw[a]
  show(es.any fun e=>decide (n<=e))=false
  rw[b_]
  intro e he z
  exact absurd (An z)<|by have:=b e he;lia
 | false=>
  cases r:Ft es with
  | false=>rfl
  | true=>
   cases s:es.any fun e=>decide (n<=e)with
   | true=>rfl
   | false=>
    have:=Wd.mpr ⟨r,fun e he=>by
     exact ee fun y=>(b_.mp s e he)<|Av y⟩
    rw[q]at this
    cases this
def r9:Cy f (.shape g)=(decide (64<g.points.length)||(decide (8<g.ends.length)||(decide (2048<g.code.length)||!fit g.points.length (-1) g.ends))):=by
 rw[<-AAR]
 rfl
theorem uJ: ∀{r:List Int},(∀ x∈r,0<=x)->iV r=XW (r.map J9)
 | [],_=>rfl
 | x::r,h=>by
  show V.int x::iV r=V.int (AD x.toNat)::XW (r.map J9)
  rw[uJ fun y hy=>h y<|Cz _ hy,show AD x.toNat=x from Lu<|h x<|Dx ..]
def AEq{r:List Int}(h:r.all fb=true): ∀ x∈r,0<=x:=fun x hx=>by
 obtain⟨n,rfl,_⟩:=xf<|GB.mp h x hx
 exact FP n
def gT(b: ¬ Cy f (.shape g)=true)(e:f.size=none):Bh f (.shape g)=(f,Wa<|-2):=by
 unfold Bh
 rw[AG b]
 simp only[e]
def ir(b: ¬ Cy f (.shape g)=true)(e:f.size=some s)(st:s.still=true):Bh f (.shape g)=({f with shape:=some (s.zone0,GX f s.dots g)},O3):=by
 unfold Bh
 rw[AG b]
 simp only[e,st,D6]
def ie(b: ¬ Cy f (.shape g)=true)(e:f.size=some s)(st:s.still=false)(r:Ht.runAll .shape ⟨g.code,f.font⟩ (J0 f s g)= .done m):
  Bh f (.shape g)=({f with shape:=some (m.zone0,m.zone1)},O3):=by
 unfold Bh
 rw[AG b]
 simp only[e,st,Wx,FJ,r,PR]
def iW(b: ¬ Cy f (.shape g)=true)(e:f.size=some s)(st:s.still=false)(r:Ht.runAll .shape ⟨g.code,f.font⟩ (J0 f s g)= .fault k told):
  Bh f (.shape g)=(f,.refused<|-5::(k::told).map AD):=by
 unfold Bh
 rw[AG b]
 simp only[e,st,Wx,FJ,r,PR]
 rfl
theorem Nw.pZ(n:Nw H0 H S)(hm:H0 mo=some om)(hc:H0 ca=some oc/\H0 dd=some od)(h:S t a o):wo mo ca dd H a=some o:=
 Ye (n.at_ _ _ _ h).1 (Ac hm (n.at_ _ _ _ h).2).symm (Ac hc.1 (n.at_ _ _ _ h).2).symm (Ac hc.2 (n.at_ _ _ _ h).2).symm
theorem Nw.Zv(n:Nw H0 H S)(hm:H0 mo=some om)(hc:H0 ca=some oc/\H0 dd=some od)(hz:S (.zl z) a (.lst<|refsOf C y.size))(hp: ∀ t a o,Gs A z y.size C t a o->S t a o)(uC:t7 C y)(ZA:y.size<=64):uE A (wo mo ca dd H) a C y where
 at_:=n.pZ hm hc hz
 pts:=fun i hi=>by
  have e1:=hp _ _ _ ⟨i,hi,.inl ⟨rfl,rfl,rfl⟩⟩
  have e2:=hp _ _ _ ⟨i,hi,.inr<|.inl ⟨rfl,rfl,rfl⟩⟩
  have e3:=hp _ _ _ ⟨i,hi,.inr<|.inr ⟨rfl,rfl,rfl⟩⟩
  refine⟨n.pZ hm hc e1,n.pZ hm hc e2,n.pZ hm hc e3,fun q=>?_⟩
  rw[q]at e2
  exact absurd (n.one _ _ _ _ _ e2 e3)<|by intro z;cases z
 uC:=uC
 ZA:=ZA
noncomputable def xj(A:B3)(f:D2)(s:eR)(lo le:AK)(C D:QI)(n:Nat)(gr dg cl kk tw kp dk ol1 en1:AK):SS:=
 sGs A (Ca (R8 ADV<|Gs A 1 n C) (.zl 1) lo<|.lst<|refsOf C n) gr dg (.int<|AD f.units) (.int<|AD s.dots) cl kk tw (.ref lo) (.ref le) kp dk (if bI s.plain=0 then s.kept else Ht.usual) (iV s.cells) (iV s.values) D s.zone0.size ol1 en1
section
variable{s:eR}{lo le:AK}{C D:QI}{n:Nat}{gr dg cl kk tw kp dk ol1 en1:AK}
def wM:xj A f s lo le C D n gr dg cl kk tw kp dk ol1 en1 .gr gr (.ins (A.cl 6) dg<|grV (.int<|AD f.units) (.int<|AD s.dots) cl kk tw lo le kp 0 0):=B0
def ACJ:xj A f s lo le C D n gr dg cl kk tw kp dk ol1 en1 .kp kp (.ins (A.cl 5) dk<|RR<|if bI s.plain=0 then s.kept else Ht.usual):= .inr ⟨nofun,B0⟩
def wg:xj A f s lo le C D n gr dg cl kk tw kp dk ol1 en1 (.zl 0) tw (.lst<|refsOf D s.zone0.size):= .inr ⟨nofun,.inr ⟨nofun,.inl<|.inl B0⟩⟩
def ABA:xj A f s lo le C D n gr dg cl kk tw kp dk ol1 en1 .cells cl (.lst<|iV s.cells):= .inr ⟨nofun,.inr ⟨nofun,.inl<|.inl<|.inr ⟨nofun,.inl<|.inr ⟨nofun,B0⟩⟩⟩⟩
def ACq:xj A f s lo le C D n gr dg cl kk tw kp dk ol1 en1 .Cq kk (.lst<|iV s.values):= .inr ⟨nofun,.inr ⟨nofun,.inl<|.inl<|.inr ⟨nofun,.inl B0⟩⟩⟩
def ue:xj A f s lo le C D n gr dg cl kk tw kp dk ol1 en1 (.zl 1) lo (.lst<|refsOf C n):= .inr ⟨nofun,.inr ⟨nofun,.inl<|.inl<|.inr ⟨nofun,.inl<|.inr ⟨nofun,.inr ⟨nofun,B0⟩⟩⟩⟩⟩
def ua(h:Gs A 0 s.zone0.size D t a o):xj A f s lo le C D n gr dg cl kk tw kp dk ol1 en1 t a o:=by
 have i:=S_ h
 exact .inr ⟨My i rfl,.inr ⟨My i rfl,.inl<|.inl<|.inr ⟨My i rfl,.inr h⟩⟩⟩
def wA(h:Gs A 1 n C t a o):xj A f s lo le C D n gr dg cl kk tw kp dk ol1 en1 t a o:=by
 have i:=S_ h
 exact .inr ⟨My i rfl,.inr ⟨My i rfl,.inl<|.inl<|.inr ⟨My i rfl,.inl<|.inr ⟨My i rfl,.inr ⟨My i rfl,.inr ⟨My i rfl,.inr h⟩⟩⟩⟩⟩⟩
def AAS:(if bI s.plain=0 then s.kept else Ht.usual)=if s.plain=true then Ht.usual else s.kept:=by
 cases s.plain<;>rfl
def vV(al:alike D B s.zone0.size)(uC:t7 B s.zone0):t7 D s.zone0:=fun i hi=>by
 obtain⟨a,b,c⟩:=al i hi
 obtain⟨a',b',c'⟩:=uC i hi
 exact⟨a.trans a',b.trans b',c.trans c'⟩
theorem bgS{p dx CL C1 refs Bj fn own font:AK}(hn:n=(GX f s.dots g).size)(i0:t7 D s.zone0)(i1:t7 C (GX f s.dots g)):
  Bg A (sRn A (xj A f s lo le C D n gr dg cl kk tw kp dk ol1 en1) p dx .shape (.ref gr) (.ref font) (.ref fn) (.ref own) CL C1 refs Bj) .shape (J0 f s g) p dx gr dg kp dk CL C1 refs Bj cl kk le fn own font tw lo D C BU where
 run:=B0
 gr:=Dq rfl wM
 kp:=by
  show sRn A _ p dx .shape _ _ _ _ CL C1 refs Bj .kp kp (.ins (A.cl 5) dk<|RR<|if s.plain=true then Ht.usual else s.kept)
  rw[<-AAS]
  exact Dq rfl ACJ
 CL:= .inr ⟨nofun,.inr ⟨nofun,.inr ⟨nofun,.inr ⟨nofun,B0⟩⟩⟩⟩
 C1:= .inr ⟨nofun,.inr ⟨nofun,.inr ⟨nofun,B0⟩⟩⟩
 refs:= .inr ⟨nofun,.inr ⟨nofun,B0⟩⟩
 Bj:= .inr ⟨nofun,B0⟩
 cl:=Dq rfl ABA
 kk:=Dq rfl ACq
 fn:=nofun
 z0:=Dq rfl wg
 z1:=by
  show sRn A _ p dx .shape _ _ _ _ CL C1 refs Bj (.zl 1) lo (.lst<|refsOf C (GX f s.dots g).size)
  rw[<-hn]
  exact Dq rfl ue
 p0:=fun t a o h=>Dq (uH<|S_ h)<|ua h
 p1:=fun t a o h=>by
  have h:Gs A 1 (GX f s.dots g).size C t a o:=h
  rw[<-hn]at h
  exact Dq (uH<|S_ h)<|wA h
 i0:=i0
 i1:=i1
 fo:=nofun
end
theorem AEb(h1:W own=some (.lst<|TZ g.code))(h2:W font=some (.lst<|TZ f.font))(l1:g.code.length<=2048)(l2:f.font.length<=2048)(he:W le=some (.lst<|XW g.ends))(l3:g.ends.length<=8)(l4:g.points.length<=64)
  (fi:fit g.points.length (-1) g.ends=true) (hfn:W fn=some (.dK BU)) (fo:ZP BU f.funs) (fin: ∀ x∈f.funs,x.2<=f.font.length) (lc:f.cells<=64) (lv:f.values.length<=64) (u:16<=f.units/\f.units<=16384) (ok:iT A H f s sz):
  i6 W .shape ⟨g.code,f.font⟩ (J0 f s g) le fn own font BU where
 down:=h1
 vU:=h2
 ba:=l1
 IT:=l2
 ends:=he
 iM:=l3
 LK:=by
  show N7 (GX f s.dots g).size g.ends
  rw[OE]
  exact bG (Wd.mp fi).1 (Wd.mp fi).2
 fns:=fun _=>hfn
 Vh:=fo
 bq:=fin
 fk:=nofun
 kept:=by
  show iK (if s.plain=true then Ht.usual else s.kept)
  split
  ·exact Yg
  ·exact ok.kept
 cells:=ok.cells
 QY:=by rw[show(J0 f s g).cells.length=f.cells from ok.nc];exact lc
 vals:=ok.vals
 Gm:=by rw[show(J0 f s g).values.length=f.values.length from ok.nv];exact lv
 zone0:=ok.z
 zone1:=iu l4
 units:=u
 dots:=ok.dots
end
end GF
end
section
namespace GF
open PySem PySem.Spec PyProof.Rows L2
variable{P:BH}{w:Ao}{K:AS}{mg:Str->Option AN}{base:Az}{A:B3}[T:Txt K mg A]
section
variable{H0 H H':Hp}{S:SS}{mo md ca cd a l:AK}{o:HO}{xs:List Int}{i n:Nat}{f:D2}
def AEB:BN ((3*n:Nat):Int) 3=AD n:=by
 rw[GD _<|by decide]
 lia
def Zd (TD:Ku P w K A):O0 P w base 12 189 ["machine","calls"] (Fw K A 4):=by
 refine T.Qt.F.DQ ["machine","calls","points","ends","code","point_count","ground","fault"] @fun _ _ _ s H vs Q E hr h=>?_
 obtain⟨dd,od,mo,md,ca,cd,a,xs,i,f,tc,fo,fu,sz,sh,c,t,rfl,h,hi,hcall,hask,q⟩:=h
 refine⟨_,(AB (AO 2<|BI AV C4 T.DU)<|AB (AO 3<|BI AV C4 T.DU)<|AB (AO 4<|BI AV C4 T.DU)<|AB (AO 5<|AU Bm (Dc T.k.CD<|Af Aj) AE)<|AB (Aq (PW.pt<|Gg (A0 DE ES AE)<|Gg (A0 DE (Dc T.k.CD<|Af A6) AE)<|Gg (A0 DE (Dc T.k.CD<|Af CG)<|Bt T.k.Lb)<|GZ<|we<|MV<|Ah gK T.gX<|Ax A6 ES) (AF<|AY<|Ba<|Af<|Bt T.k.C6) AX)<|AB (Aq (Kd<|Ke<|AR AH) (AF<|AY<|Ba<|Af<|Bt T.k.Fu) AX)<|AB (AO 6<|Ah Po T.Ky<|CH (AR AH) (Ah ZH T.YV<|Ax (AR AH) Aj) A6)<|AB (Aq (A0 BD (AR<|AR AH) AE) (AB (AO 7<|Ah (Np TD) T.Sy<|Af<|GJ T.c.uv NU (hr.mono<|by decide) rfl T.c.w_ T.Ry.2 .nil Gn<|Cs (Bt T.k.zK)<|Rp (pv 6) CG (AR AH)<|AR AH)<|AF<|Aq (A0 DE (Dc T.k.CD<|Af<|pv 7) AE) (AF<|AY<|AU UI (Ba<|Af<|Bt T.k.IH)<|pv 7) AX) AX)<|AB (BC AH<|Iy<|Ax (AR<|pv 6)<|AR<|pv 6)<|AF<|AY<|Ba<|Af<|Bt T.k.JW),?_⟩
 obtain⟨hl,ys,er,rfl⟩:=call_of rfl hcall
 rw[FH]at er
 obtain⟨ra,ta,zsa,era,esa,rfl⟩:=FF er
 obtain⟨ma,ema,lea,rfl,rfl⟩:=T_ era
 obtain⟨rb,tb,zsb,erb,esb,rfl⟩:=FF esa
 obtain⟨mb,emb,leb,rfl,rfl⟩:=T_ erb
 obtain⟨rc,tc,zsc,erc,esc,rfl⟩:=FF esb
 obtain⟨mc,emc,lec,rfl,rfl⟩:=T_ erc
 cases (esc)
 obtain⟨pr,epr⟩: ∃ pr,pr=(xs.drop (i+1)).take ma:=⟨_,rfl⟩
 obtain⟨en,een⟩: ∃ en,en=(xs.drop (i+1+ma+1)).take mb:=⟨_,rfl⟩
 obtain⟨cr,ecr⟩: ∃ cr,cr=(xs.drop (i+1+ma+1+mb+1)).take mc:=⟨_,rfl⟩
 rw[<-epr,<-een,<-ecr]at q hask
 have ha:=DB<|hask
 have hpo:=ha.1
 have hps:=(lJ hpo).1
 have hx:Im [[4],pr,en,cr]=some (.shape ⟨Gp pr,en.map J9,HZ cr⟩):=rfl
 refine⟨h.hc,rfl,h.rr ema lea fun l1 H1 h1 s1 r1 f1=>⟨h1.hc,rfl,h1.rr emb leb fun l2 H2 h2 s2 r2 f2=>⟨h2.hc,rfl,h2.rr emc lec fun l3 H3 h3 s3 r3 f3=>?_⟩⟩⟩
 rw[<-epr]at r1
 rw[<-een]at r2
 rw[<-ecr]at r3
 replace r1:=s3 _ _<|s2 _ _ r1
 replace r2:=s3 _ _ r2
 have sm:=s1.trans<|s2.trans s3
 rw[uJ<|AEq (DB ha.2).1]at r2
 rw[<-fA (all_range (DB ha.2).2)]at r3
 obtain⟨np_,enp⟩: ∃ n,n=(Gp pr).length:=⟨_,rfl⟩
 obtain⟨g,eg⟩: ∃ g:Wrhint.Given,g=⟨Gp pr,en.map J9,HZ cr⟩:=⟨_,rfl⟩
 have g1:g.points.length=np_:=by rw[eg,enp]
 have g2:g.ends=en.map J9:=by rw[eg]
 have g3:g.code=HZ cr:=by rw[eg]
 rw[<-eg]at hx
 rw[<-g2]at r2
 rw[<-g3]at r3
 have epc:BN ((iV pr).length:Int) 3=AD np_:=by rw[D7,hps,<-enp];exact AEB
 refine⟨.inl<|BF.of<|CS _ _ r1,⟨by decide,by decide⟩,?_⟩
 dsimp only
 rw[epc]
 have bad:Cy f (.shape g)=true-> ∀ l,H3 l=none->Q (.ref l) (upd H3 l<|.lst [.int<|-1]):=fun b l hl=>q.fin h3 sm hl (Jb hx b) (by lia) lec rfl<|by decide
 have bs:Cy f (.shape g)=_:=r9
 rw[g1]at bs
 refine A7 (fun b1=>⟨(show 1<=sizeLine by decide),fun l hl=>bad (bs.trans<|jR<|Av<|BQ.mp<|An b1) l hl⟩) fun b1=>?_
 refine⟨.inl<|BF.of<|CS _ _ r2,?_⟩
 rw[show(XW g.ends).length=g.ends.length from A8 ..]
 refine A7 (fun b2=>⟨(show 1<=sizeLine by decide),fun l hl=>bad (bs.trans<|Qp<|jR<|Av<|BQ.mp<|An b2) l hl⟩) fun b2=>?_
 refine⟨.inl<|BF.of<|CS _ _ r3,?_⟩
 rw[show(TZ g.code).length=g.code.length from A8 ..]
 refine A7 (fun b3=>⟨(show 1<=sizeLine by decide),fun l hl=>bad (bs.trans<|Qp<|Qp<|jR<|Av<|BQ.mp<|An b3) l hl⟩) fun b3=>?_
 refine⟨l2,g.ends,np_,rfl,BF.of<|CS _ _ r2,A7 (fun b4=>⟨(show 1<=sizeLine by decide),fun l hl=>bad (bs.trans<|Qp<|Qp<|Qp b4) l hl⟩) fun b4=>?_⟩
 have c1: ¬ 64<np_:=fun z=>b1<|Av<|BQ.mpr z
 have c2: ¬ 8<g.ends.length:=fun z=>b2<|Av<|BQ.mpr z
 have c3: ¬ 2048<g.code.length:=fun z=>b3<|Av<|BQ.mpr z
 have c4:fit np_ (-1) g.ends=true:=by
  cases e:fit np_ (-1) g.ends with
  | true=>rfl
  | false=>exact absurd (by rw[e];rfl) b4
 have good: ¬ Cy f (.shape g)=true:=by rw[bs,D5 c1,D5 c2,D5 c3,c4];decide
 have mf:=h3.mf
 obtain⟨BU,hfu,fof⟩:=mf.fu
 refine⟨h3.hm,Ap,rfl,?_⟩
 rcases mf.size with⟨e0,rfl⟩ |⟨s,e0,ok⟩
 ·refine ?_
  exact⟨(show 1<=sizeLine by decide),fun l1 n1=>q.fin (ys:= [-2]) h3 sm n1 (C2 hx<|gT good e0) (by lia) lec rfl<|by decide⟩
 obtain⟨za,dz,cl,kk,tw,ol,en0,kp,dk,B,rfl,hz,zi⟩:=ok.ex
 have hz3:=hz.mono CS
 have hn:=Ec c1
 refine⟨h3.hm,Ap,rfl,h3.hm,Ap,rfl,H3,_,za,dz,f.units,s.dots,cl,kk,tw,ol,en0,kp,l1,_,_,pr,np_,rfl,hn,by rw[enp];exact hps,ok.dots,mf.units,hz3.at_,CS _ _ r1,Nw.nil,fun lo C H4 io n4=>⟨H3,_,za,dz,_,_,cl,kk,tw,ol,en0,kp,dk,_,_,iV s.cells,iV s.values,B,s.zone0.size,s.kept,_,_,rfl,ok.z.ZA,by rw[D7,ok.nc];exact mf.cl,by rw[D7,ok.nv];exact mf.Gm,hz3,n4,fun cl' kk' tw' C' gr dg kp' dk' ol1 en1 H5 al n5=>?_⟩⟩
 have io2:mj f.units s.dots pr C (Gp pr).length:=by rw[<-enp];exact io
 have i1:t7 C (GX f s.dots g):=by rw[eg];exact sA hpo io2
 have i0:=vV al zi
 have hzs:np_=(GX f s.dots g).size:=by rw[OE,g1]
 have n5':Nw H3 H5 (xj A f s lo l2 C C' np_ gr dg cl' kk' tw' kp' dk' ol1 en1):=n5
 refine⟨(n5.same _ _ h3.hm),Ap,rfl,n5.same _ _ hz3.at_,AW,rfl,rfl,A7 (fun e=>?_) fun e=>?_⟩
 ·have st0:s.still=false:=by
   cases q:s.still with
   | false=>rfl
   | true=>rw[q]at e;exact absurd e<|by decide
  refine⟨(n5.same _ _ h3.hm),Ap,rfl,(n5.same _ _ h3.hm),Ap,rfl,?_⟩
  intro p dx np ndx ne
  refine⟨H3,_,p,dx,.shape,_,_,_,_,rfl,((n5'.Zn (o:= .own p) ndx).put (t:= .run)<|(AQ ne.symm).trans np),fun CL C1 refs Bj H6 n6=>⟨rfl,?_⟩⟩
  refine⟨_,_,_,_,rfl,R.begin_ (K:=K) n6 (bgS (own:=l3) (font:=fo) (fn:=fu) (BU:=BU) hzs i0 i1) (OH rfl)<|AEb (Bk n6<|CS _ _ r3) (Bk n6<|CS _ _ mf.fo) (Ec c3) mf.IT (Bk n6<|CS _ _ r2) (Ec c2) (by rw[g1];exact hn) (by rw[g1];exact c4) (Bk n6<|CS _ _ hfu) fof mf.fin mf.cl mf.Gm mf.units ok,(fun m' er pl b W' v' H' l sw wl r' el=>?_),(fun fl told er pl b W' v' m' H' l sw wl r' el=>?_)⟩
  ·have re:Ht.runAll .shape ⟨g.code,f.font⟩ (J0 f s g)= .done m':=er
   have sH:Bc H3 H':=fun b o z=>r'.sub _ _<|sw _ _<|Bk n6 z
   have hl':=r'.sub _ _ el
   have wm:=sw _ _<|Bk n6 h3.hm
   have wc:=Vw (sw _ _<|Bk n6 h3.hc)<|sw _ _<|Bk n6 h3.hd
   refine⟨.inl<|BF.of hl',?_⟩
   have h4:=h3.grow sH
   have az0:uE A (wo mo ca dd H') tw' _ m'.zone0:=r'.Zv wm wc (z:=0)<|by decide
   have az1:uE A (wo mo ca dd H') lo _ m'.zone1:=r'.Zv wm wc (z:=1)<|by decide
   have hgr:=r'.at_ (t:= .gr) rfl
   refine⟨hgr,AW,rfl,hgr,AW,rfl,(show 2<=sizeLine by decide),fun tp ntp=>?_⟩
   have st:=Bw (o:= .tup [.ref tw',.ref lo]) ntp
   have k:=(h4.grow st).ml
   refine⟨k.hm,Ap,(B8 rfl),?_⟩
   replace k:=k.set<|Wn f.units f.twilight f.cells tc fo fu (.ref za)<|.ref tp
   refine⟨(show 1<=sizeLine by decide),fun l9 hl9=>?_⟩
   have mf4:=(h4.grow st).mf
   have sW:=DD (mo:=mo) (ca:=ca) (dd:=dd)<|sH.trans st
   exact q.fin (ys:= [0]) (g:={f with shape:=some (m'.zone0,m'.zone1)}) (k.ms (f:={f with shape:=some (m'.zone0,m'.zone1)}) ⟨mf4.tc,mf4.fo,mf4.fu,mf.fin,mf.IT,mf.Gm,mf.vals,mf.units,mf.tw,mf.cl,mf4.size.imp_right fun⟨s,q1,q2⟩=>⟨s,q1,q2.ex,q2.dots,q2.cells,q2.nc,q2.vals,q2.nv,q2.z,q2.n0,q2.kept⟩,.inr ⟨_,tp,_,_,_,_,rfl,rfl,(h4.dm ntp),az0.mono<|DD st,az1.mono<|DD st⟩⟩) (bA (sm.trans sW) k.w) hl9 (C2 hx<|ie good e0 st0 re) (by lia) lec rfl<|by decide
  ·have re:Ht.runAll .shape ⟨g.code,f.font⟩ (J0 f s g)= .fault fl told:=er
   have sH:Bc H3 H':=fun b o z=>r'.sub _ _<|sw _ _<|Bk n6 z
   have hl':=r'.sub _ _ el
   have tl:=SV er
   refine⟨.inl<|BF.of hl',A7 (fun _=>?_) fun z=>absurd (Av<|BQ.mpr<|Oj _) z⟩
   refine⟨(show 1<=sizeLine by decide),fun l4 n4=>?_⟩
   have s4:=Bw (o:= .lst [.int<|-5]) n4
   refine⟨_,_,_,_,rfl,rfl,AJ,s4 _ _ hl',(by rw[PN,D7,A8];show 1+(told.length+1)<=sizeLine;rw[tl];decide),fun l5 n5=>?_⟩
   rw[PN]
   exact q.fin (ys:= -5::(fl::told).map AD) ((h3.grow sH).grow s4) (sm.trans<|DD<|sH.trans s4) n5 (C2 hx<|iW good e0 st0 re) (by lia) lec rfl<|by show((fl::told).map AD).length+1<=200;rw[A8];show told.length+1+1<=200;rw[tl];decide
 ·have st0:s.still=true:=by
   cases q:s.still with
   | true=>rfl
   | false=>rw[q]at e;exact absurd rfl e
  have sH:Bc H3 H5:=n5'.same
  have h4:=h3.grow sH
  have az0:uE A (wo mo ca dd H5) tw' C' s.zone0:=n5'.Zv h3.hm ⟨h3.hc,h3.hd⟩ (z:=0) wg (fun t a o h=>ua h) i0 ok.z.ZA
  have az1:uE A (wo mo ca dd H5) lo C (GX f s.dots g):=n5'.Zv h3.hm ⟨h3.hc,h3.hd⟩ (z:=1) (by rw[<-hzs];exact ue) (fun t a o h=>by rw[<-hzs]at h;exact wA h) i1<|by rw[<-hzs];exact hn
  have hgr:=(n5'.at_ _ _ _ wM).1
  refine⟨hgr,AW,rfl,hgr,AW,rfl,(show 2<=sizeLine by decide),fun tp ntp=>?_⟩
  have st:=Bw (o:= .tup [.ref tw',.ref lo]) ntp
  have k:=(h4.grow st).ml
  refine⟨k.hm,Ap,(B8 rfl),?_⟩
  replace k:=k.set<|Wn f.units f.twilight f.cells tc fo fu (.ref za)<|.ref tp
  refine⟨(show 1<=sizeLine by decide),fun l9 hl9=>?_⟩
  have mf4:=(h4.grow st).mf
  exact q.fin (ys:= [0]) (g:={f with shape:=some (s.zone0,GX f s.dots g)}) (k.ms (f:={f with shape:=some (s.zone0,GX f s.dots g)}) ⟨mf4.tc,mf4.fo,mf4.fu,mf.fin,mf.IT,mf.Gm,mf.vals,mf.units,mf.tw,mf.cl,mf4.size.imp_right fun⟨s,q1,q2⟩=>⟨s,q1,q2.ex,q2.dots,q2.cells,q2.nc,q2.vals,q2.nv,q2.z,q2.n0,q2.kept⟩,.inr ⟨_,tp,_,_,_,_,rfl,rfl,(h4.dm ntp),az0.mono<|DD st,az1.mono<|DD st⟩⟩) (bA (sm.trans<|DD (mo:=mo) (ca:=ca) (dd:=dd)<|sH.trans st) k.w) hl9 (C2 hx<|ir good e0 st0) (by lia) lec rfl<|by decide
end
section
variable{H0 H H':Hp}{S:SS}{dd mo md ca cd a l:AK}{o od:HO}{xs:List Int}{i n:Nat}{f:D2}
noncomputable def ACL(X:Cx)(E:XK)(tf:TE)(t:TA):TE:=fun σ H Q=>tf σ H fun fv H1=> ∃ f ps sp,fv= .ref f/\AAd X f ps sp E/\t σ H1 fun vs H2=>sp vs H2 Q E
def u9{E:XK}{fp pos:Pos}(hv:PE X (.Subscript fo fi fp) tf)(ha:L2.PA X (e::es) t)
  (he:Au (e::es) X.env=(false,eval e X.env)::Au es X.env:=by rfl) (hpl:(Cn pos<|Au es X.env).any (·.1)=false:=by rfl):
  PE X (.Call (.Subscript fo fi fp) (e::es) [] pos) (ACL X E tf t):=by
 intro pins s σ H Q I h
 refine Rc<|HI (hv pins s σ H _ I h) fun u s1 v H1 I1 r1 q_=>?_
 obtain⟨f,ps,sp,e1,cv,h2⟩:=q_
 subst e1
 obtain⟨CX,k,fd,F,hr,hk,hb,hx⟩:=cv.ex
 obtain rfl:u=CY f:=r1
 refine MB I1.ok.mod.xg hk (j_ (ha pos pins s1 σ H1 _ I1 h2) fun us s2 vs H2 I2 r q=>⟨I2.QQ,?_⟩) he hpl
 exact Yp F hr hb .nil hx I2 r<|by rw[OX];exact q
def uq (TD:Ku P w K A)(h:EN p=some z): ∃ n k fd,E1 (aq A) (.inl p)=some (.ref<|A.ad n)/\ET P w K mg base eT k (A.ad n) fd ["machine","calls"] (Fw K A p)/\k<=12/\FW K (.ref<|A.ad n)=true/\Binds K fd ["machine","calls"] []:=by
 by_cases h0:0<=p/\p<=10
 ·rcases(show p=0\/p=1\/p=2\/p=3\/p=4\/p=5\/p=6\/p=7\/p=8\/p=9\/p=10 by lia)with rfl | rfl | rfl | rfl | rfl | rfl | rfl | rfl | rfl | rfl | rfl
  ·exact⟨182,_,_,rfl,cf,(by decide),T.UE.F.kp,T.UE.b⟩
  ·exact⟨183,_,_,rfl,X5,(by decide),T.N4.F.kp,T.N4.b⟩
  ·exact⟨185,_,_,rfl,eX TD,(by decide),T.T9.F.kp,T.T9.b⟩
  ·exact⟨186,_,_,rfl,cI TD,(by decide),T.Tq.F.kp,T.Tq.b⟩
  ·exact⟨189,_,_,rfl,Zd TD,(by decide),T.Qt.F.kp,T.Qt.b⟩
  ·exact⟨190,_,_,rfl,Yr,(by decide),T.N9.F.kp,T.N9.b⟩
  ·exact⟨193,_,_,rfl,jY,(by decide),T.X3.F.kp,T.X3.b⟩
  ·exact⟨194,_,_,rfl,Zh,(by decide),T.Q8.F.kp,T.Q8.b⟩
  ·exact⟨195,_,_,rfl,c6,(by decide),T.UM.F.kp,T.UM.b⟩
  ·exact⟨196,_,_,rfl,VQ,(by decide),T.MN.F.kp,T.MN.b⟩
  ·exact⟨197,_,_,rfl,ZE,(by decide),T.Q0.F.kp,T.Q0.b⟩
 ·unfold EN at h
  rw[AG<|by lia,AG<|by lia,AG<|by lia,AG<|by lia,AG<|by lia,AG<|by lia,AG<|by lia,AG<|by lia,AG<|by lia,AG<|by lia,AG<|by lia]at h
  cases h
theorem Yx{cs:List (List<|List Int)}(h:Jf EN n (p::r)=some cs): ∃ m c t cs',MW EN (p::r)=some (c,t)/\Jf EN m t=some cs'/\cs=c::cs':=by
 cases n with
 | zero=>cases h
 | succ m=>
  simp only[Jf]at h
  split at h
  ·cases h
  ·rename_i c t e
   split at h
   ·cases h
   ·rename_i cs' e2
    cases h
    exact⟨m,c,t,cs',e,e2,rfl⟩
def aN{cs:List (List<|List Int)}(h:Jf EN n []=some cs):cs= []:=by
 cases n<;>(cases h;rfl)
theorem Mw(h:MW EN (p::r)=some (c,t)): ∃ z,EN p=some z:=by
 cases e:EN p with
 | none=>simp only[MW,e]at h;cases h
 | some z=>exact⟨z,rfl⟩
def jv(h:MW EN (p::r)=some (c,t)):og c=c:=by
 have nil: ∀{ys:List (List Int)} {x:List Int},R7 0 x=some (ys,t)->ys= []:=fun h=>by cases h;rfl
 by_cases h0:0<=p/\p<=10
 ·rcases(show p=0\/p=1\/p=2\/p=3\/p=4\/p=5\/p=6\/p=7\/p=8\/p=9\/p=10 by lia)with rfl | rfl | rfl | rfl | rfl | rfl | rfl | rfl | rfl | rfl | rfl
  ·obtain⟨hl,ys,er,rfl⟩:=call_of rfl h
   match r,hl with | _::_::_::_,_=>rw[nil er];rfl
  ·obtain⟨hl,ys,er,rfl⟩:=call_of rfl h
   obtain⟨_,_,zs,_,es,rfl⟩:=FF er
   rw[nil es];rfl
  ·obtain⟨hl,ys,er,rfl⟩:=call_of rfl h
   obtain⟨_,_,zs,_,es,rfl⟩:=FF er
   rw[nil es];rfl
  ·obtain⟨hl,ys,er,rfl⟩:=call_of rfl h
   obtain⟨_,_,zs,_,es,rfl⟩:=FF er
   match r,hl with | _::_,_=>rw[nil es];rfl
  ·obtain⟨hl,ys,er,rfl⟩:=call_of rfl h
   obtain⟨x1,s1,z1,r1,es1,e1⟩:=FF er
   obtain⟨x2,s2,z2,r2,es2,e2⟩:=FF es1
   obtain⟨x3,s3,z3,r3,es3,e3⟩:=FF es2
   rw[e1,e2,e3,nil es3];rfl
  ·obtain⟨hl,ys,er,rfl⟩:=call_of rfl h
   match r,hl with | _::_,_=>rw[nil er];rfl
  ·obtain⟨hl,ys,er,rfl⟩:=call_of rfl h
   match r,hl with | _::_::_,_=>rw[nil er];rfl
  ·obtain⟨hl,ys,er,rfl⟩:=call_of rfl h
   rw[nil er];rfl
  ·obtain⟨hl,ys,er,rfl⟩:=call_of rfl h
   match r,hl with | _::_::_,_=>rw[nil er];rfl
  ·obtain⟨hl,ys,er,rfl⟩:=call_of rfl h
   match r,hl with | _::_::_::_,_=>rw[nil er];rfl
  ·obtain⟨hl,ys,er,rfl⟩:=call_of rfl h
   match r,hl with | _::_::_::_::_,_=>rw[nil er];rfl
 ·obtain⟨z,ez⟩:=Mw h
  unfold EN at ez
  rw[AG<|by lia,AG<|by lia,AG<|by lia,AG<|by lia,AG<|by lia,AG<|by lia,AG<|by lia,AG<|by lia,AG<|by lia,AG<|by lia,AG<|by lia]at ez
  cases ez
theorem VB: ∀{cs:List (List<|List Int)} {n:Nat} {r:List Int},Jf EN n r=some cs->cs.map og=cs
 | [],_,_,_=>rfl
 | c::cs,n,[],h=>by have:=aN h;cases this
 | c::cs,n,p::r,h=>by
  obtain⟨m,c',t,cs',e1,e2,e3⟩:=Yx h
  cases e3
  rw[GY,jv e1,VB e2]
inductive uG(K:AS)(vs:List V)(H:Hp)(Q:VK)(E_:XK):Prop
 | mk: ∀ a xs,vs= [.ref a]->BF K H a (xs.map V.int)->qW xs=true->(∀ H' p,H' p=some (.lst ((Si xs).map V.int))->Q (.ref p) H')->uG K vs H Q E_
def MS.Ho(h:MS K A H dd od mo md ca cd a xs i f tc fo fu sz sh)(o:HO):MS K A (upd H dd o) dd o mo md ca cd a xs i f tc fo fu sz sh:=
 ⟨(AQ h.nm).trans h.hm,by rw[AEW];exact h.mf,(AQ h.nc).trans h.hc,by rw[AEW];exact h.hl,AJ,h.nm,h.nc⟩
structure Btw(K:AS)(A:B3)(H:Hp)(dd mo md ca cd a:AK)(xs:List Int)(i:Nat)(acc:List Int):Prop where
 ex: ∃ f tc fo fu sz sh n cs,MS K A H dd (.lst (iV acc)) mo md ca cd a xs i f tc fo fu sz sh/\Jf EN n (xs.drop i)=some cs/\cs.all fc=true/\acc.length+201*cs.length<=80400/\Si xs=acc++WQ (WY ME f cs)
 le:i<=xs.length
def rT{cs:List (List<|List Int)}:WQ (WY ME f<|c::cs)=(((gC f c).2.length:Int)::(gC f c).2)++WQ (WY ME (gC f c).1 cs):=rfl
def wB(h: ¬ i<xs.length):xs.drop i= []:=Sb (Ec h)
def rX(h:i<xs.length): ∃ x,xs[i]?=some x/\xs.drop i=x::xs.drop (i+1):=⟨xs[i],CQ h,Vx h⟩
def kW (TD:Ku P w K A):O0 P w base 13 198 ["calls"] (uG K):=by
 refine T.answers.F.DQ ["calls","machine","source","told","answer"] fun H vs Q E hr h=>?_
 obtain⟨a,xs,rfl,hs,ask,q⟩:=h
 refine⟨_,(AB (AO 1<|XQ T.c.rh VZ (hr.mono<|by decide) rfl T.c.tJ T.SO.2 .nil Gn)<|AB (AO 2<|GJ T.c.x9 Zk (hr.mono<|by decide) rfl T.c.yI T.Ym.2 .nil Gn<|Af AH)<|AB (AO 3<|Ba Es)<|AB (JO Ig (MV<|BI Aj ZW T.X9)<|AB (AO 4<|u9 (E:=E0) (eU (DX rfl T.k.xo<|show L2.RelV (.ref<|A.tg 9) _ from rfl) (BI Aj As T.A3) fun _ _=>rfl)<|Ax AV Aj)<|AB (Ad<|VC FG TN SQ LD A6<|Af<|Dc T.k.CD<|Af CG)<|AF<|Ad<|VC FG qR mD bH A6<|Af CG)<|AF<|AY A6),?_⟩
 obtain⟨cs,hcs,hak,hlen,hans⟩: ∃ cs,Jf EN xs.length xs=some cs/\cs.all fc=true/\cs.length<=400/\Si xs=WQ (WY ME p6 cs):=by
  unfold qW at ask
  cases e:Jf EN xs.length xs with
  | none=>simp only[fm,e]at ask;cases ask
  | some cs=>
   have ec:fm xs=some cs:=by simp only[fm,e,VB e]
   rw[ec]at ask
   have h2:=DB (DB<|ask).2
   refine⟨cs,rfl,h2.1,An h2.2,?_⟩
   unfold Si
   rw[ec]
   rfl
 intro mo md hmo hmd ne
 refine⟨H,_,mo,md,rfl,((Nw.nil.Zn hmd).put<|(AQ ne.symm).trans hmo),fun tc fo fu H1 n1=>⟨rfl,?_⟩⟩
 intro ca cd hca hcd ne2
 refine⟨ca,cd,a,rfl,AJ,rfl,?_⟩
 rw[Bl]
 have s12:=(Bw (o:= .own ca) hcd).trans<|Bw (o:= .ins (A.cl 7) cd<|pJ a 0)<|show upd H1 cd (.own ca) ca=none from(AQ ne2.symm).trans hca
 refine⟨B6 _,fun D nD=>?_⟩
 have s3:=Bw (o:= .lst []) nD
 have hm1:=n1.is
 have e1:=(n1.at_ .rest tc _<|.inr ⟨nofun,.inl<|.inl<|.inr ⟨rfl,rfl,rfl⟩⟩).1
 have e2:=(n1.at_ .rest fo _<|.inr ⟨nofun,.inl<|.inr ⟨rfl,rfl,rfl⟩⟩).1
 have e3:=(n1.at_ .rest fu _<|.inr ⟨nofun,.inr ⟨rfl,rfl,rfl⟩⟩).1
 have wof: ∀ b o,H1 b=some o->b≠mo->wo mo ca D (upd (upd (upd H1 cd<|.own ca) ca<|.ins (A.cl 7) cd<|pJ a 0) D<|.lst []) b=some o:=fun b o e n=>Ye (s3 _ _<|s12 _ _ e) n (Ac e hca)<|Ac (s12 _ _ e) nD
 have ms:MS K A (upd (upd (upd H1 cd<|.own ca) ca<|.ins (A.cl 7) cd<|pJ a 0) D<|.lst []) D (.lst<|iV []) mo md ca cd a xs 0 p6 tc fo fu .non .non:=
  ⟨s3 _ _<|s12 _ _ hm1,⟨wof _ _ e1 (aT e1 hm1<|by intro z;cases z),wof _ _ e2 (aT e2 hm1 (by intro z;cases z)),⟨[],wof _ _ e3 (aT e3 hm1 (by intro z;cases z)),ku⟩,(fun _ z=>absurd z<|Ir),B6 _,B6 _,(fun _ z=>absurd z<|Ir),⟨by decide,by decide⟩,by decide,by decide,.inl ⟨rfl,rfl⟩,.inl ⟨rfl,rfl⟩⟩,s3 _ _<|AJ,Ks (fun b o e=>wof b o (n1.same _ _ e)<|Ac e hmo) hs,AJ,Ac (s12 _ _ hm1) nD,Ac (AJ) nD⟩
 refine Nm (fun σ H'=> ∃ i acc v,σ= [some<|.ref a,some<|.ref mo,some<|.ref ca,some<|.ref D,v]/\Btw K A H' D mo md ca cd a xs i acc) (fun σ H'=>match H' ca with | some (.ins _ _ [_,(_,.int j)])=>xs.length-j.toNat | _=>0) ⟨0,[],none,rfl,⟨_,_,_,_,_,_,_,_,ms,(by rw[FH];exact hcs),hak,(by show 0+201*cs.length<=80400;lia),(by rw[List.nil_append];exact hans)⟩,B6 _⟩ ?_ ?_
 ·rintro σ H2 ⟨i,acc,v,rfl,B⟩
  obtain⟨f,tc,fo,fu,sz,sh,n,cs,h,hcs,hak,hlen,hans⟩:=B.ex
  refine⟨h.hc,rfl,ca,cd,a,i,iV xs,rfl,h.hc,Ks CS h.hl,?_⟩
  rw[D7]
  refine A7 (fun e=>?_) fun e=>?_
  ·have hi:=An e
   obtain⟨p,ep,ed⟩:=rX hi
   rw[ed]at hcs
   obtain⟨m,c,t,cs',ec,ecs,rfl⟩:=Yx hcs
   obtain⟨z,ez⟩:=Mw ec
   obtain⟨nn,k,fd,ev,F,hk,kp,bd⟩:=uq TD ez
   have ha:=DB<|hak
   refine⟨h.hc,rfl,h.rn ep fun H3 h3 w3=>⟨_,_,.inl p,_,rfl,TD.ADZ,rfl,ev,A.ad nn,["machine","calls"],Fw K A p,rfl,⟨⟨eT,k,fd,F,hr.mono hk,kp,bd,Gn⟩⟩,D,_,mo,md,ca,cd,a,xs,i+1,f,tc,fo,fu,sz,sh,c,t,rfl,h3,hi,ec,ha.1,fun l H4 j tc' fo' fu' sz' sh' sW h4 ij jl ej wl wn ln=>?_⟩⟩
   have hl:=iN wl
   have hlen2:acc.length+201*(cs'.length+1)<=80400:=hlen
   refine⟨.inl ⟨rfl,_,BF.of h4.hd⟩,.inl<|BF.of hl.1,h4.hd,(by rw[D7];exact Ez (show acc.length<=80400 by lia)<|by decide),?_⟩
   refine⟨.inl ⟨rfl,_,BF.of AJ⟩,_,_,_,_,rfl,rfl,AJ,(AQ hl.2.2.2).trans hl.1,(by rw[E5,D7,D7];exact CC (show acc.length+1+(gC f c).2.length<=80400 by lia)<|by decide),?_⟩
   rw[Bl]
   have eacc:iV acc++ [V.int ((iV (gC f c).2).length:Int)]++iV (gC f c).2=iV (acc++(((gC f c).2.length:Int)::(gC f c).2)):=by
    rw[lC,D7,qy]
    rfl
   rw[eacc]
   have h5:=h4.Ho<|.lst<|iV<|acc++(((gC f c).2.length:Int)::(gC f c).2)
   refine⟨⟨j,_,_,rfl,⟨_,_,_,_,_,_,m,cs',h5,(by rw[ej];exact ecs),ha.2,?_,?_⟩,jl⟩,?_⟩
   ·rw[E5,G4]
    lia
   ·rw[hans,rT,qy]
   ·rw[h5.hc,h.hc]
    show xs.length-j<xs.length-i
    lia
  ·have hi: ¬ i<xs.length:=fun z=>e (Av z)
   rw[wB hi]at hcs
   have:=aN hcs
   subst this
   have ha:Si xs=acc:=by rw[hans];show acc++ []=acc;rw[OX]
   exact q H2 D<|by rw[ha];exact h.hd
 ·exact fun σ H2 Q1 Q2 mono h=>Je.mono h fun v h=>QK.mono h fun a ⟨h1,h2,h⟩=>⟨h1,h2,by
   obtain⟨p,dx',a',i,zs,e3,h3,h4,q5⟩:=h
   exact⟨p,dx',a',i,zs,e3,h3,h4,mono _ _ q5⟩⟩
end
end GF
end
section
section
namespace L2
open PySem PySem.Spec PyProof.Rows
open PySem.W (WData Codec OpenSpec Well WellAll ReadsW ReadsAllW)
mutual
inductive Dw(K:AS)(H:Hp):V->Gz->Prop
 | non:Dw K H .non .none
 | bl (b:Bool):Dw K H (.bl b) (.bool b)
 | int (i:Int):Dw K H (.int i) (.int i)
 | str (x:Str):Dw K H (.str x) (.str x)
 | byt (b:Array UInt8):Dw K H (.byt b) (.bytes b.toList)
 | lst {a:AK} {xs:List V} {ds:List Gz}:BF K H a xs->Mm K H xs ds->Dw K H (.ref a) (.list ds)
 | tup {a:AK} {xs:List V} {ds:List Gz}:Dd K H a xs->Mm K H xs ds->Dw K H (.ref a) (.tuple ds)
inductive Mm(K:AS)(H:Hp):List V->List Gz->Prop
 | nil:Mm K H [] []
 | cons {v:V} {vs:List V} {d:Gz} {ds:List Gz}:Dw K H v d->Mm K H vs ds->Mm K H (v::vs) (d::ds)
end
theorem qB{K:AS}: ∀ ns:List Int,Mm K H (ns.map V.int) (ns.map p_)
 | []=> .nil
 | n::r=> .cons (.int n)<|qB r
theorem mR{K:AS}: ∀(ns:List Int) xs,Mm K H xs (ns.map p_)->xs=ns.map V.int
 | [],xs,h=>by
  cases h
  rfl
 | n::r,xs,h=>by
  cases h with
  | cons h1 h2=>
   cases h1
   rw[mR r _ h2]<;>rfl
section
variable{P:BH}{w:Ao}{K:AS}{H:Hp}{h:Az}{R:PySem.W.WRecords}{cl:Str->Option AK}
def ABL(C0:NG P w H h)(KX:K.In h)(q:BF K H a xs): ∃ its o n,Vals xs its/\h.get? a=some o/\o.cls= .type "list"/\o.data= .seq its.toArray n:=by
 rcases q with q |⟨o,its,n,e,hc,_,hd,_,hv⟩
 ·obtain⟨_,its,n,hv,e⟩:=(q.ok C0)
  exact⟨its,_,n,hv,e,rfl,rfl⟩
 ·exact⟨its.toList,o,n,hv,KX _ _ e,hc,by simp[hd]⟩
def ABX(C0:NG P w H h)(KX:K.In h)(q:Dd K H a xs): ∃ its o n,Vals xs its/\h.get? a=some o/\o.cls= .type "tuple"/\o.data= .seq its.toArray n:=by
 rcases q with q |⟨o,its,n,e,hc,hd,_,hv⟩
 ·obtain⟨_,its,hv,o,e,hc,n,hd⟩:=(q.ok C0)
  exact⟨its,o,n,hv,e,hc,hd⟩
 ·exact⟨its.toList,o,n,hv,KX _ _ e,hc,by simp[hd]⟩
mutual
theorem Dw.reads(C0:NG P w H h)(KX:K.In h): ∀ d v u,Dw K H v d->RelV v u-> ∃ as,ReadsW R cl h u d as
 | .none,_,_,x,r=>by
  cases x
  cases r
  exact⟨_,ReadsW.none⟩
 | .bool b,_,_,x,r=>by
  cases x
  cases r
  exact⟨_,ReadsW.bool b⟩
 | .int i,_,_,x,r=>by
  cases x
  obtain⟨t,rfl⟩:=r
  exact⟨_,ReadsW.int i t⟩
 | .str s,_,_,x,r=>by
  cases x
  obtain⟨t,rfl⟩:=r
  exact⟨_,ReadsW.str s t⟩
 | .bytes b,_,_,x,r=>by
  cases x
  obtain⟨t,rfl⟩:=r
  exact⟨_,ReadsW.bytes _ t⟩
 | .list ds,_,_,x,r=>by
  cases x with
  | lst hs ha=>
   cases r
   obtain⟨its,o,n,rv,ho,hc,hd⟩:=ABL C0 KX hs
   obtain⟨as,hr⟩:=Dw.readsAll C0 KX ds _ its ha rv
   exact⟨_,ReadsW.list ho hc hd hr⟩
 | .tuple ds,_,_,x,r=>by
  cases x with
  | tup hs ha=>
   cases r
   obtain⟨its,o,n,rv,ho,hc,hd⟩:=ABX C0 KX hs
   obtain⟨as,hr⟩:=Dw.readsAll C0 KX ds _ its ha rv
   exact⟨_,ReadsW.tuple ho hc hd hr⟩
 | .float _,_,_,x,_=>by cases x
 | .dict _,_,_,x,_=>by cases x
 | .bytearray _,_,_,x,_=>by cases x
 | .set _,_,_,x,_=>by cases x
 | .frozenset _,_,_,x,_=>by cases x
 | .obj _ _,_,_,x,_=>by cases x
theorem Dw.readsAll(C0:NG P w H h)(KX:K.In h): ∀ ds vs us,Mm K H vs ds->Vals vs us-> ∃ as,ReadsAllW R cl h us ds as
 | [],_,_,x,r=>by
  cases x
  cases r
  exact⟨_,AAI⟩
 | d::ds,_,_,x,r=>by
  cases x with
  | cons h1 h2=>
   cases r with
   | cons r1 r2=>
    obtain⟨as,q1⟩:=Dw.reads C0 KX d _ _ h1 r1
    obtain⟨bs,q2⟩:=Dw.readsAll C0 KX ds _ _ h2 r2
    exact⟨_,zm q1 q2⟩
end
end
mutual
noncomputable def oi:Gz->Bool
 | .none=>true
 | .bool _=>true
 | .int _=>true
 | .str _=>true
 | .bytes _=>true
 | .list xs=>VY xs
 | .tuple xs=>VY xs
 | _=>false
noncomputable def VY:List Gz->Bool
 | []=>true
 | x::r=>oi x&&VY r
end
theorem g9{f:α->Gz}(h: ∀ a,oi (f a)=true): ∀ l:List α,VY (l.map f)=true
 | []=>rfl
 | x::r=>by
  show(oi (f x)&&VY (r.map f))=true
  rw[h x,g9 h r]<;>rfl
theorem N2: ∀(c:Codec) a,oi (c.enc a)=true
 | .unit,_=>rfl
 | .bool,_=>rfl
 | .int _ _,_=>rfl
 | .nat _ _,_=>rfl
 | .u8,_=>rfl
 | .bytes _ _,_=>rfl
 | .text _ _ _ _,_=>rfl
 | .list _ _ c,a=>g9 (fun x=>N2 c x) a
 | .pair c d,a=>by
  show(oi (c.enc a.1)&&(oi (d.enc a.2)&&true))=true
  rw[N2 c a.1,N2 d a.2]<;>rfl
 | .triple c d e,a=>by
  show(oi (c.enc a.1)&&(oi (d.enc a.2.1)&&(oi (e.enc a.2.2)&&true)))=true
  rw[N2 c a.1,N2 d a.2.1,N2 e a.2.2]<;>rfl
 | .option c,none=>rfl
 | .option c,some x=>N2 c x
theorem aF: ∀ cs a,VY (PK cs a)=true
 | [],_=>rfl
 | c::cs,a=>by
  show(oi (c.enc a.1)&&VY (PK cs a.2))=true
  rw[N2 c a.1,aF cs a.2]<;>rfl
theorem RE: ∀{xs:List Gz} {d:Gz},d∈xs->d.weight<=V8 xs
 | [],d,h=>absurd h<|by simp
 | x::r,d,h=>by
  show d.weight<=x.weight+1+V8 r
  rcases Ce.mp h with e | m
  ·rw[e]
   omega
  ·have z:=RE m
   omega
noncomputable def toV:AN->V
 | .none=> .non
 | .bool b=> .bl b
 | .int i _=> .int i
 | .str x _=> .str x
 | .bytes b _=> .byt b
 | .ref a=> .ref a
 | _=> .non
noncomputable def tZ(A:List AK):AN->Prop
 | .none=>True
 | .bool _=>True
 | .int _ _=>True
 | .str _ _=>True
 | .bytes _ _=>True
 | .ref a=>a∈A
 | _=>False
theorem tZ.mono(h: ∀ a∈A,a∈B): ∀{u:AN},tZ A u->tZ B u:=fun{u} x=>by
 cases u with
 | ref a=>exact h a x
 | none=>trivial
 | bool b=>trivial
 | int i t=>trivial
 | str s t=>trivial
 | bytes b t=>trivial
 | _=>exact DM x
theorem uF(x:tZ A u):RelV (toV u) u:=by
 cases u with
 | ref a=>rfl
 | none=>rfl
 | bool b=>rfl
 | int i t=>exact⟨t,rfl⟩
 | str s t=>exact⟨t,rfl⟩
 | bytes b t=>exact⟨t,rfl⟩
 | _=>exact DM x
theorem LP: ∀{vs:List AN},(∀ u∈vs,tZ A u)->Vals (vs.map toV) vs
 | [],_=> .nil
 | u::r,h=> .cons (uF<|h u<|Dx ..)<|LP fun x hx=>h x<|Cz _ hx
noncomputable def Mf(h:Az)(A:List AK)(a:AK):Prop:= ∃ vs:List AN,vs.length<=sizeLine/\(∀ u∈vs,tZ A u)/\
 (h.get? a=some {cls:= .type "list",data:= .seq vs.toArray}\/h.get? a=some {cls:= .type "tuple",data:= .seq vs.toArray})
def Mf.mono(k: ∀ a∈A,a∈B)(x:Mf h A a):Mf h B a:=by
 obtain⟨vs,h1,h2,h3⟩:=x
 exact⟨vs,h1,fun u hu=>(h2 u hu).mono k,h3⟩
theorem J7: ∀{vs:List AN} {ds:List Gz},KO P h vs ds->vs.length=ds.length
 | _,_,.nil=>rfl
 | _,_,.cons _ b=>by
  show _+1=_+1
  rw[J7 b]
theorem au(x:Well P h v (.list ds)): ∃ a vs,v= .ref a/\h.get? a=some {cls:= .type "list",data:= .seq vs.toArray}/\KO P h vs ds:=by
 cases x with
 | list ho hall=>exact⟨_,_,rfl,ho,hall⟩
theorem Yl(x:Well P h v (.tuple ds)): ∃ a vs,v= .ref a/\h.get? a=some {cls:= .type "tuple",data:= .seq vs.toArray}/\KO P h vs ds:=by
 cases x with
 | tuple ho hall=>exact⟨_,_,rfl,ho,hall⟩
theorem ae(x:KO P h us (d::ds)): ∃ v vs,us=v::vs/\Well P h v d/\KO P h vs ds:=by
 cases x with
 | cons a b=>exact⟨_,_,rfl,a,b⟩
def qi(h:n<=1048576):n<=sizeLine:=CC h (by decide)
section
variable{P:CT}{h:Az}
mutual
theorem v7: ∀ d v,Well P h v d->oi d=true->d.weight<=1048576-> ∃ A,tZ A v/\ ∀ a∈A,Mf h A a
 | .none,_,x,_,_=>by
  cases x
  exact⟨[],trivial,fun a m=>absurd m<|by simp⟩
 | .bool b,_,x,_,_=>by
  cases x
  exact⟨[],trivial,fun a m=>absurd m<|by simp⟩
 | .int i,_,x,_,_=>by
  cases x
  exact⟨[],trivial,fun a m=>absurd m<|by simp⟩
 | .str s,_,x,_,_=>by
  cases x
  exact⟨[],trivial,fun a m=>absurd m<|by simp⟩
 | .bytes b,_,x,_,_=>by
  cases x
  exact⟨[],trivial,fun a m=>absurd m<|by simp⟩
 | .list ds,_,x,p,z=>by
  obtain⟨a,vs,rfl,ho,hall⟩:=au x
  have z2:V8 ds<=1048576:=z
  obtain⟨A,h1,h2⟩:=TM ds _ hall p fun d hd=>CC (RE hd) z2
  have k: ∀ b∈A,b∈a::A:=fun b hb=>Cz _ hb
  refine⟨a::A,Dx ..,fun b hb=>?_⟩
  rcases Ce.mp hb with e | m
  ·rw[e]
   exact⟨vs,qi<|by rw[J7 hall];exact CC (lV ds) z2,fun u hu=>(h1 u hu).mono k,.inl ho⟩
  ·exact(h2 b m).mono k
 | .tuple ds,_,x,p,z=>by
  obtain⟨a,vs,rfl,ho,hall⟩:=Yl x
  have z2:V8 ds<=1048576:=z
  obtain⟨A,h1,h2⟩:=TM ds _ hall p fun d hd=>CC (RE hd) z2
  have k: ∀ b∈A,b∈a::A:=fun b hb=>Cz _ hb
  refine⟨a::A,Dx ..,fun b hb=>?_⟩
  rcases Ce.mp hb with e | m
  ·rw[e]
   exact⟨vs,qi<|by rw[J7 hall];exact CC (lV ds) z2,fun u hu=>(h1 u hu).mono k,.inr ho⟩
  ·exact(h2 b m).mono k
 | .float _,_,_,p,_=>Gu<|show false=true from p
 | .dict _,_,_,p,_=>Gu<|show false=true from p
 | .bytearray _,_,_,p,_=>Gu<|show false=true from p
 | .set _,_,_,p,_=>Gu<|show false=true from p
 | .frozenset _,_,_,p,_=>Gu<|show false=true from p
 | .obj _ _,_,_,p,_=>Gu<|show false=true from p
theorem TM: ∀ ds vs,KO P h vs ds->VY ds=true->(∀ d∈ds,d.weight<=1048576)-> ∃ A,(∀ u∈vs,tZ A u)/\ ∀ a∈A,Mf h A a
 | [],_,x,_,_=>by
  cases x
  exact⟨[],fun u m=>absurd m<|by simp,fun a m=>absurd m<|by simp⟩
 | d::ds,_,x,p,z=>by
  obtain⟨v,vs,rfl,x1,x2⟩:=ae x
  have q:oi d=true/\VY ds=true:=O4.mp p
  obtain⟨A,a1,a2⟩:=v7 d v x1 q.1<|z d<|Dx ..
  obtain⟨B,b1,b2⟩:=TM ds vs x2 q.2 fun e he=>z e<|Cz _ he
  have kA: ∀ b∈A,b∈A++B:=fun b hb=>Ly.mpr<|.inl hb
  have kB: ∀ b∈B,b∈A++B:=fun b hb=>Ly.mpr<|.inr hb
  refine⟨A++B,fun u hu=>?_,fun b hb=>?_⟩
  ·rcases Ce.mp hu with e | m
   ·rw[e]
    exact a1.mono kA
   ·exact(b1 u m).mono kB
  ·rcases Ly.mp hb with m | m
   ·exact(a2 b m).mono kA
   ·exact(b2 b m).mono kB
end
end
noncomputable def yf(o:Obj):Option HO:=match o.data with
 | .seq vs _=>if(o.cls==Oy "list")=true then some (.frz o<|.lst<|vs.toList.map toV)else some (.frz o<|.tup<|vs.toList.map toV)
 | _=>none
noncomputable def MT(K:AS)(h:Az)(A:List AK):Hp:=fun b=>if b∈A then(if(K.lookup b).isNone=true then(h.get? b).bind yf else none)else none
noncomputable def jT(H:Hp):Prop:= ∀ b,H b=none\/ ∃ o u,H b=some (.frz o u)
def gV(vs:List AN):yf {cls:= .type "list",data:= .seq vs.toArray}=some (.frz {cls:= .type "list",data:= .seq vs.toArray}<|.lst<|vs.map toV):=by
 show(if(Oy "list"==Oy "list")=true then some (HO.frz {cls:= .type "list",data:= .seq vs.toArray}<|.lst<|vs.toArray.toList.map toV)else some (HO.frz {cls:= .type "list",data:= .seq vs.toArray}<|.tup<|vs.toArray.toList.map toV))=_
 rw[AI<|beq_self_eq_true _]
def g6(vs:List AN):yf {cls:= .type "tuple",data:= .seq vs.toArray}=some (.frz {cls:= .type "tuple",data:= .seq vs.toArray}<|.tup<|vs.map toV):=by
 show(if(Oy "tuple"==Oy "list")=true then some (HO.frz {cls:= .type "tuple",data:= .seq vs.toArray}<|.lst<|vs.toArray.toList.map toV)else some (HO.frz {cls:= .type "tuple",data:= .seq vs.toArray}<|.tup<|vs.toArray.toList.map toV))=_
 rw[AG<|by decide]
section
variable{P:BH}{w:Ao}{K:AS}{h:Az}{A:List AK}
def Vq(hb:b∈A)(hk:K.lookup b=none)(e:h.get? b=some o):MT K h A b=yf o:=by
 unfold MT
 rw[AI hb,hk,AI<|show(none:Option Obj).isNone=true from rfl,e]<;>rfl
def yB(q:MT K h A b=some u):b∈A/\K.lookup b=none:=by
 unfold MT at q
 by_cases hb:b∈A
 ·rw[AI hb]at q
  cases hk:K.lookup b with
  | none=>exact⟨hb,rfl⟩
  | some o=>
   rw[hk,AG<|by simp]at q
   cases q
 ·rw[AG hb]at q
  cases q
def XG(ar: ∀ a∈A,Mf h A a)(q:MT K h A b=some u):K.lookup b=none/\ ∃ vs:List AN,vs.length<=sizeLine/\(∀ u∈vs,tZ A u)/\
  ((h.get? b=some {cls:= .type "list",data:= .seq vs.toArray}/\u= .frz {cls:= .type "list",data:= .seq vs.toArray} (.lst<|vs.map toV))\/
   (h.get? b=some {cls:= .type "tuple",data:= .seq vs.toArray}/\u= .frz {cls:= .type "tuple",data:= .seq vs.toArray} (.tup<|vs.map toV))):=by
 obtain⟨hb,hk⟩:=yB q
 obtain⟨vs,h1,h2,h3⟩:=ar b hb
 refine⟨hk,vs,h1,h2,?_⟩
 rcases h3 with e | e
 ·rw[Vq hb hk e,gV]at q
  exact .inl ⟨e,(C5 q).symm⟩
 ·rw[Vq hb hk e,g6]at q
  exact .inr ⟨e,(C5 q).symm⟩
theorem rQ(ar: ∀ a∈A,Mf h A a):jT (MT K h A):=fun b=>by
 cases q:MT K h A b with
 | none=>exact .inl rfl
 | some u=>
  obtain⟨_,vs,_,_,⟨_,e⟩ |⟨_,e⟩⟩:=XG ar q
  ·exact .inr ⟨_,_,by rw[e]⟩
  ·exact .inr ⟨_,_,by rw[e]⟩
def AAM(ar: ∀ a∈A,Mf h A a):NG P w (MT K h A) h:=fun b u q=>by
 obtain⟨_,vs,h1,h2,⟨e,rfl⟩ |⟨e,rfl⟩⟩:=XG ar q
 ·exact⟨e,by rw[A8];exact h1,vs,_,LP h2,e⟩
 ·exact⟨e,by rw[A8];exact h1,vs,LP h2,_,e,rfl,_,rfl⟩
def WO{vs us:List AN}(e:(some {cls:=c,data:= .seq vs.toArray}:Option Obj)=some {cls:=c',data:= .seq us.toArray}):c=c'/\vs=us:=by
 have e1:=C5 e
 have e3:=BL Obj.data e1
 injection e3 with e4
 refine⟨BL Obj.cls e1,?_⟩
 simpa using(BL oo e4)
theorem AFj(KX:K.In h)(ar: ∀ a∈A,Mf h A a){vs:List AN}(ha:a∈A)(e:h.get? a=some {cls:= .type "list",data:= .seq vs.toArray}):(∀ u∈vs,tZ A u)/\BF K (MT K h A) a (vs.map toV):=by
 obtain⟨us,h1,h2,h3⟩:=ar a ha
 have hu:us=vs:=by
  rcases h3 with q | q
  ·rw[e]at q
   exact(WO q).2.symm
  ·rw[e]at q
   exact absurd (rH (WO q).1)<|by decide
 subst hu
 refine⟨h2,?_⟩
 cases hk:K.lookup a with
 | none=>exact .inl<|.inr ⟨_,by rw[Vq ha hk e,gV]⟩
 | some o=>
  have e2:=KX a o hk
  rw[e]at e2
  obtain rfl:=C5 e2
  exact .inr ⟨_,us.toArray,_,hk,rfl,rfl,rfl,by rw[Co];exact h1,by simpa using LP h2⟩
theorem AFx(KX:K.In h)(ar: ∀ a∈A,Mf h A a){vs:List AN}(ha:a∈A)(e:h.get? a=some {cls:= .type "tuple",data:= .seq vs.toArray}):(∀ u∈vs,tZ A u)/\Dd K (MT K h A) a (vs.map toV):=by
 obtain⟨us,h1,h2,h3⟩:=ar a ha
 have hu:us=vs:=by
  rcases h3 with q | q
  ·rw[e]at q
   exact absurd (rH (WO q).1)<|by decide
  ·rw[e]at q
   exact(WO q).2.symm
 subst hu
 refine⟨h2,?_⟩
 cases hk:K.lookup a with
 | none=>exact .inl<|.inr ⟨_,by rw[Vq ha hk e,g6]⟩
 | some o=>
  have e2:=KX a o hk
  rw[e]at e2
  obtain rfl:=C5 e2
  exact .inr ⟨_,us.toArray,_,hk,rfl,rfl,by rw[Co];exact h1,by simpa using LP h2⟩
mutual
theorem ACX(KX:K.In h)(ar: ∀ a∈A,Mf h A a): ∀ d v,Well Pm h v d->oi d=true->tZ A v->Dw K (MT K h A) (toV v) d
 | .none,_,x,_,_=>by
  cases x
  exact .non
 | .bool b,_,x,_,_=>by
  cases x
  exact .bl b
 | .int i,_,x,_,_=>by
  cases x
  exact .int i
 | .str s,_,x,_,_=>by
  cases x
  exact .str s
 | .bytes b,_,x,_,_=>by
  cases x
  have z:=Dw.byt (K:=K) (H:=MT K h A) b.toArray
  exact z
 | .list ds,_,x,p,hu=>by
  obtain⟨a,vs,rfl,ho,hall⟩:=au x
  obtain⟨h2,hs⟩:=AFj KX ar hu ho
  exact .lst hs<|bj KX ar ds _ hall p h2
 | .tuple ds,_,x,p,hu=>by
  obtain⟨a,vs,rfl,ho,hall⟩:=Yl x
  obtain⟨h2,hs⟩:=AFx KX ar hu ho
  exact .tup hs<|bj KX ar ds _ hall p h2
 | .float _,_,_,p,_=>Gu<|show false=true from p
 | .dict _,_,_,p,_=>Gu<|show false=true from p
 | .bytearray _,_,_,p,_=>Gu<|show false=true from p
 | .set _,_,_,p,_=>Gu<|show false=true from p
 | .frozenset _,_,_,p,_=>Gu<|show false=true from p
 | .obj _ _,_,_,p,_=>Gu<|show false=true from p
theorem bj(KX:K.In h)(ar: ∀ a∈A,Mf h A a): ∀ ds vs,KO Pm h vs ds->VY ds=true->(∀ u∈vs,tZ A u)->Mm K (MT K h A) (vs.map toV) ds
 | [],_,x,_,_=>by
  cases x
  exact .nil
 | d::ds,_,x,p,hu=>by
  obtain⟨v,vs,rfl,x1,x2⟩:=ae x
  have q:oi d=true/\VY ds=true:=O4.mp p
  exact .cons (ACX KX ar d v x1 q.1<|hu _<|Dx ..)<|bj KX ar ds vs x2 q.2 fun u m=>hu u<|Cz _ m
end
end
theorem tT{K:AS}{cl:Str->Option AK}{d0:Gz}
  (KX:K.In s₁.heap) (hns:s₁.heap.Ns FQ mg) (hb:s₁.heap.Ns dR mb) (hbb: ∀ x:Str,x≠"__name__"->mb x=IV x) (hlim:s₁.heap.NoLimit) (hg:s₁.gens= #[])
  (hwl:KO w.params s₁.heap vals ds) (hpl:VY ds=true) (hwt: ∀ d∈ds,d.weight<=1048576) (hr:D_ k Oh)
  (F: ∀ base:Az,K.In base->base.Ns FQ mg->ET P w K mg base CX k fa fd ps sp) (hbind: ∀(s:Ay) (us:List AN),us.length=ps.length->SK s fd ⟨us,[]⟩ (ps.zip us)) (hlen:ds.length=ps.length)
  (hsp: ∀(H:Hp) (xs:List V),jT H->Mm K H xs ds->sp xs H (fun v H'=>Dw K H' v d0) fun _ _ _=>False)
  (hCX: ∀ H e s',CX [] H s₁ (fun _ _ _=>False) e s'->False):
  GN (Ai P w) Oh (.call (.ref fa) ⟨vals,[]⟩) (fun r s'=> ∃ u as,r= .ok (.ret u)/\ReadsW R cl s'.heap u d0 as/\OldK s₁.heap s'.heap/\s'.os=s₁.os/\Jr s'.gens) s₁:=by
 obtain⟨A,ho,ar⟩:=TM ds vals hwl hpl hwt
 have hO:jT (MT K s₁.heap A):=rQ ar
 have C0:NG P w (MT K s₁.heap A) s₁.heap:=AAM ar
 have hS:=bj KX ar ds vals hwl hpl ho
 have hK: ∀ b u,MT K s₁.heap A b=some u->K.lookup b=none:=fun b u q=>(XG ar q).1
 have noA: ∀{b:AK} {o:Obj} {es:Array Iq} {ep:Nat},s₁.heap.get? b=some o->o.data= .dict es ep->MT K s₁.heap A b=none:=fun{b o es ep} e d=>by
  cases q:MT K s₁.heap A b with
  | none=>rfl
  | some u=>
   obtain⟨_,vs,_,_,⟨e2,_⟩ |⟨e2,_⟩⟩:=XG ar q
   ·rw[e2]at e
    cases e
    have d':=d
    cases d'
   ·rw[e2]at e
    cases e
    have d':=d
    cases d'
 generalize MT K s₁.heap A=H at hO C0 hS hK noA
 have base_of: ∀{b:AK} {o:Obj},s₁.heap.get? b=some o->H b=none->(bS s₁.heap H).get? b=some o:=fun e n=>uS e n
 have nsK: ∀{b:AK} {m:Str->Option AN},s₁.heap.Ns b m->(bS s₁.heap H).Ns b m:=fun{b m} ⟨o,es,ep,e,d,r⟩=>⟨o,es,ep,base_of e<|noA e d,d,r⟩
 have nK: ∀ b o,K.lookup b=some o->H b=none:=fun b o e=>by
  cases q:H b with
  | none=>rfl
  | some u=>
   rw[hK b u q]at e
   cases e
 have hKb:K.In (bS s₁.heap H):=fun b o e=>base_of (KX b o e)<|nK b o e
 have hM:Mod K mg (bS s₁.heap H):=⟨hKb,nsK hns,⟨mb,nsK hb,hbb⟩,let⟨mc,h1,h2⟩:=hlim;⟨mc,nsK h1,h2⟩⟩
 have e0:km P w K mg (bS s₁.heap H) Oh [] s₁ H:=⟨rfl,hM,fun b o e=>zE e,W4<|sJ _ _,trivial,fun b hb=>absurd (show b∈([]:List AK)from hb)<|by simp,C0,.of_eq hg⟩
 have hl:vals.length=ps.length:=by rw[J7 hwl];exact hlen
 refine La ((F _ hKb<|nsK hns).run Oh [] s₁ H ⟨vals,[]⟩ vals (vals.map toV) _ _ hr e0 (hbind s₁ vals hl) (LP ho)<|hsp H _ hO hS) fun r s' x=>?_
 cases r with
 | error e=>exact(hCX H e s' x).elim
 | ok fl=>
  cases fl with
  | next=>exact DM x
  | brk=>exact DM x
  | cont=>exact DM x
  | ret u=>
   obtain⟨v,H',os,bare,un,hok',r',q⟩:=x
   have kept: ∀ b o,s₁.heap.get? b=some o->s'.heap.get? b=some o:=fun b o e=>by
    cases q2:H b with
    | none=>exact un.keep b o e q2 (by intro z;exact absurd (show b∈([]:List AK)from z)<|by simp)<|by simp
    | some u2=>
     rcases hO b with z |⟨ob,u3,z⟩
     ·rw[q2]at z
      cases z
     ·obtain⟨e1,_⟩:=C0 b _ z
      obtain⟨e2,_⟩:=hok' b _<|un.Tf b ob _ z
      rw[e]at e1
      cases e1
      exact e2
   have KX':K.In s'.heap:=fun b o e=>kept b o<|KX b o e
   obtain⟨as,hrd⟩:=Dw.reads hok' KX' d0 v u q r'
   exact⟨u,as,rfl,hrd,OldK.of_keep kept,os,bare⟩
def XN(h:WData.layableAll ds=true): ∀ d∈ds,d.weight<=1048576:=fun d hd=>
 (PySem.W.layableW_iff.mp<|GB.mp h d hd).2.2
theorem YL: ∀ cs a,(PK cs a).length=cs.length
 | [],_=>rfl
 | c::cs,a=>by
  show(PK cs a.2).length+1=cs.length+1
  rw[YL cs a.2]
def sC{K:CT->AS}{CX:Ao->xa}{sp:Ao->Sp}
  (hwell:r.wellSaid=true) (hdf:d.params.defaults= []) (hlen:r.args.length=ps.length) (hr:D_ k Oh)
  (hY: ∀ w h,YP w h->(K w.params).In h)
  (F: ∀ w (mg:Str->Option AN) (fa:AK) (h:Az),YP w h->(K w.params).In h->h.Ns FQ mg->mg d.name=some (.ref fa)->
   ∃ fd:FU,(∀(s:Ay) (us:List AN),us.length=ps.length->SK s fd ⟨us,[]⟩ (ps.zip us))/\
    ∀ base:Az,(K w.params).In base->base.Ns FQ mg->ET r.prog w (K w.params) mg base (CX w) k fa fd ps (sp w))
  (hsp: ∀(w:Ao) (H:Hp) (xs:List V) (a:oq r.args),jT H->qr r.args a=true->Sl r.args r.asked a=true->Mm (K w.params) H xs (PK r.args a)->
   sp w xs H (fun v H'=>Dw (K w.params) H' v<|r.ret.enc<|Sl r.args r.f a) fun _ _ _=>False)
  (hCX: ∀(w:Ao) (H:Hp) (s:Ay) (e:AN) (s':Ay),CX w [] H s (fun _ _ _=>False) e s'->False):
  pQ q loose XP YP r d [] (fun f vs=>qu f vs):=by
 intro w P8 s₁ mg mb G Y fa o pm cd doc dV kV ho hd hcd hD hmg hg args vals as ABo hlay hrd hwl hlo
 obtain⟨a,e1,e2⟩:=PySem.W.os_pre_some ABo
 obtain⟨e3,hwi⟩:=Codec.encAll_of_decAll r.args args a e1
 subst e3
 have KX:=hY w _ Y
 obtain⟨fd,hb,hF⟩:=F w mg fa _ Y KX G.T.g hmg
 refine PySem.W.enter_call<|La (tT (R:= []) (cl:=classAt P8.heap) (d0:=r.ret.enc<|Sl r.args r.f a) KX G.T.g G.T.b G.T.builtins G.T.nolimit hg hwl (aF _ _) (XN hlay) hr hF hb (by rw[YL];exact hlen)
  (fun H xs hO hS=>hsp w H xs a hO hwi e2 hS) fun H e s'=>hCX w H s₁ e s') fun r' s' hq=>?_
 obtain⟨u,as',rfl,h1,h2,h3,h4⟩:=hq
 exact⟨.inl ⟨u,_,as',rfl,fun _=>rfl,h1,(OpenSpec.post_iff hwell hwi _ _).mpr rfl,fun z=>Gu<|z⟩,h2,h3,h4⟩
def jc{K:CT->AS}{sp:AS->Sp}
  (hwell:r.wellSaid=true) (hdf:d.params.defaults= []) (hlen:r.args.length=ps.length) (hr:D_ k Oh)
  (hY: ∀ w h,YP w h->(K w.params).In h)
  (F: ∀ w (mg:Str->Option AN) (fa:AK) (h:Az),YP w h->(K w.params).In h->h.Ns FQ mg->mg d.name=some (.ref fa)->
   ∃ fd:FU,(∀(s:Ay) (us:List AN),us.length=ps.length->SK s fd ⟨us,[]⟩ (ps.zip us))/\
    ∀ base:Az,(K w.params).In base->base.Ns FQ mg->ET r.prog w (K w.params) mg base CX k fa fd ps (sp<|K w.params))
  (hsp: ∀(K:AS) (H:Hp) (xs:List V) (a:oq r.args),jT H->qr r.args a=true->Sl r.args r.asked a=true->Mm K H xs (PK r.args a)->
   sp K xs H (fun v H'=>Dw K H' v<|r.ret.enc<|Sl r.args r.f a) fun _ _ _=>False)
  (hCX: ∀(H:Hp) (s:Ay) (e:AN) (s':Ay),CX [] H s (fun _ _ _=>False) e s'->False):
  pQ q loose XP YP r d [] (fun f vs=>qu f vs):=
 sC hwell hdf hlen hr hY F (fun w H xs a h1 h2 h3 h4=>hsp (K w.params) H xs a h1 h2 h3 h4) fun _ H s e s'=>hCX H s e s'
end L2
end
end
section
namespace GF
open PySem PySem.Spec PyProof.Rows L2
section
open EG (Rw rws r0 tL OD KZ JH IJ Ll ju L0 d6)
open PySem.W (findIn isFn keepIn codeIn nsIn typeIn)
noncomputable def _root_.EG.Rw.fd(r:EG.Rw):FU:=KA r.x r.q (HG r.st) (EO r.st) (BY r.st) .none .none .none r.m none (.ref<|r.a-1) .none
noncomputable def AA:B3:=⟨fun n=>(rws.getD n r0).a,fun n=>(rws.getD n r0).fd,fun n=>([31,228,256,425,711,1310,1331,1385,1406]:List Nat).getD n 0,fun n=>([147,148,366,671,680,824,1084,1094,1249,1528]:List Nat).getD n 0⟩
noncomputable def mts:List (Nat×Str×Nat):=(31,"__init__",28):: [EG.iU,EG.RT,EG.Ra,EG.Yn,EG.Xg,EG.NY,EG.R1,EG.Kq].flatMap fun k=>k.ms.mapIdx fun i _=>(k.b+9+7*k.ms.length,EG.stN<|inClass (top k.j) i,k.b+13+7*i)
noncomputable def gls:List (Str×AN):=EG.gl0.map fun x=>(x.1,x.2.2)
noncomputable def cL:List Nat:= [228,256,425,711,1310,1331,1385,1406]
section
variable(P:CT)
def kc1:rws.map (fun r=>(EG.KK P).lookup r.a)=rws.map (fun r=>some ⟨.type "function",none,.func r.fd,#[]⟩):=by kernel_rfl
def kc2:rws.all (fun r=>WI (EG.KK P) (.ref<|r.a-1) r.q&&FW (EG.KK P) (.ref r.a))=true:=by kernel_rfl
def kc3:mts.all (fun x=>C9 (EG.KK P) (.ref x.1) x.2.1==some (some<|.ref x.2.2)&&V5 (EG.KK P) (.ref x.2.2))=true:=by kernel_rfl
def kc4:gls.all (fun x=>nsIn (EG.KK P) FQ x.1==some (some x.2))=true:=by kernel_rfl
def kc6:rws.all (fun r=>!(r.q==r.x)||nsIn (EG.KK P) FQ r.x==some (some<|.ref r.a))=true:=by kernel_rfl
def kc5:cL.all (fun C=>RQ (EG.KK P) C Od&&(XB (EG.KK P) C&&(fL (EG.KK P) C&&(C9 (EG.KK P) (.ref C) "__setattr__"==some (some<|.builtin "object.__setattr__")&&(Vv (EG.KK P) C&&FW (EG.KK P) (.ref C))))))=true:=by kernel_rfl
end
noncomputable def isR:AN->Nat->Bool
 | .ref b,a=>b==a
 | _,_=>false
def ACt: ∀{v:AN} {a:Nat},isR v a=true->v= .ref a:=fun{v a} h=>by cases v<;>first | exact BL CY (J_ h) | exact absurd h D0
def vc{n:Nat}{r:Rw}(h:rws[n]?=some r)(P:CT):Fun (EG.KK P) r.x r.q r.st r.a r.fd:=by
 have h1:=BL (fun l=>l[n]?)<|kc1 P
 simp only[CZ,h,Rk]at h1
 have h2:=DB<|GB.mp (kc2 P) r<|PZ h
 exact ABR (C5 h1) h2.1 h2.2
def ADY{n:Nat}{x:Nat×Str×Nat}(h:mts[n]?=some x)(P:CT)(k:FW (EG.KK P) (.ref x.2.2)=true):Meth (EG.KK P) x.1 x.2.1 x.2.2:=by
 have h2:=DB<|GB.mp (kc3 P) x<|PZ h
 exact⟨Fn.mp h2.1,h2.2,k⟩
noncomputable def isI:AN->Int->Bool
 | .int j _,i=>j==i
 | _,_=>false
section
variable{P:CT}{h:Az}{mg:Str->Option AN}(X:(EG.KK P).In h)(G:h.Ns FQ mg)
include X G
def gR{x:Str}{a:Nat}(e:gls.any (fun g=>g.1==x&&isR g.2 a)=true:=by kernel_rfl):mg x=some (.ref a):=by
 obtain⟨g,hg,q⟩:=Wh.mp e
 have z:=dX X G<|Fn.mp<|GB.mp (kc4 P) g hg
 rwa[J_ (DB q).1,ACt (DB q).2]at z
theorem gI{x:Str}{i:Int}(e:gls.any (fun g=>g.1==x&&isI g.2 i)=true:=by kernel_rfl): ∃ t,mg x=some (.int i t):=by
 obtain⟨⟨y,v⟩,hg,q⟩:=Wh.mp e
 have z:=dX X G<|Fn.mp<|GB.mp (kc4 P) _ hg
 rw[J_ (DB q).1]at z
 cases v with
 | int j t=>exact⟨t,by rw[z,J_ (DB q).2]⟩
 | _=>exact absurd (DB q).2 D0
end
def lj{C:Nat}(P:CT)(m:C∈cL):ao (EG.KK P) C/\Vv (EG.KK P) C=true/\FW (EG.KK P) (.ref C)=true:=by
 have h:=DB<|GB.mp (kc5 P) C m
 have h2:=DB h.2
 have h3:=DB h2.2
 have h4:=DB h3.2
 have h5:=DB h4.2
 exact⟨⟨h.1,h2.1,h3.1,Fn.mp h4.1⟩,h5.1,h5.2⟩
noncomputable abbrev BA(x q:Str)(st:Bi)(ps:List Str)(us:List AN):Prop:= ∀ kV doc pm an cdv ct,eB (KA x q (HG st) (EO st) (BY st) .none kV doc pm an cdv ct) ⟨us,[]⟩=CB (ps.zip us)
section
variable{K:AS}{x q:Str}{st:Bi}{f:AK}{fd:FU}{ps:List Str}(F:Fun K x q st f fd)
include F
def AF2(l:ps.length=1)(e: ∀ u0,BA x q st ps [u0]):Binds K fd ps []:=F.binds fun kV doc pm an cdv ct us hl=>by rw[l]at hl;exact match us,hl with | [u0],_=>e u0 kV doc pm an cdv ct
def AFS(l:ps.length=2)(e: ∀ u0 u1,BA x q st ps [u0,u1]):Binds K fd ps []:=F.binds fun kV doc pm an cdv ct us hl=>by rw[l]at hl;exact match us,hl with | [u0,u1],_=>e u0 u1 kV doc pm an cdv ct
def AFo(l:ps.length=3)(e: ∀ u0 u1 u2,BA x q st ps [u0,u1,u2]):Binds K fd ps []:=F.binds fun kV doc pm an cdv ct us hl=>by rw[l]at hl;exact match us,hl with | [u0,u1,u2],_=>e u0 u1 u2 kV doc pm an cdv ct
def AFs(l:ps.length=4)(e: ∀ u0 u1 u2 u3,BA x q st ps [u0,u1,u2,u3]):Binds K fd ps []:=F.binds fun kV doc pm an cdv ct us hl=>by rw[l]at hl;exact match us,hl with | [u0,u1,u2,u3],_=>e u0 u1 u2 u3 kV doc pm an cdv ct
def AFG(l:ps.length=5)(e: ∀ u0 u1 u2 u3 u4,BA x q st ps [u0,u1,u2,u3,u4]):Binds K fd ps []:=F.binds fun kV doc pm an cdv ct us hl=>by rw[l]at hl;exact match us,hl with | [u0,u1,u2,u3,u4],_=>e u0 u1 u2 u3 u4 kV doc pm an cdv ct
def AFn(l:ps.length=6)(e: ∀ u0 u1 u2 u3 u4 u5,BA x q st ps [u0,u1,u2,u3,u4,u5]):Binds K fd ps []:=F.binds fun kV doc pm an cdv ct us hl=>by rw[l]at hl;exact match us,hl with | [u0,u1,u2,u3,u4,u5],_=>e u0 u1 u2 u3 u4 u5 kV doc pm an cdv ct
end
def qm{n:Nat}{r:Rw}(e:rws[n]?=some r):AA.ad n=r.a/\AA.fd n=r.fd:=by
 have z:rws.getD n r0=r:=by rw[Cc,e];rfl
 exact⟨BL Rw.a z,BL Rw.fd z⟩
section
variable{P:CT}{n C:Nat}{x q:Str}{st:Bi}{ps:List Str}
def tI{m:AN}{a t:Nat}(e:rws[n]?=some ⟨x,q,st,m,a,t⟩:=by exact rfl)(b:Fun (EG.KK P) x q st a (Rw.fd ⟨x,q,st,m,a,t⟩)->Binds (EG.KK P) (Rw.fd ⟨x,q,st,m,a,t⟩) ps []:=by intro F;first | exact AF2 F rfl fun _ _ _ _ _ _ _=>rfl | exact AFS F rfl fun _ _ _ _ _ _ _ _=>rfl | exact AFo F rfl fun _ _ _ _ _ _ _ _ _=>rfl | exact AFs F rfl fun _ _ _ _ _ _ _ _ _ _=>rfl | exact AFG F rfl fun _ _ _ _ _ _ _ _ _ _ _=>rfl | exact AFn F rfl fun _ _ _ _ _ _ _ _ _ _ _ _=>rfl):Fun (EG.KK P) x q st (AA.ad n) (AA.fd n)/\Binds (EG.KK P) (AA.fd n) ps []:=by
 rw[(qm e).1,(qm e).2]
 exact⟨vc e P,b<|vc e P⟩
def tD{h:Az}{mg:Str->Option AN}{m:AN}{a t:Nat}(X:(EG.KK P).In h)(G:h.Ns FQ mg)(e:rws[n]?=some ⟨x,x,st,m,a,t⟩:=by exact rfl)(i:Fun (EG.KK P) x x st (AA.ad n) (AA.fd n)/\Binds (EG.KK P) (AA.fd n) ps []:=by exact tI):Df (EG.KK P) mg x st ps (AA.ad n) (AA.fd n):=by
 have q:=GB.mp (kc6 P) _<|PZ e
 rw[qJ]at q
 refine⟨i.1,i.2,dX X G<|Fn.mp<|q.elim (fun z=>?_) fun z=>?_⟩
 ·exact absurd (cH x)<|by simpa using z
 ·rw[(qm e).1];exact z
def mz{a:Nat}(kp:FW (EG.KK P) (.ref a)=true)(eg:mts.any (fun g=>g.1==C&&(g.2.1==x&&g.2.2==a))=true):Meth (EG.KK P) C x a:=by
 obtain⟨⟨c',x',a'⟩,hg,q'⟩:=Wh.mp eg
 obtain⟨q1,q'⟩:=DB q'
 obtain⟨q2,q3⟩:=DB q'
 cases J_ q1
 have h2:=J_ q2
 have h3:=J_ q3
 dsimp only at h2 h3
 subst h3
 obtain⟨k,hk⟩:=List.getElem?_of_mem hg
 have z:=ADY hk P kp
 dsimp only at z
 rwa[h2]at z
def tM(i:Fun (EG.KK P) x q st (AA.ad n) (AA.fd n)/\Binds (EG.KK P) (AA.fd n) ps []:=by exact tI)(eg:mts.any (fun g=>g.1==C&&(g.2.1==x&&g.2.2==AA.ad n))=true:=by kernel_rfl)(c:C∈cL:=by decide+kernel):Dm (EG.KK P) C x q st ps (AA.ad n) (AA.fd n):=⟨i.1,i.2,mz i.1.kp eg,(lj P c).1⟩
def tKl{r:Rw}(e:rws[n]?=some r:=by exact rfl)(eg:mts.any (fun g=>g.1==C&&(g.2.1==("__init__":Str)&&g.2.2==AA.ad n))=true:=by kernel_rfl)(c:C∈cL:=by decide+kernel):Mk (EG.KK P) C (AA.ad n):=
 have z:=mz (by rw[(qm e).1];exact(vc e P).kp) eg
 ⟨(lj P c).2.1,z.at_,z.fn,(lj P c).2.2⟩
end
section
variable{P:CT}{h:Az}{mg:Str->Option AN}(X:(EG.KK P).In h)(G:h.Ns FQ mg)
include X G
def txC:TxC (EG.KK P) mg AA:=by
 constructor<;>first | exact tKl | exact(show(_:Bool)=true by kernel_rfl) | exact gR X G | exact(lj P<|by decide+kernel).1 | exact⟨by kernel_rfl,by kernel_rfl,by kernel_rfl,by kernel_rfl,by kernel_rfl,gR X G,(tI (n:=0)).2⟩
def txK:TxK (EG.KK P) mg AA:=by
 constructor<;>first | exact gI X G | exact gR X G | exact PySem.W.mg_none_of X G (by kernel_rfl) | exact fun H=> .inr ⟨EG.oT [.int 16384 395,.int 0 396],#[.int 16384 395,.int 0 396],0,by kernel_rfl,rfl,rfl,by decide,.cons ⟨_,rfl⟩<|.cons ⟨_,rfl⟩ .nil⟩ | exact fun H=> .inr ⟨EG.oT [.int 0 398,.int 16384 399],#[.int 0 398,.int 16384 399],0,by kernel_rfl,rfl,rfl,by decide,.cons ⟨_,rfl⟩<|.cons ⟨_,rfl⟩ .nil⟩
def txt:Txt (EG.KK P) mg AA:=by constructor<;>first | exact txC X G | exact txK X G | exact tI | exact tM | exact tD X G
end
noncomputable def tV:AN->V
 | .ref a=> .ref a
 | .int i _=> .int i
 | _=> .non
noncomputable def tOk:AN->Bool
 | .ref _=>true
 | .int _ _=>true
 | _=>false
theorem ABa{v:AN}(h:tOk v=true):RelV (tV v) v:=by
 cases v with
 | ref a=>rfl
 | int i t=>exact⟨t,rfl⟩
 | _=>cases h
noncomputable def tO(l:List (Int×Nat×AN))(n:Nat):Obj:=EG.oD (EG.tL l) n
noncomputable def tK(l:List (Int×Nat×AN)):List (Key×V):=l.map fun x=>(.inl x.1,tV x.2.2)
def AE1{P:BH}{w:Ao}{K:AS}{a:Nat}{l:List (Int×Nat×AN)}{n:Nat}(hk:K.lookup a=some (tO l n))(hs:(a==G5)=false)(ok:(l.all fun x=>tOk x.2.2&&(Vt x.1==x.1))=true)(nd:(l.map (·.1)).Nodup):KD P w K a (tK l):=by
 refine⟨hs,l.map fun x=>((.inl x.1:Key),x.2.2),?_,fun h X=>⟨_,_,_,X _ _ hk,⟨rfl,rfl,rfl⟩,rfl,?_,?_,?_⟩⟩
 ·have: ∀ l:List (Int×Nat×AN),(l.all fun x=>tOk x.2.2&&(Vt x.1==x.1))=true->KV (tK l) (l.map fun x=>((.inl x.1:Key),x.2.2)):=by
   intro l
   induction l with
   | nil=>intro _;exact .nil
   | cons x l ih=>
    intro h
    rw[List.all_cons]at h
    exact .cons ⟨rfl,ABa (DB (DB h).1).1⟩<|ih (DB h).2
  exact this l ok
 ·intro e he
  rw[List.mem_toArray]at he
  obtain⟨x,hx,rfl⟩:=Fv.mp he
  have:=GB.mp ok x hx
  exact⟨.inl x.1,cH _,(Fn.mp (DB this).2).symm⟩
 ·have: ∀ l:List (Int×Nat×AN),Pairs (DW P w) (tL l) (l.map fun x=>((.inl x.1:Key),x.2.2)):=by
   intro l
   induction l with
   | nil=>exact .nil
   | cons x l ih=>exact .cons (cH _) rfl ih
  rw[List.toList_toArray]
  exact this l
 ·rw[Om]
  have e:(l.map<|(fun(kv:Key×AN)=>kv.1)∘fun x=>((.inl x.1:Key),x.2.2))=(l.map (·.1)).map II:=by rw[Om];rfl
  rw[e]
  exact qQ.mpr<|nd.imp fun h e=>h<|fy e
def tabs(Pr:BH)(w:Ao):Ku Pr w (EG.KK w.params) AA:=by
 have k {a n:Nat} {l:List (Int×Nat×AN)} {t:List (Key×V)} (e:tK l=t) (hk:(EG.KK w.params).lookup a=some (tO l n)) (hs:(a==G5)=false) (ok:(l.all fun x=>tOk x.2.2&&(Vt x.1==x.1))=true) (nd:(l.map (·.1)).Nodup):KD Pr w (EG.KK w.params) a t:=e▸AE1 hk hs ok nd
 constructor
 ·exact k (l:=OD) (n:=10) (by kernel_rfl) (by kernel_rfl) (by decide) (by decide+kernel)<|by decide+kernel
 ·exact k (l:=KZ) (n:=18) (by kernel_rfl) (by kernel_rfl) (by decide) (by decide+kernel)<|by decide+kernel
 ·exact k (l:=JH) (n:=6) (by kernel_rfl) (by kernel_rfl) (by decide) (by decide+kernel)<|by decide+kernel
 ·exact k (l:=IJ) (n:=16) (by kernel_rfl) (by kernel_rfl) (by decide) (by decide+kernel)<|by decide+kernel
 ·exact k (l:=Ll) (n:=51) (by kernel_rfl) (by kernel_rfl) (by decide) (by decide+kernel)<|by decide+kernel
 ·exact k (l:=ju) (n:=6) (by kernel_rfl) (by kernel_rfl) (by decide) (by decide+kernel)<|by decide+kernel
 ·exact k (l:=L0) (n:=42) (by kernel_rfl) (by kernel_rfl) (by decide) (by decide+kernel)<|by decide+kernel
 ·exact k (l:=d6) (n:=11) (by kernel_rfl) (by kernel_rfl) (by decide) (by decide+kernel)<|by decide+kernel
end
end GF
end
open PySem PySem.W PyProof.Rows
set_option maxRecDepth 100000 in
set_option maxHeartbeats 0 in
theorem PySem.Challenge.cw_gridfit_s01_answers_holds : PySem.Challenge.rw_gridfit_s01_answers.Holds := by
 refine holds_os (q:=EG.qS) (loose:=EG.ft) (Xt:=EG.XtS) (XP:=XL EG.qS []) (Yf:=fun s=>s.heap) (Ya:=fun w=>EG.H1 w.params) (YP:=fun w h=>(EG.KK w.params).In h) (N:=30000) EG.hlN (fun w s e=>by rw[show s.heap=_ from e];exact EG.AFp _) (fun w h h' X k=>X.keeps k) (fun s e=>xl_of s (O4.mp e).1) XL.keeps (by rfl) (by rfl) (by rfl) (fun s e=>recFacts_of (O4.mp e).2) os_shapes GF.AEt EG.d1 ⟨rfl,rfl,rfl,rfl,rfl,GF.d2⟩ ?hw ?hc
 case hw=>exact⟨[.list []],by decide+kernel,by decide+kernel⟩
 refine L2.jc (r:=Wf) (K:=EG.KK) (k:=13) (CX:=L2.eT) (ps:= ["calls"]) (sp:=GF.uG) GF.AEt rfl rfl ⟨rfl,by decide,by decide⟩ (fun w h Y=>Y) ?F ?S fun _ _ _ _ z=>z
 case F=>
  intro w mg fa h Y KX G hmg
  have T:=GF.txt KX G
  have e:CY fa=CY _:=C5<|hmg.symm.trans T.answers.g
  injection e with e
  subst e
  exact⟨_,fun s us hu=>match us,hu with | [_],_=> .of_eq rfl,fun base _ _=>GF.kW<|GF.tabs _ w⟩
 case S=>
  intro K H xs a hO hwi hask hx
  cases hx with
  | cons h1 h2=>
   cases h2
   cases h1 with
   | lst hs ha=>
    have e:=L2.mR a.1 _ ha
    subst e
    exact⟨_,a.1,rfl,hs,hask,fun H' p hp=> .lst (L2.BF.of hp)<|L2.qB _⟩
