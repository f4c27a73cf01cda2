import PyProof.Rows.All
import Wide.All
import OpenK.AllK
import Wide.FinOn
import PyProof.EqAt
import PyProof.EqKinds
import PyProof.TupleCall
import KE.BitLaws
import PyProof.StationsW
import PyProof.PassesOwn
import PyProof.Rows.CatchBare
import PyProof.ZipIter
import Open.SpecLaws
import KE.OsHead
import KE.OsGo
import PySem.Challenge.RW_lanecode_s01_answers
import LnSpec
import NeutralIO
import PyFlat
import YqlnoaNeutral
import PyYqlnoa
set_option Elab.async false
set_option linter.all false
set_option maxRecDepth 100000
set_option maxHeartbeats 4000000
set_option compiler.extract_closed false
set_option bootstrap.genMatcherCode false
open Option renaming some->B,none->Z,bind_some->bM,bind->fm,map_some->gC,bind_eq_some_iff->jk,map_eq_some_iff->jl,map_map->jF,map->k7,bind_none->rf,isSome->tJ,isSome_iff_exists->rg,none_or->tK,isSome_map->CF,ne_none_iff_exists'->CG,isNone_iff_eq_none->Jw,getD_none->Xy,isSome_some->Xz,map_eq_none_iff->XA,map_none->XB
open List renaming length->U,length_map->aP,mem_cons->bh,getElem?_eq_getElem->bF,length_cons->bR,toArray->bS,mem_of_getElem?->bY,all_eq_true->cq,length_append->cA,getD_eq_getElem?_getD->cV,map_cons->cC,map_map->cD,mem_map->c4,range->dc,getElem?_map->du,mem_cons_of_mem->dv,getElem?_eq_some_iff->el,map_append->eV,size_toArray->eW,mem_range->gk,mem_cons_self->gU,length_take->gj,findIdx?_eq_none_iff->iE,getElem?_eq_none->iF,mem_append->iZ,length_nil->iY,find?_cons->jD,append_nil->j3,length_eq_zero_iff->iG,length_range->j4,not_mem_nil->fZ,getElem_mem->lN,lookup_cons->kZ,take_length->lO,contains_cons->mP,isEmpty_iff->mQ,length_drop->kY,any_cons->oa,length_set->og,sum_cons->oh,any_eq_false->pR,drop_drop->pS,findIdx?_cons->pU,mem_append_right->pV,of_mem_zip->pX,append_assoc->qR,flatMap_cons->qT,lookup->qU,map_congr_left->qV,map_take->qW,mem_filter->qX,take_add_one->qY,all_cons->sX,any_eq_true->sY,findIdx?_eq_some_iff_getElem->sZ,foldr_cons->tj,forIn_cons->tm,map_nil->tp,all_map->vn,cons_append->vo,drop_eq_getElem_cons->vp,flatMap_append->vq,getElem?_eq_none_iff->vt,getElem?_set->vu,length_zip->vv,map->abW,mem_singleton->yJ,take_append_drop->vw,any_map->Cc,flatMap_def->yF,flatten_cons->yG,map_drop->yH,map_id->yI,nodup_cons->mR,replicate->yK,takeWhile_cons->yL,dropLast_cons_of_ne_nil->Cd,drop_eq_nil_of_le->Ce,ext_getElem?->Cf,filter->Cg,getElem?_drop->Ci,getElem?_eraseIdx->Cj,getElem?_take_of_lt->Ck,getLast?_cons_cons->Cm,length_filter_le->Cn,length_replicate->Co,mem_append_left->Cp,mem_of_mem_drop->Cq,set->ab3,take_zero->Cr,toList_toArray->Cs,zip_cons_cons->Ct,contains_eq_any_beq->IK,dropLast_eq_take->IL,drop_length->IM,drop_zero->IP,filterMap_cons->IQ,filter_append->IS,findIdx?_append->IT,forIn_nil->IU,getD_cons_succ->IV,getElem?_replicate->IW,getElem?_set_ne->IY,getElem?_set_self->IZ,getElem?_zip_eq_some->I0,getElem_range->W5,length_dropLast->I_,length_singleton->Ja,mapM_nil->Jb,mem_take_iff_getElem->Jc,nil_append->Jd,pairwise_iff_getElem->b4,range_succ->Je,reverse_cons->Jf,take_nil->Jg,zip_nil_right->Jh,contains_iff_mem->WQ,dropWhile_cons->WR,drop_succ_cons->WS,filter_eq_nil_iff->WT,find?_append->WU,flatMap_nil->WV,foldl_append->WW,getElem?_append_left->WX,getElem?_append_right->WY,getElem?_cons_succ->WZ,getElem?_range->W0,getElem?_take->W2,getElem?_zipIdx->W3,getElem_of_mem->W4,head?_cons->W6,length_reverse->W7,length_zipIdx->W8,mapM_cons->W9,map_inj_right->W_,mem_filterMap->Xa,mem_flatMap->Xb,mem_iff_getElem->Xc,mem_iff_getElem?->Xd,mem_of_head?->Xe,mem_of_mem_head?->Xf,range'_succ->Xg,range_succ_eq_map->Xh,set_eq_take_append_cons_drop->Xi,takeWhile_cons_of_pos->Xj,take_eq_take_iff->Xk,take_of_length_le->Xl,take_sublist->Xm,take_succ_eq_append_getElem->Xn,zip_map_right->Xo
open Bool renaming true->Y,false->ag,and_eq_true->a6,eq_iff_iff->cb,and_false->fY,false_ne_true->gT,and_true->iW,not_eq_true'->iX,false_and->jj,and_assoc->j1,or_eq_true->j2,true_and->kX,not_eq_false'->lM,or_eq_false_iff->sV,and_eq_true_iff->yE,and_eq_false_iff->yD,false_or->B8,true_or->B9,false_eq_true->WL,true_eq_false->WM
open PySem renaming Addr->aa,Value->ae,Shared->ak,Expr->aw,wpAny_bind->aZ,Heap->a8,World->bj,Program->bU,Scope->cB,wpAny_pure->cZ,OsState->fx,IsPair->gD,mem_of_lookup->ik,NameKind->jm,wpAny_field->j7,wpAny_mono->kE,CmpOp->oA,wpAny_setField->oD,IsZip->p8,call_meets->qe,wpAny_truthy_bool->qf,wpAny_Call_Name_kw->rm,typeIs_str->tM,wpAny_seqItems->tN,GenState->y6,codeAny_mono->zf,wpAny_execs_nil->zg,wpAny_holding->zh,wpAny_onRaise->zi,Comprehension->CK,IsRangeIter->CP,plainId_quiet->CY,pushCells_keeps->CZ,tupleKind_room_in1->C0,wpAny_callSpecial?_slot->C3,wpAny_call_entry->C4,wpAny_pyIter_list->C5,wpAny_pyIter_zip->C6,wpAny_rule->C7,Within->J1,codeAny_call_function->J2,codeAny_func->J3,frameOf->J4,seqIndex_neg->J5,seqIndex_of->J6,sizeLine_eq->J7,wpAny_execs_cons->J8,wpAny_letGo->J9,wpAny_newFunctionEnv_cells->J_,wpAny_pyIter_tuple->Ka,wpAny_standAt->Kb,wpAny_updateSeq_pair->Kc,evalArgs_none->Yl,intText?->Ym,wpAny_Call_method_late->Yn,wpAny_letOwnedTupleGo_zip->Yo,wpAny_nextOf_list_item->Yp,wpAny_pyIter_rangeiter->Yq,wpAny_pyNext_list_end->Yr,wpAny_pyNext_list_item->Ys,wpAny_pyNext_range_end->Yt
open Ln renaming Bytes->aj,Code->a7,Line->aO,Op->bf,noOp->bp,Shape->bT,Piece->cg,ascii->cy,numOf->cO,numR->cT,Hold->c5,Call->dY,splitBy->dG,nums->en,line->eA,timesR->eJ,any->fJ,upR->gB,ofCode->hG,Result->i0,step->jE,RANKS->kx,flowFlaw->ky,hexDigit->kz,flaw->k4,hexText->k6,shapeOf->lP,numsOf->mT,KINDS->om,MARK->oo,NONE->oq,hexOf->ot,holdsOf->ou,opR->ov,spaced->ow,callOf->pY,lineOf->pZ,opNames->p4,Fields->qZ,shapeR->ra,unhex->rb,Ask->tq,asked->tw,bare->tD,opOf->tE,sizeOf->tF,timesOf->tG,callOk->vz,firstBad->vA,judged->vB,ofBytes->vC,opsFlaw->vD,pieceOk->vE,resultR->vF,shapeBytes->vG,takeR->vH,CELLS->yM,Flaw->yO,boundsFlaw->yQ,decimal->yR,front->yS,headR->yT,mostOf->yU,nameOk->yV,ofText->yW,resultOf->yX,flowOk->Cv,pieceOp->Cw,allRoom->Jk,bodiesR->Jl,callsFlaw->Jm,linesOf->Jn,nameBytes->Jo
open PySem.W renaming Frag->aR,boot_heap->mZ,boot_drawn->oC,emptyDict->qa,findIn->qb,keepIn->qd,fnOf->rk,instObj->rl,boot_toks->zd,callWith_K->ze,cellsFrom_some->CT,codeIn->CU,lookIn->CV,plainGet->CW,callWith_K0->JU,codeRec_of->JV,hasDictIn->JW,isFn->JX,methodObj->JY,plainGet_of->JZ,takerIn->J0,WRecords->Yd,handedIn->Ye,ktu_apart->Yg,length_le_weightAllW->Yh,makesIn->Yi,methodCall_KW->Yj,plainOver->Yk
open Nat renaming le_refl->bD,le_trans->cu,le_of_ble_eq_true->cX,ne_of_lt->fk,lt_of_lt_of_le->gV,zero_le->iH,ble->mU,lt_irrefl->mV,le_add_right->ox,mod_eq_of_lt->oy,le_succ->p5,ne_of_gt->p6,le_of_lt->rd,le_of_eq->tI,lt_succ_self->vI,zero_add->vJ,zero_lt_succ->vK,add_assoc->abZ,min_eq_left->CA,mul_comm->yZ,le_of_succ_le->Cy,lt_trans->Cz,pow_succ->CB,repr_eq_ofList_toDigits->CC,le_of_not_lt->Jr,lt_succ_iff->Js,lt_succ_of_lt->Jt,mod_lt->Ju,mul_assoc->Jv,div_add_mod->Xq,div_div_eq_div_mul->Xr,div_lt_of_lt_mul->Xs,eq_of_beq_eq_true->Xu,min_eq_right->Xv,not_lt_zero->Xw,sub_min_sub_right->aco,succ_ne_self->Xx
open PySem.Heap renaming lt_size->cv,get?_push_of_some->dh,get?_push_size->f6,size_push->i1,get?_update_other->lQ,get?_update_self->oB,SameBut->vN,get?_none_of_le->vO,ExtBut->JL,SlotsOnly->X4
open PySem.Value renaming ref->cY,type->p_,bool->rj,isStrOf->vX,ellipsis->vW,int->zc,isInt->aaJ,isInt_shape->acs,isStrOf_shape->acw
open PySem.Paired renaming length->di
open PySem.Str renaming ofString->dj,join->vR,append->CQ,ofString_eq_toList->JQ
open Option.some renaming inj->eg
open UInt8 renaming ofNat->eB,toNat->fz,toNat_ofNat'->rn,toNat_inj->tP,ofNat_toNat->zk,le_iff_toNat_le->Kg
open Unit renaming unit->fo
open PySem.PyData renaming eqv->eX,eqvAll->rh,depthAll->vQ,canLayAll0->za,depth->X8
open False renaming elim->gA
open LnNeutral renaming step->j5,bytesOf->kC,start->kD,told->tH,asked1->Jp,text->yY,callOf->Jq
open PySem.Obj renaming mapFields->j6,mapSeq->y9,data_mapFields->JN,isFreed_of_fields->X7
open PySem.Builtin.SmallTypes renaming nextOf->mW,ownedTupleIsFree->XI
open PySem.W.Fast renaming te10110043849684766642->mX,te14364793385576792824->mY
open Ln.Hold renaming text->oj,shape->vx,there->yP
open Sum renaming inr->oE,inl->tO
open PyFlat renaming calls->p7,played->vL,told->vM,row->CH,rows->CI,call->Jx
open PySem.TablesWhole renaming holds->p9,wSs->vS,noTwice->JR,wModule->JS,wS->JT,gather->Yb
open ForInStep renaming yield->qP
open Ln.Shape renaming ok->q_
open PySem.SeqAt renaming shaped->ri,EqAt->JO
open Int renaming natCast_nonneg->abL,toNat_natCast->sW,eq_ofNat_of_zero_le->B_,natCast_mul->Cb,fdiv_eq_ediv_of_nonneg->WN,natCast_add->WO,toNat_of_nonneg->qQ
open Ln.Op renaming bytes->tu,text->vy
open PySem.Calls renaming callWith_builtin->tL,evalArgs_plain->y4,spliced_cons->CJ,Name_function_global->JC,spliced_nil->JE,loadGlobal_global->XN
open PySem.NameKind renaming free->vP,cell->JM
open PySem.Txt renaming find->vT,isdigit->vU,join->vV,endswith->zb
open Array renaming getElem?_eq_some_iff->yB,toList->yC,length_toList->B7,append_assoc->WG,getElem?_eq_getElem->WH,getElem?_eq_none->WI,getElem?_toList->WJ,getElem_mem->WK
open Ln.Call renaming text->yN,bytes->Ji
open PyProof.Rows renaming callWith_type1->y2,subscriptTail_builtinR->XC
open PySem.Builtin.Range renaming rangeSize->y3,small->XH
open PySem.Heap.SameBut renaming update->y8
open PyYqlnoa renaming answers->zj,answers_asked->Kd,calls->Ke
open Ln.Piece renaming text->Cu,headBytes->Jj
open PySem.Data renaming seq->CL
open PySem.F renaming slot_str_split->CM,slot_tuple_iterator_next->CN,slot_zip_next->CO,args_str_split_2->JG,entry_str_split->JH,excBase_Exception->JI,plainAttrs_list->JJ,slot_list_getattribute->JK,args_tuple_add_2->XR,args_tuple_iterator_next_1->XS,args_zip_next_1->XT,entry_tuple_add->XU,entry_tuple_iterator_next->XW,slot_dict_get->XX,slot_list_append->XY,slot_list_extend->XZ,slot_list_index->X0,slot_tuple_add->X1,slot_tuple_index->X2
open PySem.Unicode renaming isDigit->CS
open String renaming toList_ofList->C8
open PySem.Around renaming under->Jy,frames_deeper->XE,under_plainId->XF
open PySem.Builtin.List renaming listTooLong->Jz
open PySem.Builtin.Str renaming occurrences->JA,partsBetween->XJ,strKind->XM
open PySem.Builtin renaming bitAnd->JB
open PySem.Code renaming isFrame->JF
open PySem.Shared renaming heap->JP
open Sum.inr renaming inj->Kf
open Ln.Code renaming text->Xp
open PyProof renaming noPylong_small->XD
open PySem.Builtin.Dict renaming updateFrom->XG
open PySem.Challenge renaming pw_lanecode_s01_answers->XO,rw_lanecode_s01_answers->al3
open PySem.EntryCells renaming newEntry->XQ
open PySem.Heap.DictOf renaming new->X3
open PySem.IsRange renaming new->X5
open PySem.NumText renaming digitsVal->X6
open PySem.SeqAt.EqAt renaming int_str->X9,str_int->X_
open PySem.Value.type renaming inj->Yc
open Std.Legacy.Range renaming forIn_eq_forIn_range'->al4,size->al5
local macro_rules|`(@e_)=>`(by walk_at "e")|`(@a_)=>`(by walk_at "a")|`(@t_)=>`(by walk_at "t")|`(@w_)=>`(by walk_at "w")|`(@o_)=>`(by lia)|`(@O_)=>`(by omega)|`(@s_)=>`(by simp)|`(@k_)=>`(by decide+kernel)|`(@d_)=>`(by decide)|`(@g_)=>`(by grind)|`(@m_)=>`(by simp;lia)|`(@h_)=>`(by assumption)|`(@r_)=>`(by rfl)|`(@y_)=>`(by kernel_rfl)
set_option hygiene false in
local macro_rules|`(@b_)=>`(af ())|`(@c_)=>`(model X.prog X.w)|`(@f_)=>`(λE=>?_)|`(@i_)=>`(λM=>by walk_at "a")|`(@j_)=>`(λz=>by cases z)|`(@l_)=>`(model prog w)|`(@n_)=>`(compEnvC scope cl C X.env)|`(@p_)=>`(λ_ _ _ z=>z)|`(@q_)=>`(D.ad "NoText")|`(@u_)=>`(lX CX P w K mg base N d a f g A c s H E)|`(@v_)=>`(notedBy @l_ A a λe i=>R (.error e) i)|`(@x_)=>`(λE=>[by kernel_rfl,by kernel_rfl,by kernel_rfl,by kernel_rfl,by kernel_rfl,by kernel_rfl])|`(@z_)=>`(λM=>af ())|`(@a__)=>`(X.cx t H3 scope P l)
set_option hygiene false in
local macro_rules|`(tactic|lk)=>`(tactic|refine aK (λE=>?_) rfl)
local macro_rules|`(def $n $s:optDeclSig:=$v)=>`(noncomputable def $n $s:optDeclSig:=$v)
local macro_rules|`(def $n $s:optDeclSig $v:matchAltsWhereDecls)=>`(noncomputable def $n $s:optDeclSig $v:matchAltsWhereDecls)
local macro_rules|`(abbrev $n $s:optDeclSig:=$v)=>`(noncomputable abbrev $n $s:optDeclSig:=$v)
section
local macro_rules|`([$x,*])=>if x.getElems.isEmpty then Lean.Macro.throwUnsupported else`(⟨$x,*⟩)
local macro_rules|`(#[$x,*])=>do
  if x.getElems.isEmpty then Lean.Macro.throwUnsupported
  let mut r<-`(List.nil)
  for a in x.getElems.reverse do r<-`(List.cons $a $r)
  return r
local macro_rules|`(())=>`(rfl)
local macro_rules|`(tactic|let $d:letDecl)=>`(tactic|refine_lift have $d:letDecl;?_)
local macro_rules|`(tactic|let[$x,*]:=$e)=>do
  let rec c(n:Nat)(t:Lean.Syntax):Lean.MacroM (Lean.TSyntax `rcasesPat):=match n with
   |0=>Lean.Macro.throwUnsupported
   |n+1=>match t with
    |`([$x,*])=>do
     let y<-x.getElems.mapM fun z=>do
      let q<-c n z
      `(Lean.Parser.Tactic.rcasesPatLo|$q:rcasesPat)
     `(rcasesPat|⟨$y,*⟩)
    |`($i:ident)=>`(rcasesPat|$i:ident)
    |_=>`(rcasesPat|_)
  let q<-c 9 (<-`([$x,*]))
  `(tactic|rcases $e:term with $q:rcasesPat)
local macro_rules|`(tactic|show $e:term)=>`(tactic|refine $e)
local macro_rules|`(($e :))=>`(by simpa using $e)
local macro_rules|`(~~~$e)=>`(decide $e)
local macro_rules|`(↑$e)=>`($e|>.heap.objs.size)
local macro_rules|`($f $ $a)=>match f with|`($g $x*)=>if g.raw.getId==`SD then`($g $x* (.rt $a $(x.back!)))else`($g $x* (.vl $a $(x.back!)))|_=>Lean.Macro.throwUnsupported
def aaa:=@if_neg
def aab:=@if_pos
def aac:=@decide_eq_false
def aad:=@congrArg
def aae:=@decide_eq_true
def aaF:=@beq_iff_eq
def aaI:=@propext
def aaK:=@decide_eq_true_eq
def aaL:=@of_decide_eq_true
def aaP:=@decide_eq_decide
def aaQ:=@decide_eq_true_iff
def aaR:=@beq_eq_false_iff_ne
def aaS:=@decide_eq_false_iff_not
def aaO:=@or_false
def abu:=@if_true
def abw:=@of_decide_eq_false
def abG:=@if_false
def abH:=@ne_true_of_eq_false
namespace Hd
open PySem PySem.W
abbrev Pg:bU:=XO
abbrev Er:Str:="/claim/cut.py"
def n_(vs:List ae):Obj:={cls:=.type "tuple",data:=.seq vs.toArray}
def ny(c:ae)(vs:List ae):Obj:={cls:=c,data:=.fields vs.toArray}
def treeOf:BT->Nat->List Obj->BT|T,_,[]=>T|T,i,o::r=>treeOf (T.ins i o) (i+1) r
structure L where
 n:Nat
 t:Nat
 T:BT
 ge:List (Str×Nat×ae)
 tab:List ae
 nm:ae
 sub:List<|Str×Nat×ae
def toks:Nat->List Str->List ae|_,[]=>[]|t,x::r=>.str x t::toks (t+1) r
def zM(n t:Nat)(name q:Str)(line b c:Nat)(a:Bool)(d e f:ae)(m:Nat):Obj:=ny (.type "code") #[.str name t,.str q<|t+1,.str Er<|t+2,rawInt line,rawInt b,rawInt 0,rawInt 0,rawInt c,.ref n,.bool a,rawInt 181,.ref<|n+1,.none,d,e,f,rawInt (t+3+m:Nat),rawInt line,.str Er<|t+4+m]
def LY(b:ae)(n t:Nat)(name q:Str)(args:Arguments)(body:List Stmt)(scope:cB)(line:Nat):List Obj×Nat:=
 let a:FuncData:={name,qualname:=q,params:=args,body:=.stmts body,scope,globals:=builtinsNs,closure:=[],defaults:=.none,kwdefaults:=.none};let c:=args.posonlyargs.length+args.args.length;match localNames args scope (.stmts body)with
 |some l=>let m:=l.1.length
  (#[n_ [],ny .none [],n_<|toks (t+3) l.1,n_ [],{cls:=.none,data:=.func a},zM n t name q line c 3 Y (.ref<|n+2) (.ref<|n+3) (.ref<|n+4) m,{cls:=.type "function",data:=.func {a with globals:=mainGlobals,pyModule:=b,code:=.ref (n+5)}}],m)
 |none=>(#[n_ [],ny .none [],{cls:=.none,data:=.func a},zM n t name q line c 3 Y .none .none (.ref<|n+2) 0,{cls:=.type "function",data:=.func {a with globals:=mainGlobals,pyModule:=b,code:=.ref (n+3)}}],0)
def OR(x:Str)(v:ae):List (Str×Nat×ae)->List (Str×Nat×ae)|[]=>[]|e::r=>match e.1==x with|true=>(e.1,e.2.1,v)::r|false=>e::OR x v r
def twice:List Str:=#["take_instructions","cell_is_good","own_op_is_good"]
def Dr(x:Str)(t:Nat)(v:ae)(l:List<|Str×Nat×ae):List<|Str×Nat×ae:=match twice.contains x&&(l.lookup x).isSome with|true=>OR x v l|false=>(x,t,v)::l
def L.bind(l:L)(x:Str)(v:ae):L:={l with t:=l.t+1,ge:=Dr x l.t v l.ge}
def L.get(l:L)(x:Str):ae:=match l.ge.lookup x with|some e=>e.2|none=>.none
def K7(t:Nat):aw->Option ae
|.Constant (.str s) _ _=>B (.str s t)|.Constant (.int i) _ _=>B (.int i t)
|_=>Z
def elems(l:L):Nat->List aw->List ae×Nat
|t,[]=>([],t)|t,.Name x _::r=>let y:=elems l t r;(l.get x::y.1,y.2)
|t,e::r=>let y:=elems l (t+1) r;((K7 t e).getD .none::y.1,y.2)
def zT(l:L):Nat->Nat->List (Option aw)->List aw->List (Str×Nat×ae)×List Obj×Nat
|t,n,B (.Constant (.str k) _ _)::a,.Tuple c _ _::b=>let e:=elems l (t+1) c;let y:=zT l e.2 (n+1) a b;((k,t,.ref n)::y.1,n_ e.1::y.2.1,y.2.2)|t,n,B (.Constant (.str k) _ _)::a,v::b=>let y:=zT l (t+2) n a b;((k,t,(K7 (t+1) v).getD .none)::y.1,y.2.1,y.2.2)
|t,_,_,_=>([],[],t)
def meths(b:ae)(c:Str):Nat->Nat->List Stmt->List Obj×List (Str×Nat×ae)×List ae×Nat×Nat
|n,t,.FunctionDef name args body _ _ _ a _ _ pos::r=>let o:=LY b n t name (c++"."++name) args body a pos.line;let k:=o.1.length;let d:=t+5+o.2;let y:=meths b c (n+k) (d+1) r;(o.1++y.1,(name,d,.ref<|n+k-1)::y.2.1,rawInt pos.line::rawInt pos.col:: .ref (n+k-2)::y.2.2.1,y.2.2.2.1,y.2.2.2.2)|n,t,_::r=>meths b c n t r
|n,t,[]=>([],[],[],n,t)
variable(pr:Params)
def w6(x:Str):Int:=hashStr [λ_ _=>0,pr] x
def rK(e:Str×Nat×ae):DictEntry:=[w6 pr e.1,.str e.1 e.2.1,e.2.2]
def kJ(c:ae)(a:List<|Str×Nat×ae)(b:Nat):Obj:={cls:=c,data:=.dict (a.map<|rK pr).toArray b}
def ZR(l:L)(name:Str)(exc:Bool)(body:List Stmt)(j:List Str)(line col:Nat):L:=
 let n:=l.n;let t:=l.t;let M:=meths l.nm name (n+7) (t+12) body;let d:=M.2.2.2.1;let e:=M.2.2.2.2;let k:=j.length;let C:=d+2;let c:ae:=if exc then .type "Exception" else .type "object"
 let m:List<|Str×Nat×ae:=#[("__module__",t+7,l.nm)];let o:List<|Str×Nat×ae:=#[("__firstlineno__",t+11,zc line<|t+10)];let g:=M.2.1;let st:List<|Str×Nat×ae:=#[("__static_attributes__",e+k,cY d)];let w:=if exc then e+k+1 else e+k+3
 let f:=w+2;let p:=if exc then f+4 else f+2
 let h:=kJ pr (.type "dict") (m++(#[("__qualname__",t+9,Value.str name<|t+8)]:List<|Str×Nat×ae)++o++g++st)<|4+g.length;let q:List<|Str×Nat×ae:=if exc then[]else#[("__dict__",e+k+2,cY<|d+3)]
 let u:=if exc then d+3 else d+4
 let i:=kJ pr (.type "dict") (m++o++g++st++q++(#[("__weakref__",w+1,cY u),("__doc__",f,.none)]:List<|Str×Nat×ae)) (if exc then 3 else 4);let cd:ClassData:={name,bases:=#[c],mro:=.ref C::c::(if exc then#[.type "BaseException",.type "object"]else[]),ns:=d+1,qualname:=name,hasDict:=Y};let objs:=#[n_ (if exc then#[c]else[]),ny (.type "builtin_function_or_method") #[.builtin "type.__prepare__",.type "type"],h,n_ [],ny .none M.2.2.1,zM (n+3) (t+2) name name line 0 0 ag .none .none .none 0,{cls:=.type "frame",slots:=(bS #[B<|.ref<|n+5,B<|.ref 3,B<|.ref<|n+2,Z,B l.nm,Z,B<|.ref 0])}]++M.1++#[n_<|toks e j,i,{cls:=.type "type",data:=.cls cd,slots:=(bS #[if exc then B (.ref n)else Z,Z,B<|.str name t,B<|.str name<|t+8,B<|.builtin (if exc then "Exception.__new__" else "object.__new__"),B<|.bool Y])}]++(if exc then[]else#[ny (.type "getset_descriptor") #[.str "__dict__"<|e+k+1,.ref C,.builtin "function.__dict__",.builtin "function.__dict__#set"]])++#[ny (.type "getset_descriptor") #[.str "__weakref__" w,.ref C,.builtin "ExceptionGroup.__weakref__",.none],ny (.type "super") #[.ref C,.ref C,.ref C],ny (.type "builtin_function_or_method") #[.builtin "object.__init_subclass__",.ref C]]
 let sub:=if exc then match l.sub with
  |[]=>#[(("type.__subclasses__.Exception.0":Str),f+1,rawInt C),("type.__subclasses__.Exception.n",f+2,rawInt 1)]
  |a::b::r=>#[a,(b.1,b.2.1,rawInt 2),("type.__subclasses__.Exception.1",f+1,rawInt C)]
  |s=>s
  else l.sub
 {n:=n+objs.length,t:=p+1,T:=treeOf l.T n objs,ge:=Dr name p (.ref C) l.ge,tab:=l.tab++#[rawInt line,rawInt col,.ref<|n+5],nm:=l.nm,sub}
def o5(l:L):Stmt->L
|.FunctionDef name args body _ _ _ a _ _ pos=>let o:=LY l.nm l.n l.t name name args body a pos.line;let k:=o.1.length;let b:=l.t+5+o.2;{l with n:=l.n+k,t:=b+1,T:=treeOf l.T l.n o.1,ge:=Dr name b (.ref (l.n+k-1)) l.ge,tab:=l.tab++#[rawInt pos.line,rawInt pos.col,.ref (l.n+k-2)]}|.ClassDef name bases _ body _ _ _ _ _ c pos=>ZR pr l name (!bases.isEmpty) body c pos.line pos.col
|.Assign #[.Name x _] (.Constant (.str s) _ _) _=>if x=="__name__" then{l with t:=l.t+2,nm:=.str s l.t}else{l with t:=l.t+1}.bind x (.str s l.t)
|.Assign #[.Name x _] (.Constant (.int i) _ _) _=>{l with t:=l.t+1}.bind x (.int i l.t)|.Assign #[.Name x _] (.Name y _) _=>l.bind x (l.get y)
|.Assign #[.Name x _] (.Tuple f _ _) _=>let e:=elems l l.t f
 {l with t:=e.2,n:=l.n+1,T:=l.T.ins l.n (n_ e.1)}.bind x (.ref l.n)
|.Assign #[.Name x _] (.Dict g h _) _=>let d:=zT l l.t (l.n+1) g h
 {l with t:=d.2.2+d.1.length,n:=l.n+1+d.2.1.length,T:=treeOf l.T l.n (kJ pr (.type "dict") d.1 d.1.length::d.2.1)}.bind x (.ref l.n)
|_=>l
def age(nm:ae):List<|Str×Nat×ae:=#[("__name__",165,nm),("__doc__",166,.none),("__package__",167,.none),("__loader__",168,.builtin "__main__.__loader__#opaque"),("__spec__",169,.none),("__annotations__",170,.ref 6),("__builtins__",171,.ref 4),("__file__",173,.str Er 172),("__cached__",174,.none)]
noncomputable def L0:L:=[15,187,treeOf .nil 0
 #[boot_o_0 pr,boot_o_1 pr,default,default,boot_o_4 pr,boot_o_5 pr,boot_o_6 pr,boot_o_7 pr,boot_o_8 pr,boot_o_9 pr,boot_o_10 pr,n_ [],default,zM 11 182 "<module>" "<module>" 1 0 0 ag .none .none .none 0,{cls:=.type "frame",slots:=(bS #[B<|.ref 13,B<|.ref 3,B<|.ref 3,Z,B<|.str "__main__" 164,Z,B<|.ref 0])}],[],[],.str "__main__" 164,[]]
noncomputable def yo(l:L):BT:=((l.T.set 2 λ_=>kJ pr .none l.sub l.sub.length).set 3 λ_=>kJ pr (.type "dict") (age l.nm++l.ge.reverse)<|9+l.ge.length).set 12 λ_=>ny .none l.tab
noncomputable def ST(l:L)(os:fx):SharedT:=[yo pr l,l.n,{},Array.mk [],oC,l.t,os]
def lZ:Env:={scope:=Pg.main.scope,locals:=mainNs,globals:=mainNs,cells:=[],code:=.ref 13,frame:=B 14}
def nr:Code:=.body Pg.main.body lZ
def part(a n:Nat):List Stmt:=(Pg.main.body.drop a).take n
open PySem PySem.W PyProof.Rows
abbrev r0:OpenSpec:=al3
theorem wm{α:Type}{p:α->Bool}{l:List α}{k n:Nat}(b:0<k)(hl:l.length<=k*n)(h:∀i,i<n->((l.drop<|k*i).take k).all p=Y):l.all p=Y:=by rw[cq];intro x hx;let[j,a,rfl]:=Xc.mp hx;let e:k*(j/k)+j % k=j:=Xq j k;show cq.mp (h (j/k)<|Xs<|gV a hl) _<|Xd.mpr [j % k,?_];rw[Ck<|Ju j b,Ci,e];show bF a
noncomputable def mC:cB:=Pg.main.scope
noncomputable def lj:List Stmt:=Pg.main.body
def akX:vS Yb mC [mC,[],[],[],Z] mC lj=[]:=by kernel_rfl
theorem WB{a:cB}{b:TablesWhole.Ctx}{c:cB}:∀l:List Stmt,vS p9 a b c l=l.all λs=>JT p9 a b c s|[]=>rfl|s::r=>aad (JT p9 a b c s&&·)<|WB r
noncomputable def dW(i:Nat):Bool:=((lj.drop<|100*i).take 100).all λs=>JT p9 mC [mC,[],[],[],Z] mC s
theorem d4:dW 0=Y:=by kernel_rfl
theorem d5:dW 1=Y:=by kernel_rfl
theorem d6:dW 2=Y:=by kernel_rfl
def nt0:JR mC=Y:=by kernel_rfl
theorem len0:mU lj.length (100*3)=Y:=by kernel_rfl
def akV(a:m.scope=s)(b:m.body=l)(t:vS Yb s [s,[],[],[],Z] s l=[])(n:JR s=Y)(h:vS p9 s [s,[],[],[],Z] s l=Y):JS p9 m=Y:=by subst a b;unfold JS;rw[t];change (Y&&(JR _&&(vS p9 _ _ _ _&&Y)))=Y;rw[n,h];rfl
theorem ald{p:bU}(h:JS p9 p.main=Y)(a:p.modules=[])(b:p.parses=[])(c:p.harvested=[]):p.tablesWhole=Y:=by unfold Program.tablesWhole TablesWhole.wProgram;rw[h,a,b,c];rfl
theorem alV:vS p9 mC [mC,[],[],[],Z] mC lj=Y:=(WB lj).trans (wm (k:=100) (n:=3) @d_ (cX len0) λi a=>match i,a with|0,_=>d4|1,_=>d5|2,_=>d6|i+3,h=>absurd h @o_)
theorem tw0:Pg.tablesWhole=Y:=ald (akV (s:=mC) (l:=lj) @y_ @y_ akX nt0 alV) @y_ @y_ @y_
def afT(e:p.main.body=l)(a:sreFenced p.main=Y)(b:(moduleNames l).isEmpty=Y)(c:namesResolve p=Y)(d:(p.boundNames.all λn=>!worldNames.contains n)=Y)(f:Cg (readsOut p l) #["vars","dir","locals"]=[])(i:(importedModules l).all cThrough.contains=Y)(r:noRoadLSs {strict:=ag,foot:=Z,bare:=[]} l=Y)(n:(namesMeet p l λx n=>attrL n)=Y):looksOpen p=Y:=by subst e;unfold looksOpen;rw[a,b,c,d,f,i,n];change (_&&noRoadLSs {strict:=ag,foot:=Z,bare:=[]} _&&_)=Y;rw[r];rfl
def lo1:namesResolve Pg=Y:=by kernel_rfl
def lo2:Cg (readsOut Pg lj) #["vars","dir","locals"]=[]:=by kernel_rfl
def lo3:(namesMeet Pg lj λx n=>attrL n)=Y:=by kernel_rfl
def lo4:noRoadLSs {strict:=ag,foot:=Z,bare:=[]} lj=Y:=by kernel_rfl
def lo5:(importedModules lj).all cThrough.contains=Y:=by kernel_rfl
def lo6:sreFenced Pg.main=Y:=by kernel_rfl
def lo7:(Pg.boundNames.all λn=>!worldNames.contains n)=Y:=by kernel_rfl
def lo8:(moduleNames lj).isEmpty=Y:=by kernel_rfl
theorem lo0:looksOpen Pg=Y:=afT (l:=lj) @y_ lo6 lo8 lo1 lo7 lo2 lo5 lo4 lo3
theorem alQ{r:OpenSpec}{p:bU}(e:r.prog=p)(h:looksOpen p=Y)(k:(p.boundNames.contains r.name&&!startupNames.contains r.name&&specDef p r.name r.args.length&&r.args.all Codec.fits&&r.ret.ok)=Y):r.wellSaid=Y:=by subst e;unfold OpenSpec.wellSaid;rw[h];show k
theorem Ws:r0.wellSaid=Y:=alQ (p:=Pg) @y_ lo0 @y_
noncomputable def l1(a:Params):L:=(part 0 50).foldl (o5 a)<|L0 a
noncomputable def l2(a:Params):L:=(part 50 50).foldl (o5 a)<|l1 a
noncomputable def l3(a:Params):L:=(part 100 23).foldl (o5 a)<|l2 a
noncomputable def l4(a:Params):L:=(part 123 3).foldl (o5 a)<|l3 a
noncomputable def l5(a:Params):L:=(part 126 10).foldl (o5 a)<|l4 a
noncomputable def l6(a:Params):L:=(part 136 1).foldl (o5 a)<|l5 a
noncomputable def l7(a:Params):L:=(part 137 53).foldl (o5 a)<|l6 a
noncomputable def l8(a:Params):L:=(part 190 50).foldl (o5 a)<|l7 a
noncomputable def l9(a:Params):L:=(part 240 55).foldl (o5 a)<|l8 a
abbrev lT:Option ae:=B<|.ref 6
abbrev Run(w:bj)(os:fx)(N a n:Nat)(p b:Pos)(l c:Params->L):Prop:=segRunT treeTable Pg w 11 lT 1 N (ST w.params (l w.params) os) (piecesOf (part a n) lZ nr p #[topFrame default])=B (.next,ST w.params (c w.params) os,nr,b)
abbrev sF:String:="special-get-raises"
def KP(h:∀(b:Bool)(w:bj)(os:fx),Run (w.withFollow sF b) os N a n p c l d)(w:bj)(os:fx):Run w os N a n p c l d:=by let e:=World.withFollow_self w sF;let:=h (w.params.followText sF) w os;rw[e]at this;show this
def r1(w:bj)(os:fx):Run w os 2974 0 50 default [156,0,159,29] L0 l1:=by unfold Run;rw[mX,mY];kernel_rfl
def r2(w:bj)(os:fx):Run w os 1090 50 50 [156,0,159,29] [311,0,312,72] l1 l2:=by unfold Run;rw[mX,mY];kernel_rfl
def r3(w:bj)(os:fx):Run w os 656 100 23 [311,0,312,72] [413,0,413,8] l2 l3:=by unfold Run;rw[mX,mY];kernel_rfl
def r4t(w:bj)(os:fx):Run (w.withFollow sF Y) os 696 123 3 [413,0,413,8] [416,0,416,11] l3 l4:=by unfold Run;rw[mX,mY];kernel_rfl
def r4f(w:bj)(os:fx):Run (w.withFollow sF ag) os 696 123 3 [413,0,413,8] [416,0,416,11] l3 l4:=by unfold Run;rw[mX,mY];kernel_rfl
def r4(w:bj)(os:fx):Run w os 696 123 3 [413,0,413,8] [416,0,416,11] l3 l4:=KP (λb=>match b with|true=>r4t|false=>r4f) w os
def r5(w:bj)(os:fx):Run w os 241 126 10 [416,0,416,11] [440,0,440,11] l4 l5:=by unfold Run;rw[mX,mY];kernel_rfl
def r6t(w:bj)(os:fx):Run (w.withFollow sF Y) os 56 136 1 [440,0,440,11] [441,0,441,8] l5 l6:=by unfold Run;rw[mX,mY];kernel_rfl
def r6f(w:bj)(os:fx):Run (w.withFollow sF ag) os 56 136 1 [440,0,440,11] [441,0,441,8] l5 l6:=by unfold Run;rw[mX,mY];kernel_rfl
def r6(w:bj)(os:fx):Run w os 56 136 1 [440,0,440,11] [441,0,441,8] l5 l6:=KP (λb=>match b with|true=>r6t|false=>r6f) w os
def r7(w:bj)(os:fx):Run w os 1333 137 53 [441,0,441,8] [649,0,653,110] l6 l7:=by unfold Run;rw[mX,mY];kernel_rfl
def r8(w:bj)(os:fx):Run w os 1861 190 50 [649,0,653,110] [927,0,930,35] l7 l8:=by unfold Run;rw[mX,mY];kernel_rfl
def r9(w:bj)(os:fx):Run w os 1268 240 55 [927,0,930,35] [1135,0,1151,15] l8 l9:=by unfold Run;rw[mX,mY];kernel_rfl
abbrev B0:List Frame:=#[topFrame default]
def pre(w:bj)(os:fx):topGo treeTable Pg w 11 lT 12 [mZ w.params,Array.mk [],oC,zd,os] (topStub Pg)=B ((ST w.params (L0 w.params) os).abs,[denote treeTable nr,nr,default,B0]):=by kernel_rfl
def cx(w:bj)(os:fx):segRun treeTable Pg w 11 lT 1 1 (ST w.params (L0 w.params) os).abs (blockOf Pg.main.body lZ nr default B0)=B (.next,(ST w.params (L0 w.params) os).abs,nr,default):=by kernel_rfl
def ah6(a n:Nat):Pg.main.body.drop a=part a n++Pg.main.body.drop (a+n):=by unfold part;rw[<-pS,vw]
section
variable{w:bj}{os:fx}{r:ak}
def app(h:Run w os N a n p b l c)(k:topRun treeTable Pg w 11 lT M (ST w.params (c w.params) os).abs (restOf (Pg.main.body.drop<|a+n) lZ nr b B0)=B r):topRun treeTable Pg w 11 lT (N+M) (ST w.params (l w.params) os).abs (restOf (Pg.main.body.drop a) lZ nr p B0)=B r:=by rw[ah6 a n];show piece_app (segRun_of h) k
end
def YN:Pg.main.body.drop 295=[]:=by kernel_rfl
def fin(w:bj)(s:ak)(p:Pos):topRun treeTable Pg w 11 lT 2 s (restOf (Pg.main.body.drop 295) lZ nr p B0)=B s:=by rw[YN];let[h,g,d,t,o]:=s;rfl
def ak0(w:bj)(os:fx):topRun treeTable Pg w 11 lT (12+(1+(2974+(1090+(656+(696+(241+(56+(1333+(1861+(1268+2))))))))))) [mZ w.params,Array.mk [],oC,zd,os] (topStub Pg)=B (ST w.params (l9 w.params) os).abs:=go_top (pre w os) (piece_block (cx w os) (show topRun treeTable Pg w 11 lT _ _ (restOf (Pg.main.body.drop 0) lZ nr default B0)=_ from app (r1 w os)<|app (r2 w os)<|app (r3 w os)<|app (r4 w os)<|app (r5 w os)<|app (r6 w os)<|app (r7 w os)<|app (r8 w os)<|app (r9 w os)<|fin w _ _))
def l9n(a:Params):(l9 a).n=1511:=by kernel_rfl
def l9t(a:Params):(l9 a).t=2570:=by kernel_rfl
noncomputable def H9(a:Params):a8:=absHeap (yo a<|l9 a) 1511 {}
noncomputable def S9(a:Params)(os:fx):ak:=[H9 a,Array.mk [],oC,2570,os]
def abs_eq(a:Params)(os:fx)(l:L)(n t:Nat)(b:l.n=n)(c:l.t=t):(ST a l os).abs=[absHeap (yo a l) n {},Array.mk [],oC,t,os]:=by subst b c;rfl
abbrev M9:Nat:=12+(1+(2974+(1090+(656+(696+(241+(56+(1333+(1861+(1268+2))))))))))
def ak1(w:bj)(os:fx):topRun treeTable Pg w 11 lT M9 [mZ w.params,Array.mk [],oC,zd,os] (topStub Pg)=B [absHeap (yo w.params<|l9 w.params) 1511 {},Array.mk [],oC,2570,os]:=(ak0 w os).trans<|aad B<|abs_eq _ _ _ _ _ (l9n _)<|l9t _
def q0:bU:=view Pg #[1,2,294]
def lB:List Str:=(Pg.main.scope.names.map (·.1)).filter λn=>!(n=="NoBytes"||n=="NoText"||n=="answers")
def akn(w:bj):((mZ w.params).isNs mainGlobals&&(Array.mk []:Array y6).size==0,(mZ w.params).objs.size,(mZ w.params).nsMap mainGlobals "__annotations__")=(Y,11,lT):=by kernel_rfl
def ahJ:∀w:bj,(fencedOpening treeTable Pg w 20000).map (λs=>(s.heap,s.gens,s.drawn,s.toks))=B (mZ w.params,Array.mk [],oC,zd):=boot_open @y_ @d_ λs=>by kernel_rfl
open PySem PySem.W PySem.Calls PyProof.Rows
section
variable(w:bj)(os:fx)
def lk1:staticsOk (importedModules Pg.main.body) (mZ w.params) (H9 w.params)=Y:=by kernel_rfl
def lk2:namesBound Pg (H9 w.params)=Y:=by kernel_rfl
def lk3:gensDone (S9 w.params os)=Y:=by kernel_rfl
def lk4:laidKept (mZ w.params) (H9 w.params)=Y:=by kernel_rfl
def lk5:seen ((recsOf q0).map (·.name)) (ownsOf q0) [] {S9 w.params os with gens:=#[]}=expectedOf q0:=by kernel_rfl
def lk6:(H9 w.params).bltView=bltViewBooted:=by kernel_rfl
def lk7:(H9 w.params).keysOk (looseW q0 lB) ((recsOf q0).map (·.name)) ((litsOf q0).map (·.1)) ((clssOf q0<|looseW q0 lB).map (·.name))=Y:=by kernel_rfl
def lk8:((H9 w.params).accountedOkI (importedModules Pg.main.body)&&(H9 w.params).isNs mainGlobals&&(H9 w.params).isNs builtinsNs&&tablesOk q0 (H9 w.params))=Y:=by kernel_rfl
def lk9:tabsOk q0 (S9 w.params os)=Y:=by kernel_rfl
def afz:(pinSeenD q0 (drecsOf q0)<|S9 w.params os,plainSeenE q0 (looseW q0 lB)<|S9 w.params os,plainSeenD q0 lB<|S9 w.params os)=(pinGoodD<|drecsOf q0,plainGoodE q0<|looseW q0 lB,plainGoodD q0 lB):=by kernel_rfl
def afA:wideSeen q0 (S9 w.params os)=wideGood q0:=by kernel_rfl
def afB:clsSeenW q0 lB (S9 w.params os)=clsGoodW q0 lB:=by kernel_rfl
end
def akh(g:s.heap=h)(i:(s.gens.size==0)=Y)(j:seen ((recsOf q).map (·.name)) (ownsOf q) [] {s with gens:=#[]}=expectedOf q)(l:h.bltView=bltViewBooted)(m:h.keysOk (looseW q loose) ((recsOf q).map (·.name)) ((litsOf q).map (·.1)) ((clssOf q<|looseW q loose).map (·.name))=Y)(n:(h.accountedOkI mods&&h.isNs mainGlobals&&h.isNs builtinsNs&&tablesOk q h)=Y)(o:tabsOk q s=Y)(a:(pinSeenD q (drecsOf q) s,plainSeenE q (looseW q loose) s,plainSeenD q loose s)=(pinGoodD<|drecsOf q,plainGoodE q<|looseW q loose,plainGoodD q loose))(b:wideSeen q s=wideGood q)(c:clsSeenW q loose s=clsGoodW q loose):openSeen q loose mods (λ_=>Y) Y s=openGood q loose:=by subst g;let d:=aad (λx=>x.1) a;let e:=aad (λx=>x.2.1) a;let f:=aad (λx=>x.2.2) a;simp only at d e f;unfold openSeen openGood;rw[j,l,m,o,d,e,f,b,c,kX,iW];rw[n];simp only[abu,i,Bool.and_self]
theorem afV{p q:bU}{loose:List Str}{H₀:a8}{S:fx->ak}{H:a8}(a:∀os,(S os).heap=H)(k1:staticsOk (importedModules p.main.body) H₀ H=Y)(k2:namesBound p H=Y)(k3:∀os,gensDone (S os)=Y)(b:laidKept H₀ H=Y)(k5:∀os,openSeen q loose (importedModules p.main.body) (λ_=>Y) Y (S os)=openGood q loose):(λos=>((staticsOk (importedModules p.main.body) H₀ H&&namesBound p H&&gensDone (S os)&&laidKept H₀ H),openSeen q loose (importedModules p.main.body) (λ_=>Y) Y<|S os,(λs:ak=>s.heap)<|S os))=λ_=>(Y,openGood q loose,H):=by funext os;simp only[k1,k2,k3 os,b,k5 os,a os,Bool.and_self]
def afl:LeftO Pg q0 lB (λ_=>Y) (λs=>s.heap) (λw=>H9 w.params) 20000:=LeftO.of_pieces (H₀:=mZ) (H₁:=H9) (gs₀:=Array.mk []) (gs₁:=Array.mk []) (d₀:=oC) (d₁:=oC) (k₀:=zd) (k₁:=2570) (m₀:=11) (ann:=lT) (M:=M9) ahJ akn (λw os=>ak1 w os) @d_ λw=>afV (p:=Pg) (q:=q0) (loose:=lB) (H₀:=mZ w.params) (S:=S9 w.params) (H:=H9 w.params) (λ_=>rfl) (lk1 w) (lk2 w) (lk3 w) (lk4 w) λos=>akh (h:=H9 w.params) () rfl (lk5 w os) (lk6 w) (lk7 w) (lk8 w) (lk9 w os) (afz w os) (afA w os)<|afB w os
end Hd
namespace L2
open PySem PySem.Spec PyProof.Rows
abbrev Key:=Sum Int Str
def oY:Key->ae->Bool|.inl k,v=>aaJ k v|.inr x,v=>vX x v
def ae3(w:bj):Key->Int|.inl k=>hashInt k|.inr x=>hashStr w x
def oZ:∀{k:Key}{v:ae},oY k v=Y->(∃i t,k=tO i/\v=zc i t)\/(∃x t,k=oE x/\v=Value.str x t)|.inl i,v,h=>by let[t,e]:=acs (k:=i) (v:=v) h;show .inl [i,t,(),e]|.inr x,v,h=>by let[t,e]:=acw (x:=x) (v:=v) h;show .inr [x,t,(),e]
def ae4(i:Int)(t:Tok):oY (.inl i) (.int i t)=Y:=by simp[oY,aaJ]
def ae5(x:Str)(t:Tok):oY (.inr x) (.str x t)=Y:=by simp[oY,vX]
def ae6(a b:Int): ~~~((tO a:Key)=tO b)=(a==b):=by by_cases e:a=b;{subst e;simp};let h:¬(tO a:Key)=tO b:=λq=>e<|Sum.inl.inj q;rw[aac h];show(aaR.mpr e).symm
def ae9(a b:Str): ~~~((oE a:Key)=oE b)= ~~~(a=b):=by by_cases e:a=b;{subst e;simp};let h:¬(oE a:Key)=oE b:=λq=>e<|Kf q;rw[aac h,aac e]
def ae7(a:Int)(b:Str): ~~~((tO a:Key)=oE b)=ag:=aac λq=>nomatch q
def ae8(a:Str)(b:Int): ~~~((oE a:Key)=tO b)=ag:=aac λq=>nomatch q
noncomputable def fQ(prog:bU)(w:bj):PySem.KeyKind prog w Key where
 is:=oY
 hash:=ae3 w
 inj:=λv a b f O=>by
  rcases oZ f with⟨i,t,rfl,rfl⟩|⟨x,t,rfl,rfl⟩
  .rcases oZ O with⟨j,u,rfl,e⟩|⟨y,u,rfl,e⟩
   .injection e with c _;rw[c]
   .show nomatch e
  .rcases oZ O with⟨j,u,rfl,e⟩|⟨y,u,rfl,e⟩
   .show nomatch e
   .injection e with c _;rw[c]
 byValue:=λk v h=>by rcases oZ h with⟨i,t,rfl,rfl⟩|⟨x,t,rfl,rfl⟩<;>rfl
 pyHash:=λd h=>by
  rcases oZ d with⟨i,t,rfl,rfl⟩|⟨x,t,rfl,rfl⟩
  .show wpAny_pyHash_int h
  .show wpAny_pyHash_str h
 eqBool:=λg d h=>by
  rcases oZ g with⟨i,t,rfl,rfl⟩|⟨x,t,rfl,rfl⟩
  .rcases oZ d with⟨j,u,rfl,rfl⟩|⟨y,u,rfl,rfl⟩
   .rw[ae6]at h;show wpAny_eqBool_int h
   .rw[ae7]at h;show X9 i t y u _ _ _ _ h
  .rcases oZ d with⟨j,u,rfl,rfl⟩|⟨y,u,rfl,rfl⟩
   .rw[ae8]at h;show X_ x t j u _ _ _ _ h
   .rw[ae9]at h;show wpAny_eqBool_str h
 «strs»:=λk x t v h=>by
  rcases oZ h with⟨i,u,rfl,e⟩|⟨y,u,rfl,e⟩
  .show nomatch e
  .injection e with c _
   subst c;cases v<;>rfl
def agb(prog:bU)(w:bj)(i:Int)(t:Tok):(fQ prog w).is (.inl i) (.int i t)=Y:=ae4 i t
def agc(prog:bU)(w:bj)(x:Str)(t:Tok):(fQ prog w).is (.inr x) (.str x t)=Y:=ae5 x t
inductive V where
 |aC|bl (b:Bool)|int (i:Int)|str (x:Str)|i5 (b:Array UInt8)|wV (b:UInt64)|ref (a:aa)|ty (n:String)
 deriving DecidableEq
def RelV:V->ae->Prop
|.aC,u=>u=Value.none|.bl b,u=>u=rj b
|.int i,u=>∃t,u=zc i t|.str x,u=>∃t,u=Value.str x t
|.i5 b,u=>∃t,u=Value.bytes b t|.wV b,u=>∃t,u=Value.float b t
|.ref a,u=>u=cY a|.ty n,u=>u=p_ n
abbrev bq:List V->List ae->Prop:=Paired RelV
theorem bq.length{xs:List V}{us:List ae}(r:bq xs us):xs.length=us.length:=di r
theorem bq.get:∀{xs:List V}{us:List ae}{i:Nat}{x:V},bq xs us->xs[i]?=B x->∃u,us[i]?=B u/\RelV x u
|_,_,_,_,.nil,e=>by simp at e|_,_,0,_,.cons r _,e=>by simp at e;subst e;show [_,(),r]
|_,_,i+1,x,.cons _ t,e=>by let[u,a,b]:=bq.get (i:=i) (x:=x) t (e:);show [u,(a:),b]
def bq.set(r:RelV x u):∀{xs:List V}{us:List ae}(i:Nat),bq xs us->bq (xs.set i x) (us.set i u)
|_,_,_,.nil=>.nil|_,_,0,.cons _ t=>.cons r t
|_,_,i+1,.cons q t=>.cons q<|bq.set r i t
def bq.append:∀{xs ys:List V}{us ws:List ae},bq xs us->bq ys ws->bq (xs++ys) (us++ws)|_,_,_,_,.nil,s=>s|_,_,_,_,.cons r t,s=>.cons r<|bq.append t s
def bq.take:∀{xs:List V}{us:List ae}(n:Nat),bq xs us->bq (xs.take n) (us.take n)
|_,_,0,_=>.nil|_,_,_+1,.nil=>.nil
|_,_,n+1,.cons r t=>.cons r<|bq.take n t
def bq.drop:∀{xs:List V}{us:List ae}(n:Nat),bq xs us->bq (xs.drop n) (us.drop n)
|_,_,0,r=>r|_,_,_+1,.nil=>.nil
|_,_,n+1,.cons _ t=>bq.drop n t
def il:Option V->Option ae->Prop
|some v,B u=>RelV v u|none,Z=>True
|_,_=>False
def KV{a:Type}:List (a×V)->List (a×ae)->Prop:=Paired λ(p:a×V) (q:a×ae)=>p.1=q.1/\RelV p.2 q.2
def kV:Key->V|.inl i=>.int i|.inr x=>.str x
inductive HO where
 |lst (xs:List V)
 |tup (xs:List V)
 |dK (kvs:List<|Key×V)|dT (kvs:List<|List Key×V)
 |set (S:Int->Bool) (n:Nat)
 |ins (C dx:aa) (fs:List<|Str×V)
 |own (x:aa)
 |xd (fs:List<|Str×V)
 |met (f x:aa)
 |Bn (lo hi:Int)
 |gK (o:Obj) (u:HO)
 |n8 (ps:Array ae)
 |ext (φ:a8->Prop)
abbrev Hp:=aa->Option HO
def upd(H:Hp)(a:aa)(o:HO):Hp:=λb=>if b=a then B o else H b
def fI:upd H a o a=B o:=by unfold upd;rw[aab ()]
theorem cJ{H:Hp}{a b:aa}{o:HO}(h:b≠a):upd H a o b=H b:=by unfold upd;rw[aaa h]
theorem agy{H:Hp}{a b:aa}{o u:HO}(h:H a=B o)(h':H b=B u)(d:o≠u):a≠b:=by intro e;subst e;rw[h]at h';show d<|eg h'
theorem jy{H:Hp}{a b:aa}{o:HO}(h:H a=B o)(h':H b=Z):a≠b:=by intro e;subst e;rw[h]at h';cases h'
section
variable(P:bU)(w:bj)
def eL(H:Hp)(h:a8)(a:aa):HO->Prop
|.lst d=>d.length<=sizeLine/\∃(b:List ae) (n:Nat),bq d b/\h.get? a=B {cls:=.type "list",data:=.seq b.toArray n}|.tup d=>d.length<=sizeLine/\∃b:List ae,bq d b/\IsTup h a b.toArray
|.dK c=>c.length<=sizeLine/\(a==sysModules)=ag/\∃j,KV c j/\h.DictOf (fQ P w) a j|.dT c=>c.length<=sizeLine/\(a==sysModules)=ag/\∃d:List<|List Key×aa×ae,Paired (λ(p:List Key×V) (q:List Key×aa×ae)=>p.1=q.1/\H q.2.1=B (.tup<|p.1.map kV)/\RelV p.2 q.2.2) c d/\∃o l s,h.get? a=B o/\o.ExactDict/\o.data=.dict l s/\l.toList=d.map (entryOfKey<|tupleKind<|fQ P w)/\(d.map (·.1)).Nodup
|.set S n=>h.SetOf (intKind P w) a S n|.ins C g fs=>H g=B (.own a)/\fs.length<=1000/\g≠a/\h.get? a=B (rl C g)/\∃e,h.Ns1 g e/\(∀f,il (fs.lookup f)<|e f)/\J1 e (fs.map (·.1))
|.own _=>∃o,h.get? a=B o|.xd fs=>∃e,h.Ns1 a e/\∀f,il (fs.lookup f) (e f)
|.Bn lo y=>∃t u v,h.get? a=B {cls:=.type "range",data:=.fields<|bS #[.int lo t,.int y u,.int 1 v]}|.gK o u=>h.get? a=B o/\eL H h a u
|.n8 z=>h.get? a=B {cls:=.none,data:=.fields z}|.met f x=>h.get? a=B (JY (.ref f)<|.ref x)
|.ext i=>i h/\(∃o,h.get? a=B o)/\∀m r:a8,i m->(∀o,m.get? a=B o->r.get? a=B o)->i r
def dO(H:Hp)(h:a8):Prop:=∀a o,H a=B o->eL P w H h a o
end
section
variable{P:bU}{w:bj}{H H':Hp}{h h':a8}{a:aa}{o:HO}
def eL.lt(x:eL P w H h a o):a<h.objs.size:=by cases o with|lst c=>let[_,_,_,_,e]:=x;show cv e|tup c=>let[_,_,_,p]:=x;show p.lt|dK b=>let[_,_,_,_,o,_,_,e,_]:=x;show cv e|dT b=>let[_,_,_,_,o,_,_,e,_]:=x;show cv e|set S n=>let[o,_,_,_,e,_]:=x;show cv e|ins C d fs=>let[_,_,_,e,_]:=x;show cv e|own y=>let[_,e]:=x;show cv e|xd fs=>let[_,[_,_,_,e,_],_]:=x;show cv e|Bn lo g=>let[_,_,_,e]:=x;show cv e|gK i u=>let[e,_]:=x;show cv e|n8 j=>show cv (show h.get? a=B _ from x)|met f y=>show cv (show h.get? a=B _ from x)|ext l=>let[_,[_,e],_]:=x;show cv e
theorem Paired.xq{α d:Type}{F G:α->d->Prop}:∀{l₁:List α}{c:List d},Paired F l₁ c->(∀a b,F a b->G a b)->Paired G l₁ c|_,_,.nil,_=>.nil|_,_,.cons r t,f=>.cons (f _ _ r)<|Paired.xq t f
def eL.qL(x:eL P w H h a o)(k:∀b u,(b=a\/H b=B (.own a))->h.get? b=B u->h'.get? b=B u)(F:∀b,H b=B (.own a)->H' b=B (.own a))(G:∀b xs,H b=B (.tup xs)->H' b=B (.tup xs)):eL P w H' h' a o:=by induction o with|lst xs=>let[z,l,n,r,e]:=x;show [z,l,n,r,k _ _ (.inl ()) e]|tup xs=>let[z,l,r,g,e,c]:=x;show [z,l,r,g,k _ _ (.inl ()) e,c]|dK m=>let[z,y,I,r,g,i,j,e,c]:=x;show [z,y,I,r,g,i,j,k _ _ (.inl ()) e,c]|dT m=>let[z,y,xs,r,g,i,j,e,c]:=x;show [z,y,xs,Paired.xq r λp q z=>[z.1,G _ _ z.2.1,z.2.2],g,i,j,k _ _ (.inl ()) e,c]|set S n=>let[g,i,j,t,e,c]:=x;show [g,i,j,t,k _ _ (.inl ()) e,c]|ins C T fs=>let[d,z,J,e,s,[A,i,j,M,c],r]:=x;show [F _ d,z,J,k _ _ (.inl ()) e,s,[A,i,j,k _ _ (.inr d) M,c],r]|own y=>let[g,e]:=x;show [g,k _ _ (.inl ()) e]|xd fs=>let[s,[A,i,j,e,c],r]:=x;show [s,[A,i,j,k _ _ (.inl ()) e,c],r]|Bn lo X=>let[t,u,v,e]:=x;show [t,u,v,k _ _ (.inl ()) e]|gK g u Q=>let[e,q]:=x;show [k _ _ (.inl ()) e,Q q]|n8 E=>let e:h.get? a=B {cls:=.none,data:=.fields E}:=x;change h'.get? a=B {cls:=.none,data:=.fields E};show k a _ (.inl ()) e|met f y=>let e:h.get? a=B (JY (.ref f)<|.ref y):=x;change h'.get? a=B (JY (.ref f)<|.ref y);show k a _ (.inl ()) e|ext φ=>let[p,[o,e],st]:=x;show [st _ _ p λo q=>k _ _ (.inl ()) q,[o,k _ _ (.inl ()) e],st]
def dO.lt(x:dO P w H h)(e:H a=B o):a<h.objs.size:=(x a o e).lt
theorem dO.fresh(x:dO P w H h)(e:h.objs.size<=a):H a=Z:=by cases q:H a with|none=>rfl|some u=>show absurd (gV (x.lt q) e)<|mV _
theorem dO.kept(x:dO P w H h)(k:∀b u,h.get? b=B u->h'.get? b=B u):dO P w H h':=λa o e=>(x a o e).qL (λb u _ q=>k b u q) (λ_ q=>q) λ_ _ q=>q
theorem dO.laid(x:dO P w H h)(k:∀b u,h.get? b=B u->h'.get? b=B u)(f:h.objs.size<=a)(new:eL P w (upd H a o) h' a o):dO P w (upd H a o) h':=λb u e=>by let d:=x.fresh f;by_cases O:b=a;{subst O;rw[fI]at e;cases e;show new};rw[cJ O]at e;show(x b u e).qL (λc v _ q=>k c v q) (λc q=>by rw[cJ<|jy q d];show q) λc g q=>by rw[cJ<|jy q d];show q
end
def Rd(H:Hp)(a:aa)(u:HO):Prop:=H a=B u\/∃o,H a=B (.gK o u)
theorem Rd.ok{P:bU}{w:bj}{H:Hp}{h:a8}{a:aa}{u:HO}(r:Rd H a u)(x:dO P w H h):eL P w H h a u:=by(rcases r with r|⟨o,r⟩);{show x a u r};let[_,q]:=x a _ r;show q
def wc:Option HO->Prop
|some (.lst _)=>True|some (.dK _)=>True
|some (.dT _)=>True|some (.set _ _)=>True
|some (.ins _ _ _)=>True|some (.ext _)=>True
|_=>False
section
variable{P:bU}{w:bj}{H:Hp}{h h':a8}{x e:aa}{o':HO}
def dO.write(ok:dO P w H h)(mu:wc<|H x)(j:e=x\/H e=B (.own x))(k:∀b u,b≠e->h.get? b=B u->h'.get? b=B u)(i:∃u,h'.get? e=B u)(new:eL P w (upd H x o') h' x o'):dO P w (upd H x o') h':=λb u q=>by{
let d:∀c y,H c=B (.own y)->c≠x:=λc y r z=>by subst z;rw[r]at mu;show mu
let f:∀c g,H c=B (.tup g)->c≠x:=λc g r z=>by subst z;rw[r]at mu;show mu
by_cases O:b=x;{subst O;rw[fI]at q;cases q;show new};rw[cJ O]at q;by_cases a:b=e
.let l:H b=B (.own x):=by(rcases j with z|z);{show absurd (a.trans z) O};rw[a];show z
 rw[q]at l;cases l;let[v,m]:=i;show [v,by rw[a];show m]
show(ok b u q).qL (λc v hc r=>k c v ?_ r) (λc r=>by rw[cJ<|d c b r];show r) λc g r=>by rw[cJ<|f c g r];show r
rcases hc with rfl|hc
.show a
rintro rfl;rcases j with z|z
.show d c b hc z
rw[hc]at z;cases z;show O ()}
end
structure Un (fs ex:List aa) (H H':Hp) (h h':a8):Prop where
 keep:∀b o,h.get? b=B o->H b=Z->b∉fs->b∉ex->h'.get? b=B o
 slot:∀b o,h.get? b=B o->H b=Z->b∈fs->b∉ex->∃sl,h'.get? b=B {o with slots:=sl}
 free:∀b o,h.get? b=B o->H b=Z->b∉ex->H' b=Z
 there:∀b o,h.get? b=B o->b∉ex->∃o',h'.get? b=B o'
 mL:∀b xs,H b=B (.tup xs)->H' b=B (.tup xs)
 acp:∀b o u,H b=B (.gK o u)->H' b=B (.gK o u)
 mH:∀b ps,H b=B (.n8 ps)->∃more,H' b=B (.n8<|ps++more)
section
variable{fs fs' ex ex':List aa}{H H1 H2:Hp}{h h1 h2 h':a8}{a x e:aa}{o:HO}
theorem Un.any(u:Un fs ex H H1 h h1){b:aa}{c:Obj}(q:h.get? b=B c)(n:H b=Z)(hx:b∉ex):∃d,h1.get? b=B {c with slots:=d}:=by by_cases O:b∈fs;{show u.slot b c q n O hx};show [c.slots,u.keep b c q n O hx]
theorem Un.kept(k:∀b u,h.get? b=B u->h'.get? b=B u):Un fs ex H H h h':=[λb c q _ _ _=>k b c q,λb c q _ _ _=>[c.slots,k b c q],λ_ _ _ n _=>n,λb c q _=>[c,k b c q],λ_ _ q=>q,λ_ _ _ q=>q,λ_ d q=>[#[],by rw[q];simp]]
def Un.refl:Un fs ex H H h h:=Un.kept λ_ _ q=>q
theorem Un.laid(k:∀b u,h.get? b=B u->h'.get? b=B u)(d:h.objs.size<=a)(c:H a=Z):Un fs ex H (upd H a o) h h' where
 keep:=λb u q _ _ _=>k b u q
 slot:=λb u q _ _ _=>[u.slots,k b u q]
 free:=λb u q n _=>by rw[cJ<|fk<|gV (cv q) d];show n
 there:=λb u q _=>[u,k b u q]
 mL:=λb f q=>by rw[cJ<|jy q c];show q
 acp:=λb u f q=>by rw[cJ<|jy q c];show q
 mH:=λb g q=>[#[],by rw[cJ<|jy q c,q];simp]
def Un.write(mu:wc<|H x)(g:e=x\/H e=B (.own x))(k:∀b u,b≠e->h.get? b=B u->h'.get? b=B u)(d:∃u,h'.get? e=B u):Un fs ex H (upd H x o) h h':=by{
let hx:∀b,H b=Z->b≠x:=λb n z=>by subst z;rw[n]at mu;show mu
let O:∀b,H b=Z->b≠e:=λb n z=>by(subst z;rcases g with r|r);{show hx b n r};rw[n]at r;cases r
let f:∀b u,H b=B u->¬wc (B u)->b≠x:=λb u q nm z=>by subst z;rw[q]at mu;show nm mu
show [λb u q n _ _=>k b u (O b n) q,λb u q n _ _=>[u.slots,k b u (O b n) q],λb u q n _=>by rw[cJ<|hx b n];show n,λb u q _=>?_,λb i q=>by rw[cJ<|f b _ q λz=>z];show q,λb u i q=>by rw[cJ<|f b _ q λz=>z];show q,λb j q=>[#[],by rw[cJ<|f b _ q λz=>z,q];simp]];by_cases c:b=e;{subst c;show d};show [u,k b u c q]}
end
def pN(h:a8)(H:Hp):List aa:=(dc h.objs.size).filter λa=>(H a).isSome
def oX(h:a8)(H:Hp):a8:=PySem.W.hideAll h<|pN h H
def ach(h:a8)(H:Hp):(oX h H).objs.size=h.objs.size:=PySem.W.hideAll_size _ _
def acg(e:h.get? b=B o)(n:H b=Z):(oX h H).get? b=B o:=PySem.W.hideAll_get _ e λa=>by let q:(H b).isSome=Y:=(qX.mp a).2;rw[n]at q;simp at q
def ag5(e:(oX h H).get? b=B o):h.get? b=B o/\H b=Z:=by let a:h.get? b=B o:=PySem.W.of_hideAll (pN h H) e;show [a,?_];cases q:H b with|none=>rfl|some x=>let c:b∈pN h H:=qX.mpr [gk.mpr<|cv a,by simp[q]];let z:(oX h H).get? b=Z:=PySem.W.hideAll_none (pN h H) c;rw[z]at e;cases e
structure Mod (K:aR) (mg:Str->Option ae) (base:a8):Prop where
 o4:K.In base
 glob:base.Ns mainGlobals mg
 blt:∃mb,base.Ns builtinsNs mb/\∀x:Str,x≠"__name__"->mb x=bootBuiltins x
 nolimit:base.NoLimit
structure Cx where
 prog:bU
 w:bj
 K:aR
 mg:Str->Option ae
 base:a8
 A:Around
 N:List Str
 f_:ak
 v_:Hp
 env:Env
 outer:List Env
 stack:List Env
 ex:List aa
 fn:Str->Bool
 calm:Bool
 pn:List (aa×Obj)
 xe:ae->ak->Prop
def g6(l:List Env):List aa:=l.filterMap (·.frame)
abbrev Cx.fs(X:Cx):List aa:=g6 X.outer
def tT(a:cB)(x:Str):Prop:=a.names.lookup x=B .local\/a.names.lookup x=B .cell\/a.names.lookup x=B .free
def Loc(a:cB)(x:Str):Prop:=a.names.lookup x=B .local\/a.names.lookup x=B .cell
def Look(a:Env)(h:a8)(m:Str->Option ae)(x:Str)(u:ae):Prop:=(a.kindOf x=B .local/\m x=B u)\/((a.kindOf x=B .cell\/a.kindOf x=B .free)/\∃c,a.cells.lookup x=B c/\h.IsCell c (B u))
structure Cx.Ok (X:Cx):Prop where
 mod:Mod X.K X.mg X.base
 kind:X.env.scope.kind=.function
 glob:X.env.globals=mainGlobals
 blt:X.env.builtins=builtinsNs
 above:↑X.f_<=X.env.locals
 inj:∀x y c,X.env.cells.lookup x=B c->X.env.cells.lookup y=B c->x=y
 has:∀x,(X.env.kindOf x=B .cell\/X.env.kindOf x=B .free)->∃c,X.env.cells.lookup x=B c
 tY:∀x c,X.fn x=Y->X.env.cells.lookup x=B c->↑X.f_<=c
 hd:X.calm=Y->X.A.handled=Z
 frames:X.A.frames=B X.stack
 a0:X.stack=X.outer\/(X.stack=X.env::X.outer/\X.env.frame=B X.env.locals)
 wN:∀b∈X.ex,b≠X.env.locals/\∀x c,X.env.cells.lookup x=B c->c≠b
 bs:∀b o,X.base.get? b=B o->X.f_.heap.get? b=B o/\X.v_ b=Z
 lW:X.base.objs.size<=↑X.f_
 ux:∀b o,X.base.get? b=B o->b∉X.ex
 ua:∀b∈X.ex,b∉X.fs
 kj:X.f_.heap.FunFrames X.base X.outer
 oU:∀b∈X.fs,X.v_ b=Z
structure Inv (X:Cx) (pins:List (aa×Obj)) (σ:List (Option V)) (H:Hp) (s:ak):Prop where
 ok:X.Ok
 os:s.os=X.f_.os
 bare:AllBare s.gens
 base:Un X.fs X.ex X.v_ H X.f_.heap s.heap
 loc:∃m,s.heap.Ns X.env.locals m/\∀(i:Nat)(x:Str)(v:V),X.N[i]?=B x->σ[i]?=B (B v)->tT X.env.scope x->∃u,RelV v u/\Look X.env s.heap m x u
 cell:∀x c,X.env.cells.lookup x=B c->∃v,s.heap.IsCell c v
 free:H X.env.locals=Z
 jw:∀x c,X.env.cells.lookup x=B c->H c=Z
 pin:∀p∈X.pn++pins,s.heap.get? p.1=B p.2/\H p.1=Z/\p.1≠X.env.locals/\p.1∉X.fs/\∀v,p.2.data≠.cell v
 bx:dO X.prog X.w H s.heap
 len:σ.length=X.N.length
section
variable{X:Cx}{pins:List<|aa×Obj}{σ:List<|Option V}{H H':Hp}{s:ak}{h':a8}
def Cx.Ok.agC(ok:X.Ok)(e:X.base.get? b=B o):b∉X.fs:=λO=>by let:=(ok.kj.mem O).1;rw[e]at this;cases this
def Inv.bs(I:Inv X pins σ H s):∀b o,X.base.get? b=B o->s.heap.get? b=B o/\H b=Z:=λb o e=>[I.base.keep b o (I.ok.bs b o e).1 (I.ok.bs b o e).2 (I.ok.agC e)<|I.ok.ux b o e,I.base.free b o (I.ok.bs b o e).1 (I.ok.bs b o e).2<|I.ok.ux b o e]
def Inv.bk(I:Inv X pins σ H s):∀b o,X.base.get? b=B o->s.heap.get? b=B o:=λb o e=>(I.bs b o e).1
theorem Inv.mod(I:Inv X pins σ H s):Mod X.K X.mg X.base:=I.ok.mod
theorem Inv.iw(I:Inv X pins σ H s):X.K.In s.heap:=I.ok.mod.o4.keeps I.bk
def Inv.nolimit(I:Inv X pins σ H s):s.heap.NoLimit:=I.ok.mod.nolimit.keeps I.bk
def Inv.lt(I:Inv X pins σ H s):X.env.locals<↑s:=let⟨_,a,_⟩:=I.loc;a.lt
def Inv.sz(I:Inv X pins σ H s):↑X.f_<=↑s:=cu I.ok.above<|rd I.lt
def Inv.agD(I:Inv X pins σ H s)(h:↑s<=a):a∉X.fs:=λO=>by let[_,o,b,_]:=I.ok.kj.mem O;show absurd (gV (cv b)<|cu I.sz h)<|mV _
def Inv.oN(I:Inv X pins σ H s):∀x c,X.env.cells.lookup x=B c->c≠X.env.locals:=λx c e z=>by let[v,o,d,f]:=I.cell x c e;let[m,[g,h,i,a,b,_],_]:=I.loc;rw[z,a]at d;cases d;rw[b]at f;cases f
def Inv.kj(I:Inv X pins σ H s):s.heap.FunFrames X.base X.outer:=by let all:∀(l:List Env),(∀b∈g6 l,b∈X.fs)->X.f_.heap.FunFrames X.base l->s.heap.FunFrames X.base l:=(by intro l;induction l with|nil=>intro _ _;trivial|cons f r g=>intro d h;let[i,[L,o,a,j,m,n],p]:=h;let c:L∈X.fs:=d L (by unfold g6;rw[IQ,a];show gU);let[q,e]:=I.base.slot L o m (I.ok.oU L c) c λz=>I.ok.ua L z c;show [i,[L,_,a,j,e,n],g (λb O=>d b<|by unfold g6;rw[IQ,a];show dv _ O) p]);show all X.outer (λ_ O=>O) I.ok.kj
def Inv.stack(I:Inv X pins σ H s):s.heap.FunFrames X.base X.stack:=by(rcases I.ok.a0 with e|⟨e,a⟩);{rw[e];show I.kj};rw[e];let[m,b,_]:=I.loc;show .cons (by rw[I.ok.kind];decide) a b ?_ I.kj;show vO<|cu I.ok.lW I.ok.above
def Inv.BM(I:Inv X pins σ H s):∀b∈g6 X.stack,b∈X.env.locals::X.fs:=λb O=>by(rcases I.ok.a0 with e|⟨e,a⟩);{rw[e]at O;show dv _ O};rw[e]at O;unfold g6 at O;rw[IQ,a]at O;show O
def Inv.Ic(I:Inv X pins σ H s):∀b∈g6 X.stack,H b=Z:=λb O=>by(rcases bh.mp (I.BM b O)with e|O);{rw[e];show I.free};let[_,o,a,_]:=I.ok.kj.mem O;show I.base.free b o a (I.ok.oU b O) λz=>I.ok.ua b z O
theorem Inv.step{g':Array y6}{t':Nat}{d':Drawn}{ch:List aa}(I:Inv X pins σ H s)(a:∀b∈ch,(b∈X.ex\/↑X.f_<=b)/\b≠X.env.locals/\(∀x c,X.env.cells.lookup x=B c->c≠b)/\∀p∈X.pn++pins,p.1≠b)(keep:∀b o,b≠X.env.locals->b∉X.fs->b∉ch->s.heap.get? b=B o->H b=Z->h'.get? b=B o)(slot:∀b o,b≠X.env.locals->b∈X.fs->b∉ch->s.heap.get? b=B o->H b=Z->∃C,h'.get? b=B {o with slots:=C})(free:∀b o,b∉ch->s.heap.get? b=B o->H b=Z->H' b=Z)(there:∀b o,b∉ch->s.heap.get? b=B o->∃t,h'.get? b=B t)(mL:∀b xs,H b=B (.tup xs)->H' b=B (.tup xs))(acp:∀b o u,H b=B (.gK o u)->H' b=B (.gK o u))(mH:∀b ps,H b=B (.n8 ps)->∃more,H' b=B (.n8<|ps++more))(ns:∀m,s.heap.Ns X.env.locals m->h'.Ns X.env.locals m)(E:dO X.prog X.w H' h')(T:AllBare g'):Inv X pins σ H' {s with heap:=h',gens:=g',drawn:=d',toks:=t'}:=by{
let y:∀b o,X.f_.heap.get? b=B o->b≠X.env.locals:=λb o e=>fk<|gV (cv e) I.ok.above;let g:∀b o,X.f_.heap.get? b=B o->b∉X.ex->b∉ch:=λb o e hx O=>by(rcases(a b O).1 with z|z);{show hx z};show absurd (gV (cv e) z)<|mV _
let cellK:∀x c,X.env.cells.lookup x=B c->∀v,s.heap.IsCell c v->h'.IsCell c v:=λx c e v ⟨o,j,F⟩=>by let f:c∉ch:=λz=>(a c z).2.2.1 x c e ();by_cases J:c∈X.fs;{let[C,q]:=slot c o (I.oN x c e) J f j<|I.jw x c e;show [_,q,F]};show [o,keep c o (I.oN x c e) J f j<|I.jw x c e,F]
show [I.ok,I.os,T,[λb o e n O hx=>?_,λb o e n O hx=>?_,λb o e n hx=>?_,λb o e hx=>?_,λb xs e=>mL b xs<|I.base.mL b xs e,λb o xs e=>acp b o xs<|I.base.acp b o xs e,λb ps e=>?_],?_,λx c e=>?_,?_,λx c e=>?_,λp M=>?_,E,I.len];{show keep b o (y b o e) O (g b o e hx) (I.base.keep b o e n O hx)<|I.base.free b o e n hx};{let[C,h]:=I.base.slot b o e n O hx;let[G,A]:=slot b _ (y b o e) O (g b o e hx) h<|I.base.free b o e n hx;show [G,A]};{let[t,h]:=I.base.there b o e hx;show free b t (g b o e hx) h<|I.base.free b o e n hx};{let[t,h]:=I.base.there b o e hx;show there b t (g b o e hx) h};{let[W,h]:=I.base.mH b ps e;let[m2,A]:=mH b _ h;show [W++m2,by rw[A,WG]]}
.let[m,hn,hl]:=I.loc;show [m,ns m hn,λi x v h A e3=>?_];let[u,r,l]:=hl i x v h A e3;show [u,r,?_];rcases l with l|⟨k,c,e,z⟩
 {show .inl l};show .inr [k,c,e,cellK x c e _ z]
.let[v,z]:=I.cell x c e;show [v,cellK x c e v z]
.let[m,[o,_,_,j,_],_]:=I.loc;show free _ o (λz=>(a _ z).2.1 rfl) j I.free
.let[v,o,j,F]:=I.cell x c e;show free c o (λz=>(a c z).2.2.1 x c e ()) j<|I.jw x c e
let[e,n,P,Q,d]:=I.pin p M;let f:p.1∉ch:=λz=>(a p.1 z).2.2.2 p M ();show [keep p.1 p.2 P Q f e n,free p.1 p.2 f e n,P,Q,d]}
theorem Inv.un{t':Nat}(I:Inv X pins σ H s)(u:Un X.fs [] H H' s.heap h')(c:dO X.prog X.w H' h'):Inv X pins σ H' {s with heap:=h',toks:=t'}:=by let[m,[o,l,p,g,r],_]:=id I.loc;let[q,h]:=u.any g I.free @s_;show I.step (g':=s.gens) (d':=s.drawn) (ch:=[]) (λ_ z=>nomatch z) (λb o _ O _ e n=>u.keep b o e n O @s_) (λb o _ O _ e n=>u.slot b o e n O @s_) (λb o _ e n=>u.free b o e n @s_) (λb o _ e=>u.there b o e @s_) u.mL u.acp u.mH (λt i=>by let[v,d,f,a,j]:=i;rw[g]at a;cases a;show [_,d,f,h,j]) c I.bare
theorem Inv.call{g':Array y6}{t':Nat}{d':Drawn}{ch:List aa}(I:Inv X pins σ H s)(u:Un (g6 X.stack) ch H H' s.heap h')(g:dO X.prog X.w H' h')(q:AllBare g')(d:∀b∈ch,(b∈X.ex\/↑X.f_<=b)/\b≠X.env.locals/\(∀x c,X.env.cells.lookup x=B c->c≠b)/\∀p∈X.pn++pins,p.1≠b):Inv X pins σ H' {s with heap:=h',gens:=g',drawn:=d',toks:=t'}:=by let[m,[o,y,A,l,r],_]:=id I.loc;let[C,h]:=u.any l I.free λz=>(d _ z).2.1 rfl;show I.step (ch:=ch) d (λb o h O a e n=>u.keep b o e n (λz=>(bh.mp<|I.BM b z).elim h O) a) (λb o _ _ a e n=>u.any e n a) (λb o a e n=>u.free b o e n a) (λb o a e=>u.there b o e a) u.mL u.acp u.mH (λE t=>by let[F,i,j,f,v]:=t;rw[l]at f;cases f;show [_,i,j,h,v]) g q
theorem Inv.turned{t':Nat}{a:aa}(I:Inv X pins σ H s)(k:∀b o,b≠a->s.heap.get? b=B o->h'.get? b=B o)(h:H a=Z)(g:a≠X.env.locals)(i:a∈X.ex\/↑X.f_<=a)(j:∀x c,X.env.cells.lookup x=B c->c≠a)(l:∀p∈X.pn++pins,p.1≠a):Inv X pins σ H {s with heap:=h',toks:=t'}:=by{
let f:∀b u,H b=B u->b≠a:=λb u e z=>by rw[z,h]at e;cases e
show I.step (g':=s.gens) (d':=s.drawn) (ch:=#[a]) (λb O=>?_) (λb o _ _ d e _=>k b o (λz=>d<|by simp[z]) e) (λb o _ _ d e _=>[o.slots,k b o (λz=>d<|by simp[z]) e]) (λ_ _ _ _ n=>n)
 (λb o d e=>[o,k b o (λz=>d<|by simp[z]) e]) (λ_ _ e=>e) (λ_ _ _ e=>e) (λb C e=>[#[],by rw[e];simp]) (λm t=>?_) (λb u e=>?_) I.bare
.let e:b=a:=(O:);subst e;show [i,g,j,l]
.let[o,w,y,A,r]:=t;show [o,w,y,k _ o (Ne.symm g) A,r]
show(I.bx b u e).qL (λc v d q=>k c v ?_ q) (λ_ q=>q) λ_ _ q=>q;rcases d with z|z
.rw[z];show f b u e
show f c _ z}
theorem Inv.tok(I:Inv X pins σ H s)(t:Nat):Inv X pins σ H {s with toks:=t}:=I.un (h':=s.heap) (t':=t) Un.refl I.bx
theorem Inv.kept{t':Nat}(I:Inv X pins σ H s)(k:∀b u,s.heap.get? b=B u->h'.get? b=B u):Inv X pins σ H {s with heap:=h',toks:=t'}:=I.un (Un.kept k)<|I.bx.kept k
theorem Inv.laid{a:aa}{o:HO}{t':Nat}(I:Inv X pins σ H s)(k:∀b u,s.heap.get? b=B u->h'.get? b=B u)(c:↑s<=a)(new:eL X.prog X.w (upd H a o) h' a o):Inv X pins σ (upd H a o) {s with heap:=h',toks:=t'}:=I.un (Un.laid k c<|I.bx.fresh c)<|I.bx.laid k c new
def Inv.write(I:Inv X pins σ H s)(mu:wc<|H x)(c:e=x\/H e=B (.own x))(k:∀b u,b≠e->s.heap.get? b=B u->h'.get? b=B u)(a:∃u,h'.get? e=B u)(new:eL X.prog X.w (upd H x o) h' x o):Inv X pins σ (upd H x o) {s with heap:=h',toks:=t'}:=I.un (Un.write mu c k a)<|I.bx.write mu c k a new
def Inv.weak(I:Inv X pins σ H s)(hl:a.length=σ.length)(w:∀(i:Nat) v,a[i]?=B (B v)->σ[i]?=B (B v)):Inv X pins a H s:=[I.ok,I.os,I.bare,I.base,let⟨m,c,b⟩:=I.loc;[m,c,λi x v d e f=>b i x v d (w i v e) f],I.cell,I.free,I.jw,I.pin,I.bx,hl.trans I.len]
def Inv.F9(I:Inv X pins σ H s)(h:∀p∈a,s.heap.get? p.1=B p.2/\H p.1=Z/\p.1≠X.env.locals/\p.1∉X.fs/\∀v,p.2.data≠.cell v):Inv X a σ H s:=[I.ok,I.os,I.bare,I.base,I.loc,I.cell,I.free,I.jw,λp b=>(iZ.mp b).elim (λz=>I.pin p<|Cp _ z)<|h p,I.bx,I.len]
theorem Fy{N:List Str}(c:N.Nodup){i j:Nat}{x:Str}(a:N[i]?=B x)(b:N[j]?=B x):i=j:=by let[f,d]:=el.mp a;let[g,e]:=el.mp b;show(List.getElem_inj c).mp<|d.trans e.symm
def Si(I:Inv X pins σ H s)(hN:X.N.Nodup)(J:X.N[i]?=B x)(hx:Loc X.env.scope x)(r:RelV v u)(h:∀s',Inv X pins (σ.set i<|B v) H s'->(∃a,vN a s.heap s'.heap/\(a=X.env.locals\/X.env.cells.lookup x=B a))->Q fo s')(hf:X.fn x=Y\/X.env.scope.names.lookup x=B .local:=by first|show .inl ()|show .inr ()|assumption):wpAny M A (storeName X.env x u) Q E s:=by{
let[m,hn,hl]:=id I.loc;let P:(X.env.scope.kind==.class||(X.env.scope.kind==.module&&X.env.locals !=X.env.globals))=ag:=by rw[I.ok.kind];rfl
let C:i<σ.length:=by rw[I.len];show(el.mp J).1
let oN:=I.oN;let tracked:∀{a:aa}{h':a8},(∃o,s.heap.get? a=B o/\H a=Z)->vN a s.heap h'->dO X.prog X.w H h':=λ{a h'} ha f b ob e=>by(let[_,_,l]:=ha;show(I.bx b ob e).qL (λc w' hc q=>(f.2 c ?_).trans q) (λ_ q=>q) λ_ _ q=>q;rintro rfl;rcases hc with rfl|hc);{rw[l]at e;cases e};rw[l]at hc;cases hc
rcases hx with hk|hk
.show wpAny_storeName_local hk hn (λh' hn' f=>?_) P;let[oL,_,_,hoL,_]:=id hn;show h _ [I.ok,I.os,I.bare,[λb o e n O hx=>?_,λb o e n O hx=>?_,I.base.free,λb o e hx=>?_,I.base.mL,I.base.acp,I.base.mH],[_,hn',λj y v' g t e3=>?_],λy c e=>?_,I.free,I.jw,λp hp=>?_,tracked [oL,hoL,I.free] f,(I.len:)] [_,f,.inl ()];{show(f.2 b<|fk<|gV (cv e) I.ok.above).trans<|I.base.keep b o e n O hx};{let[sl,g]:=I.base.slot b o e n O hx;show [sl,(f.2 b<|fk<|gV (cv e) I.ok.above).trans g]};{let[o',g]:=I.base.there b o e hx;show [o',(f.2 b<|fk<|gV (cv e) I.ok.above).trans g]};{by_cases F:j=i;{subst F;rw[J]at g;cases g;rw[IZ C]at t;cases t;show [u,r,.inl [hk,by simp]]};(rw[IY<|Ne.symm F]at t;let[u',r',q]:=hl j y v' g t e3;show [u',r',?_];rcases q with⟨k,e⟩|⟨k,c,e,z⟩);{show .inl [k,?_];let:y≠x:=λe=>F<|Fy hN g<|e▸J;simp[this,e]};show .inr [k,c,e,z.sameBut f<|oN y c e]};{let[w',z]:=I.cell y c e;show [w',z.sameBut f<|oN y c e]};let[e,n,ne,nf,d]:=I.pin p hp;show [(f.2 p.1 ne).trans e,n,ne,nf,d]
let G:X.fn x=Y:=by(rcases hf with z|z);{show z};rw[z]at hk;cases hk
let[c,hc]:=I.ok.has x<|.inl hk;let[w',z]:=I.cell x c hc;show wpAny_storeName_cell I.ok.kind hk hc z λh' T f=>?_;let[oc,W,acu]:=id z;show h {s with heap:=h'} [I.ok,I.os,I.bare,[λb o e n O hx=>?_,λb o e n O hx=>?_,I.base.free,λb o e hx=>?_,I.base.mL,I.base.acp,I.base.mH],[m,hn.sameBut f<|Ne.symm (oN x c hc),λj y v' g t e3=>?_],λy c' e=>?_,I.free,I.jw,λp hp=>?_,tracked [oc,W,I.jw x c hc] f,(I.len:)] [c,f,.inr hc];{show(f.2 b<|fk<|gV (cv e)<|I.ok.tY x c G hc).trans<|I.base.keep b o e n O hx};{let[sl,g]:=I.base.slot b o e n O hx;show [sl,(f.2 b<|fk<|gV (cv e)<|I.ok.tY x c G hc).trans g]};{let[o',g]:=I.base.there b o e hx;show [o',(f.2 b<|fk<|gV (cv e)<|I.ok.tY x c G hc).trans g]}
.by_cases F:j=i;{subst F;rw[J]at g;cases g;rw[IZ C]at t;cases t;show [u,r,.inr [.inl hk,c,hc,T]]};rw[IY<|Ne.symm F]at t;let[u',r',q]:=hl j y v' g t e3;show [u',r',?_];rcases q with q|⟨k,c',e,z'⟩
 {show .inl q};show .inr [k,c',e,z'.sameBut f ?_];rintro rfl;show F<|Fy hN g<|I.ok.inj _ _ _ e hc▸J
.by_cases Mi:c'=c;{subst Mi;show [_,T]};let[w2,z2]:=I.cell y c' e;show [w2,z2.sameBut f Mi]
let[e,n,ne,nf,d]:=I.pin p hp;show [(f.2 p.1 ?_).trans e,n,ne,nf,d];intro q;rw[q,W]at e;let q':oc=p.2:=eg e;show d w'<|by rw[<-q'];show acu}
def akB(I:Inv X pins σ H s)(b:X.N.Nodup)(c:X.N[i]?=B x)(hx:Loc X.env.scope x)(r:RelV v u)(h:∀a,Inv X pins (σ.set i<|B v) H a->Q fo a)(d:X.fn x=Y\/X.env.scope.names.lookup x=B .local:=by first|show .inl ()|show .inr ()|assumption):wpAny M A (storeName X.env x u) Q E s:=Si I b c hx r (λa e _=>h a e) d
def Inv.DU(I:Inv X pins σ H s)(g:a.os=s.os)(u:Un (g6 X.stack) ch H H' s.heap a.heap)(d:dO X.prog X.w H' a.heap)(h:AllBare a.gens)(f:∀b∈ch,(b∈X.ex\/↑X.f_<=b)/\b≠X.env.locals/\(∀x c,X.env.cells.lookup x=B c->c≠b)/\∀p∈X.pn++pins,p.1≠b):Inv X pins σ H' a:=by let[h',g',d',t',i]:=a;let e:i=s.os:=g;subst e;show I.call (g':=g') (t':=t') (d':=d') u d h f
end
abbrev XK:=ae->Option aa->Hp->Prop
abbrev St:=List<|Option V
abbrev VK:=V->Hp->Prop
abbrev TE:=St->Hp->VK->Prop
abbrev TT:=St->Hp->(Bool->Hp->Prop)->Prop
abbrev TA:=St->Hp->(List V->Hp->Prop)->Prop
structure Ends where
 nx:St->Hp->Prop
 rt:VK
 bk:St->Hp->Prop:=λ_ _=>False
 ct:St->Hp->Prop:=λ_ _=>False
abbrev TS:=Ends->St->Hp->Prop
inductive EP (X:Cx) (pins:List (aa×Obj)) (σ:St) (Q:VK) (u:ae) (s':ak):Prop
 |mk (v:V) (H':Hp) (_:Inv X pins σ H' s') (_:RelV v u) (_:Q v H'):EP X pins σ Q u s'
inductive TP (X:Cx) (pins:List (aa×Obj)) (σ:St) (Q:Bool->Hp->Prop) (b:Bool) (s':ak):Prop
 |mk (H':Hp) (_:Inv X pins σ H' s') (_:Q b H'):TP X pins σ Q b s'
inductive AP (X:Cx) (pins:List (aa×Obj)) (σ:St) (Q:List V->Hp->Prop) (us:List ae) (s':ak):Prop
 |mk (vs:List V) (H':Hp) (_:Inv X pins σ H' s') (_:bq vs us) (_:Q vs H'):AP X pins σ Q us s'
def SP(X:Cx)(pins:List<|aa×Obj)(a:Ends)(f:Flow)(d:ak):Prop:=match f with|.next=>∃b c,Inv X pins b c d/\a.nx b c|.brk=>∃b c,Inv X pins b c d/\a.bk b c|.cont=>∃b c,Inv X pins b c d/\a.ct b c|.ret u=>∃v b c,Inv X pins b c d/\RelV v u/\a.rt v c
def PE(X:Cx)(e:aw)(t:TE):Prop:=∀(a:List<|aa×Obj)(s:ak)(b:St)(H:Hp)(Q:VK),Inv X a b H s->t b H Q->wpAny @c_ X.A (eval e X.env) (EP X a b Q) X.xe s
def PT(X:Cx)(e:aw)(t:TT):Prop:=∀(a:List<|aa×Obj)(s:ak)(b:St)(H:Hp)(Q:Bool->Hp->Prop),Inv X a b H s->t b H Q->wpAny @c_ X.A (isTrue e X.env<|eval e X.env) (TP X a b Q) X.xe s
def PW(X:Cx)(e:aw)(t:TT):Prop:=∀(whole:Sem ae)(a:List<|aa×Obj)(s:ak)(b:St)(H:Hp)(Q:Bool->Hp->Prop),Inv X a b H s->t b H Q->wpAny @c_ X.A (isTrue e X.env whole) (TP X a b Q) X.xe s
def PW.pt(h:PW X e t):PT X e t:=h _
def PA(X:Cx)(c:List aw)(t:TA):Prop:=∀(pos:Pos)(a:List<|aa×Obj)(s:ak)(b:St)(H:Hp)(Q:List V->Hp->Prop),Inv X a b H s->t b H Q->wpAny @c_ X.A (spliced<|backTo pos<|starEach c X.env) (AP X a b Q) X.xe s
def PS(X:Cx)(st:Stmt)(t:TS):Prop:=∀(b:List<|aa×Obj)(s:ak)(c:St)(H:Hp)(a:Ends),Inv X b c H s->t a c H->wpAny @c_ X.A (exec st X.env) (SP X b a) X.xe s
def gF(X:Cx)(st:List Stmt)(t:TS):Prop:=∀(b:List<|aa×Obj)(s:ak)(c:St)(H:Hp)(a:Ends),Inv X b c H s->t a c H->wpAny @c_ X.A (execs st X.env) (SP X b a) X.xe s
theorem bz{α:Type}{t:Sem α}{Q b:α->ak->Prop}{M:Model}{A:Around}{E:ae->ak->Prop}{s:ak}(h:wpAny M A t Q E s)(c:∀a s,Q a s->b a s):wpAny M A t b E s:=kE h c λ_ _ x=>x
section
variable{X:Cx}
def ay(i:Nat):TE:=λa H Q=>∃v,a[i]?=B (B v)/\Q v H
def tC(v:V):TE:=λ_ H Q=>Q v H
def F6(g:X.N[i]?=B x)(j:tT X.env.scope x)(hd:(x==("__debug__":Str))=ag:=by decide)(d:(x==("__classdict__":Str))=ag:=by decide):PE X (.Name x pos)<|ay i:=by{
intro b s n H Q I h;let[v,e,h]:=h;let[m,o,p]:=I.loc;let[u,r,l]:=p i x v g e j;let fin:EP X b n Q u s:=[v,H,I,r,h];rcases l with⟨hk,q⟩|⟨hk,c,f,a⟩
.show wpAny_Name (wpAny_loadName_local I.ok.kind hk o q fin) hd
rcases hk with hk|hk
.show wpAny_Name (wpAny_loadName_cell I.ok.kind hk f a fin) hd
show wpAny_Name (wpAny_loadName_free I.ok.kind hk f a fin d) hd}
def xH{i j pos}:PE X (.Constant (.int i) j pos)<|tC<|.int i:=λ_ _ _ H _ I h=>wpAny_Constant_int [.int i,H,I.tok _,[_,()],h]
def ah8{b j pos}:PE X (.Constant (.bool b) j pos)<|tC<|.bl b:=λ_ _ _ H _ I h=>Constant_bool [.bl b,H,I,(),h]
def aiw{j pos}:PE X (.Constant .none j pos)<|tC .aC:=λ_ _ _ H _ I h=>Constant_none [.aC,H,I,(),h]
def aiC{x j pos}:PE X (.Constant (.str x) j pos)<|tC<|.str x:=λ_ _ _ H _ I h=>Calls.Constant_str [.str x,H,I.tok _,[_,()],h]
def Gl(X:Cx)(x:Str):Prop:=X.env.kindOf x=B .globalImplicit
theorem sg{E:ae->ak->Prop}{pins:List<|aa×Obj}{s:ak}{a:St}{H:Hp}{x:Str}{u:ae}{pos:Pos}{Q:ae->ak->Prop}(I:Inv X pins a H s)(b:Gl X x)(c:X.mg x=B u)(h:Q u s)(hd:(x==("__debug__":Str))=ag:=by decide):wpAny @c_ X.A (eval (.Name x pos) X.env) Q E s:=JC I.ok.kind b (XN (by rw[I.ok.glob];show I.mod.glob.keeps I.bk) c h) hd
theorem uq{E:ae->ak->Prop}{pins:List<|aa×Obj}{s:ak}{a:St}{H:Hp}{x:Str}{u:ae}{pos:Pos}{Q:ae->ak->Prop}(I:Inv X pins a H s)(b:Gl X x)(c:X.mg x=Z)(d:bootBuiltins x=B u)(h:Q u s)(e:x≠"__name__":=by decide)(hd:(x==("__debug__":Str))=ag:=by decide):wpAny @c_ X.A (eval (.Name x pos) X.env) Q E s:=by let[i,f,g]:=I.mod.blt;show JC I.ok.kind b (Calls.loadGlobal_builtin (by rw[I.ok.glob];show I.mod.glob.keeps I.bk) c (by rw[I.ok.blt];show f.keeps I.bk) ((g x e).trans d) h) hd
def Oz(a:Gl X x)(b:X.mg x=B u)(r:RelV v u)(hd:(x==("__debug__":Str))=ag:=by decide):PE X (.Name x pos)<|tC v:=λ_ _ _ H _ I h=>sg I a b [v,H,I,r,h] hd
variable{a b:aw}{ta tb:TE}{pos:Pos}
def tB(t:TE):TT:=λd H Q=>t d H λx e=>∃c,x=.bl c/\Q c e
theorem ajc{e:aw}{t:TE}(h:PE X e t)(f:∀whole,isTrue e X.env whole=(do let v<-whole;standAt e.pos;holding #[v] (truthy v)):=by intro _;rfl):PT X e<|tB t:=by intro c s g H Q I i;show isTrue_plain (bz (h c s g H _ I i) λv m ⟨x,j,l,r1,q1⟩=>?_)<|f _;let[d,rfl,q]:=q1;cases r1;show qf [j,l,q]
variable{tA BP:TT}{rest:List aw}
def jZ(t u:TT):TT:=λd H Q=>t d H λc e=>if c=Y then u d e Q else Q ag e
def cW(t u:TT):TT:=λd H Q=>t d H λc e=>if c=Y then Q Y e else u d e Q
def cw(t:TT):TT:=λd H Q=>t d H λc e=>Q (!c) e
theorem aji(f:PT X a tA):PW X (.BoolOp .And #[a] pos) tA:=by intro i d s g H Q I h;show isTrue_and<|bz (f d s g H Q I h) λc j e=>?_;cases c with|true=>show isTrue_and_nil e|false=>show e
theorem ajk(f:PT X a tA):PW X (.BoolOp .Or #[a] pos) tA:=by intro i d s g H Q I h;show isTrue_or<|bz (f d s g H Q I h) λc j e=>?_;cases c with|false=>show isTrue_or_nil e|true=>show e
theorem ajh(i:PT X a tA)(O:PW X (.BoolOp .And (b::rest) pos) BP):PW X (.BoolOp .And (a::b::rest) pos)<|jZ tA BP:=by intro j d s e H Q I h;show isTrue_and<|bz (i d s e H _ I h) λc l ⟨f,g,q1⟩=>?_;cases c with|true=>show O j d l e f Q g q1|false=>show [f,g,q1]
theorem ajj(i:PT X a tA)(O:PW X (.BoolOp .Or (b::rest) pos) BP):PW X (.BoolOp .Or (a::b::rest) pos)<|cW tA BP:=by intro j d s e H Q I h;show isTrue_or<|bz (i d s e H _ I h) λc l ⟨f,g,q1⟩=>?_;cases c with|true=>show [f,g,q1]|false=>show O j d l e f Q g q1
def ajb(f:PT X a tA):PT X (.UnaryOp .Not a pos)<|cw tA:=by intro d s g H Q I h;show isTrue_not<|bz (f d s g H (λc e=>Q (!c) e) I h) λc j ⟨e,i,q⟩=>[e,i,q]
def da(ta tb:TE):TE:=λd H Q=>ta d H λx e=>∃c,x=.bl c/\if c=Y then tb d e Q else Q (.bl ag) e
def nY(ta tb:TE):TE:=λd H Q=>ta d H λx e=>∃c,x=.bl c/\if c=Y then Q (.bl Y) e else tb d e Q
def BU(ta:TE):TE:=λd H Q=>ta d H λx e=>∃c,x=.bl c/\Q (.bl<|!c) e
def aiy{d}(h:PE X a t):PE X (.BoolOp d #[a] pos) t:=λc s e H Q I f=>BoolOp_one<|h c s e H Q I f
theorem ah7(i:PE X a ta)(O:PE X (.BoolOp .And (b::rest) pos) tb):PE X (.BoolOp .And (a::b::rest) pos)<|da ta tb:=by intro d s e H Q I h;show BoolOp_and<|bz (i d s e H _ I h) λv j ⟨x,f,g,r1,q1⟩=>?_;let[c,rfl,q1]:=q1;cases r1;show qf ?_;cases c with|true=>show O d j e f Q g q1|false=>show [.bl ag,f,g,(),q1]
theorem aiA(i:PE X a ta)(O:PE X (.BoolOp .Or (b::rest) pos) tb):PE X (.BoolOp .Or (a::b::rest) pos)<|nY ta tb:=by intro d s e H Q I h;show BoolOp_or<|bz (i d s e H _ I h) λv j ⟨x,f,g,r1,q1⟩=>?_;let[c,rfl,q1]:=q1;cases r1;show qf ?_;cases c with|false=>show O d j e f Q g q1|true=>show [.bl Y,f,g,(),q1]
theorem aix(e:PE X a ta):PE X (.UnaryOp .Not a pos)<|BU ta:=by intro d s f H Q I h;show UnaryOp_<|bz (e d s f H _ I h) λv j ⟨x,g,i,r1,q1⟩=>?_;let[c,rfl,q1]:=q1;cases r1;show not_of<|qf [.bl<|!c,g,i,(),q1]
def qM(t:TT)(ta tb:TE):TE:=λd H Q=>t d H λc e=>if c=Y then ta d e Q else tb d e Q
theorem ain{c:aw}(l:PT X c tA)(m:PE X a ta)(O:PE X b tb):PE X (.IfExp c a b pos)<|qM tA ta tb:=by intro e s f H Q I h;show wpAny_IfExp<|bz (l e s f H _ I h) λd g ⟨i,j,q1⟩=>?_;cases d with|true=>show m e g f i Q j q1|false=>show O e g f i Q j q1
end
def bE(K:aR)(H:Hp)(a:aa)(xs:List V):Prop:=Rd H a (.lst xs)\/∃(o:Obj) (b:Array ae) (n:Nat),K.lookup a=B o/\o.cls=.type "list"/\o.dict=Z/\o.data=.seq b n/\b.size<=sizeLine/\bq xs b.toList
def cP(K:aR)(H:Hp)(a:aa)(xs:List V):Prop:=Rd H a (.tup xs)\/∃(o:Obj) (b:Array ae) (n:Nat),K.lookup a=B o/\o.cls=.type "tuple"/\o.data=.seq b n/\b.size<=sizeLine/\bq xs b.toList
def YF:ae->Option V
|.none=>B .aC|.bool b=>B (.bl b)
|.int i _=>B (.int i)|.str x _=>B (.str x)
|.bytes b _=>B (.i5 b)|.float b _=>B (.wV b)
|.ref a=>B (.ref a)|.type n=>B (.ty n)
|_=>Z
def RelV.abs(r:RelV x u):YF u=B x:=by cases x with|aC=>cases r;rfl|bl _=>cases r;rfl|int _=>let[t,rfl]:=r;rfl|str _=>let[t,rfl]:=r;rfl|i5 _=>let[t,rfl]:=r;rfl|wV _=>let[t,rfl]:=r;rfl|ref _=>cases r;rfl|ty _=>cases r;rfl
def RelV.inj(r:RelV x u)(q:RelV y u):x=y:=eg<|r.abs.symm.trans q.abs
def bq.inj:∀{xs ys:List V}{us:List ae},bq xs us->bq ys us->xs=ys|_,_,_,.nil,.nil=>rfl|_,_,_,.cons r t,.cons a b=>by rw[r.inj a,bq.inj t b]
section
variable{X:Cx}{pins:List<|aa×Obj}{σ:St}{H:Hp}{s:ak}{a:aa}{xs ys:List V}
theorem bE.of{K:aR}(h:H a=B (.lst xs)):bE K H a xs:=.inl<|.inl h
theorem cP.of{K:aR}(h:H a=B (.tup xs)):cP K H a xs:=.inl<|.inl h
theorem Inv.list(I:Inv X pins σ H s)(h:bE X.K H a xs):∃b:List ae,bq xs b/\PlainL s.heap a b.toArray/\xs.length<=sizeLine:=by(rcases h with h|⟨o,b,n,c,d,f,g,i,r⟩);{let[z,b,n,r,e]:=h.ok I.bx;show [b,r,[_,n,e,(),(),()],z]};show [b.toList,r,[o,n,I.iw a o c,d,f,(g:)],?_];let e:=r.length;simp only[B7]at e;lia
theorem Inv.tuple(I:Inv X pins σ H s)(h:cP X.K H a xs):∃b:List ae,bq xs b/\IsTup s.heap a b.toArray/\xs.length<=sizeLine:=by(rcases h with h|⟨o,b,n,c,d,f,g,r⟩);{let[z,b,r,p]:=h.ok I.bx;show [b,r,p,z]};show [b.toList,r,[o,I.iw a o c,d,n,(f:)],?_];let e:=r.length;simp only[B7]at e;lia
theorem Inv.xn(I:Inv X pins σ H s)(h:bE X.K H a xs)(h':bE X.K H a ys):xs=ys:=by(let[c,r,[o,n,e,_,_,d],_]:=I.list h;let[b,i,[l,m,f,_,_,g],_]:=I.list h';rw[e]at f;cases f;rw[d]at g;injection g with j _);let:c=b:=(aad yC j:);subst this;show r.inj i
def Inv.V4(I:Inv X pins σ H s)(h:cP X.K H a xs)(h':cP X.K H a ys):xs=ys:=by(let[c,r,[o,e,_,n,d],_]:=I.tuple h;let[b,i,[l,f,_,m,g],_]:=I.tuple h';rw[e]at f;cases f;rw[d]at g;injection g with j _);let:c=b:=(aad yC j:);subst this;show r.inj i
end
abbrev Cx.cm(X:Cx)(E:ae->ak->Prop):Cx:={X with xe:=E}
theorem Cx.Ok.cm{X:Cx}(ok:X.Ok)(E:ae->ak->Prop):(X.cm E).Ok:=[ok.mod,ok.kind,ok.glob,ok.blt,ok.above,ok.inj,ok.has,ok.tY,ok.hd,ok.frames,ok.a0,ok.wN,ok.bs,ok.lW,ok.ux,ok.ua,ok.kj,ok.oU]
theorem Cx.Ok.jC{X:Cx}{E:ae->ak->Prop}(ok:(X.cm E).Ok):X.Ok:=[ok.mod,ok.kind,ok.glob,ok.blt,ok.above,ok.inj,ok.has,ok.tY,ok.hd,ok.frames,ok.a0,ok.wN,ok.bs,ok.lW,ok.ux,ok.ua,ok.kj,ok.oU]
section
variable{X:Cx}{pins:List<|aa×Obj}{σ:St}{H:Hp}{s:ak}{E:ae->ak->Prop}
theorem Inv.cm(I:Inv X pins σ H s)(E:ae->ak->Prop):Inv (X.cm E) pins σ H s:=[I.ok.cm E,I.os,I.bare,I.base,I.loc,I.cell,I.free,I.jw,I.pin,I.bx,I.len]
theorem Inv.jC(I:Inv (X.cm E) pins σ H s):Inv X pins σ H s:=[I.ok.jC,I.os,I.bare,I.base,I.loc,I.cell,I.free,I.jw,I.pin,I.bx,I.len]
def SP.jC(h:SP (X.cm E) pins a f d):SP X pins a f d:=by cases f with|next=>let[b,c,I,q]:=h;show [b,c,I.jC,q]|brk=>let[b,c,I,q]:=h;show [b,c,I.jC,q]|cont=>let[b,c,I,q]:=h;show [b,c,I.jC,q]|ret u=>let[v,b,c,I,r,q]:=h;show [v,b,c,I.jC,r,q]
end
section
variable{X:Cx}{st:Stmt}{rest:List Stmt}{t u:TS}{e:aw}{te:TE}{pos:Pos}
def bw:TS:=λa b H=>a.nx b H
def bQ(t u:TS):TS:=λa b H=>t {a with nx:=u a} b H
def ai9:gF X [] bw:=λ_ _ a H _ I h=>zg [a,H,I,h]
theorem ai8(d:PS X st t)(g:gF X rest u):gF X (st::rest)<|bQ t u:=by intro b s i H a I h;show J8<|bz (d b s i H {a with nx:=u a} I h) λf j q=>?_;cases f with|next=>let[c,l,m,q]:=q;show g b j c l a m q|ret v=>show q|brk=>show q|cont=>show q
theorem A9(c:PS X st t):gF X #[st] t:=by intro b s d H a I h;show J8<|bz (c b s d H a I h) λf g q=>?_;cases f with|next=>show zg q|ret v=>show q|brk=>show q|cont=>show q
def ai1:PS X (.Pass pos) bw:=λ_ _ a H _ I h=>wpAny_Pass [a,H,I,h]
theorem Inv.quiet{pins:List<|aa×Obj}{a:St}{H:Hp}{s:ak}(I:Inv X pins a H s):interactive X.env=ag:=by simp[interactive,I.ok.kind]
def cG(te:TE):TS:=λa b H=>te b H λ_ c=>a.nx b c
theorem aiX(d:PE X e te)(f:swapsWith e Z pos.line X.env=pure ag:=by rfl):PS X (.Expr e pos)<|cG te:=by intro b s c H a I h;show wpAny_Expr_any (bz (d b s c H _ I h) λv j ⟨x,g,i,r1,q1⟩=>[c,g,i,q1]) I.quiet f
def ah(te:TE):TS:=λa b H=>te b H a.rt
theorem A8(d:PE X e te):PS X (.Return (B e) pos)<|ah te:=by intro b s c H a I h;show wpAny_Return_some<|bz (d b s c H _ I h) λv i ⟨x,f,g,r1,q1⟩=>[x,c,f,g,r1,q1]
def So:TS:=λa _ H=>a.rt .aC H
def ai3:PS X (.Return Z pos) So:=λ_ _ a H _ I h=>wpAny_Return_none [.aC,a,H,I,(),h]
def bu(c:TT)(t u:TS):TS:=λa d H=>c d H λb f=>if b=Y then t a d f else u a d f
theorem ai0{c:aw}{a b:List Stmt}{j:TT}(o:PT X c j)(p:gF X a t)(O:gF X b u):PS X (.If c a b pos)<|bu j t u:=by intro g s i H f I h;show wpAny_If<|bz (o g s i H _ I h) λd l ⟨m,n,q1⟩=>?_;cases d with|true=>show p g l i m f n q1|false=>show O g l i m f n q1
end
abbrev TG:=V->St->Hp->(St->Hp->Prop)->Prop
abbrev oH:=List V->St->Hp->(St->Hp->Prop)->Prop
def PG(X:Cx)(target:aw)(t:TG):Prop:=∀(a:List<|aa×Obj)(s:ak)(c:St)(H:Hp)(v:V)(u:ae)(Q:St->Hp->Prop),Inv X a c H s->RelV v u->t v c H Q->wpAny @c_ X.A (assign target X.env u) (λ_ e=>∃b d,Inv X a b d e/\Q b d) X.xe s
def we(X:Cx)(g:List aw)(t:oH):Prop:=∀(a:List<|aa×Obj)(s:ak)(c:St)(H:Hp)(d:List V)(e:List ae)(Q:St->Hp->Prop),Inv X a c H s->bq d e->t d c H Q->wpAny @c_ X.A (assignInOrder ((assignEach g X.env).map (·.2)) e) (λ_ h=>∃b f,Inv X a b f h/\Q b f) X.xe s
abbrev zy:=V->V->V->Hp->(Hp->Prop)->Prop
def Dj(X:Cx)(t:zy):Prop:=∀(a:List<|aa×Obj)(s:ak)(b:St)(H:Hp)(o i v:V)(c d u:ae)(Q:Hp->Prop),Inv X a b H s->RelV o c->RelV i d->RelV v u->t o i v H Q->wpAny @c_ X.A (setItem c d u) (λ_ f=>∃e,Inv X a b e f/\Q e) X.xe s
section
variable{X:Cx}{pos:Pos}
def aY(i:Nat):TG:=λv a H Q=>Q (a.set i<|B v) H
def F7(b:X.N.Nodup)(c:X.N[i]?=B x)(hx:Loc X.env.scope x)(d:X.fn x=Y\/X.env.scope.names.lookup x=B .local:=by first|show .inl ()|show .inr ()|assumption):PG X (.Name x pos)<|aY i:=by intro a s f H v u Q I r h;show wpAny_assign_Name<|akB I b c hx r (λg e=>[_,H,e,h]) d
def hX:oH:=λa b H Q=>a=[]/\Q b H
def dJ(t:TG)(u:oH):oH:=λb c H Q=>∃v r,b=v::r/\t v c H λa d=>u r a d Q
def aiH:we X [] hX:=by intro a s b H c d Q I r h;let[e,h]:=h;subst e;cases r;show assignInOrder_nil [b,H,I,h]
theorem aiG{e:aw}{b:List aw}{t:TG}{u:oH}(d:PG X e t)(f:we X b u)(g:(assignEach (e::b) X.env).map (·.2)=assign e X.env::(assignEach b X.env).map (·.2):=by rfl):we X (e::b)<|dJ t u:=by intro a s i H p q Q I r h;let[v,w,j,h]:=h;subst j;cases r with|cons r l=>rw[g];show assignInOrder_cons<|bz (d a s i H _ _ _ I r h) λ_ m ⟨c,n,o,q1⟩=>?_;show f a m c n _ _ Q o l q1
def hZ(K:aR)(n:Nat)(t:oH):TG:=λv c H Q=>∃a b,v=.ref a/\cP K H a b/\b.length=n/\t b c H Q
def aiF(l:X.calm=Y)(h:we X d t)(m:(assignEach d X.env).length=n:=by rfl)(f:(assignEach d X.env).findIdx? (·.1)=Z:=by rfl):PG X (.Tuple d k pos)<|hZ X.K n t:=by intro c s i H v u Q I r g;let[a,p,q,w,x,g]:=g;subst q;cases r;let[y,j,z,E]:=I.tuple w;show assign_Tuple_tuple (I.ok.hd l) z (by simp[m,<-x,j.length]) f λA hx=>?_;let C:Inv X c i H {s with heap:=A}:=I.kept (t':=s.toks) λb o e=>hx b o (fk<|cv e) e;show h c _ i H p _ Q C (j:) g
def nA(to b:TE)(t:zy):TG:=λv a H Q=>to a H λo c=>b a c λi d=>t o i v d λe=>Q a e
theorem aiE{o i:aw}{to e:TE}{t:zy}(f:PE X o to)(g:PE X i e)(j:Dj X t)(l:∀v,assign (.Subscript o i pos) X.env v=(do
  let b<-holding #[v]<|eval o X.env;let c<-holding #[v,b] (eval i X.env)
  standAt pos
  holding #[v,b,c] (setItem b c v)
  release #[v,b,c] []):=by intro _;rfl):PG X (.Subscript o i pos)<|nA to e t:=by
 intro a s d H v u Q I r h;rw[l];show aZ<|zh<|bz (f a s d H _ I h) λb m ⟨x,n,p,r1,q1⟩=>?_;show aZ<|zh<|bz (g a m d n _ p q1) λc q ⟨y,w,z,r2,q2⟩=>?_;show aZ<|Kb<|aZ<|zh<|bz (j a q d w x y v b c u _ z r1 r2 r q2) λ_ E ⟨A,C,q3⟩=>?_;show wpAny_release [d,A,C,q3]
def b_(te:TE)(g:TG):TS:=λa b H=>te b H λx c=>g x b c a.nx
theorem Gq{c e:aw}{te:TE}{g:TG}(f:PE X e te)(i:PG X c g)(j:swapsWithSole #[c] e pos.line X.env=pure ag:=by rfl)(l:swappedStores #[c] e X.env=pure Z:=by rfl)(m:(assignEach #[c] X.env).map (·.2)=#[assign c X.env]:=by rfl):PS X (.Assign #[c] e pos)<|b_ te g:=by intro b s d H a I h;show wpAny_Assign_stores (bz (f b s d H _ I h) λv n ⟨x,o,p,r1,q1⟩=>?_) j l;rw[m];show bz (i b n d o x v _ p r1 q1) λ_ r q=>q
end
section
variable{X:Cx}{pos:Pos}
def mG(c:TT)(tb:TS):TS:=λa d H=>∃W:Nat->St->Hp->Prop,(∃m,W m d H)/\∀m d H,W m d H->c d H λb f=>if b=Y then∃N:St->Hp->Prop,(∀e g,N e g->∃h,h<m/\W h e g)/\tb {a with nx:=N,ct:=N,bk:=a.nx} d f else a.nx d f
end
structure It where
 go:Nat->Hp->Prop
 kW:Nat->Hp->V->Hp->Prop
 stop:Nat->Hp->Prop
def la(X:Cx)(pins:List<|aa×Obj)(H:Hp)(b:aa):Prop:=H b=Z/\b≠X.env.locals/\b∉X.fs/\(b∈X.ex\/↑X.f_<=b)/\(∀x c,X.env.cells.lookup x=B c->c≠b)/\∀p∈X.pn++pins,p.1≠b
def Inv.oS(I:Inv X pins d H s)(O:↑s<=b)(f:a b=Z):la X pins a b:=by show [f,p6<|gV I.lt O,I.agD O,.inr<|cu I.sz O,λx c e z=>?_,λp g z=>?_];{let[v,q]:=I.cell x c e;show absurd (gV q.lt<|by rw[z];show O)<|mV _};show absurd (gV (cv (I.pin p g).1)<|by rw[z];show O)<|mV _
structure Turn (P:bU) (w:bj) (K:aR) (tg:aw) (J:It) (fp:List aa) (it:aa) (tn:Nat->a8->Prop):Prop where
 mem:it∈fp
 obj:∀i h,tn i h->∀b∈fp,∃o,h.get? b=B o/\∀v,o.data≠.cell v
 keep:∀i h h',tn i h->(∀b∈fp,∀o,h.get? b=B o->h'.get? b=B o)->tn i h'
 item:∀(X:Cx),X.prog=P->X.w=w->X.K=K->X.calm=Y->∀(i:Nat)(pins:List<|aa×Obj)(s:ak)(σ:St)(H:Hp)(E:ae->ak->Prop),Inv X pins σ H s->(∀b∈fp,la X pins H b)->tn i s.heap->J.go i H->
  wpAny (model P w) X.A (pyNext<|.ref it) (λr s1=>∃u,r=B u/\
   wpAny (model P w) X.A (letOwnedTupleGo tg (.ref it) u) (λ_ s2=>∃x H',Inv X pins σ H' s2/\RelV x u/\J.kW i H x H'/\tn (i+1) s2.heap/\∀b∈fp,H' b=Z) E s1) E s
 done:∀(X:Cx),X.prog=P->X.w=w->X.K=K->X.calm=Y->∀(i:Nat)(pins:List<|aa×Obj)(s:ak)(σ:St)(H:Hp)(E:ae->ak->Prop),Inv X pins σ H s->(∀b∈fp,la X pins H b)->tn i s.heap->J.stop i H->
  wpAny (model P w) X.A (pyNext<|.ref it) (λr s1=>r=Z/\Inv X pins σ H s1) E s
 self:∀(A:Around)(i:Nat)(s:ak)(Q:ae->ak->Prop)(E:ae->ak->Prop),tn i s.heap->Q (.ref it) s->wpAny (model P w) A (pyIter<|.ref it) Q E s
abbrev TI:=St->Hp->(It->Hp->Prop)->Prop
def Di(X:Cx)(pins:List<|aa×Obj)(h:St)(i:aw)(R:It->Hp->Prop)(a:ae)(d:ak):Prop:=∃(e:aa) (f:List aa) (g:Nat->a8->Prop) (J:It) (c:Hp),a=.ref e/\Inv X pins h c d/\Turn X.prog X.w X.K i J f e g/\g 0 d.heap/\(∀b∈f,la X pins c b)/\R J c
def PI(X:Cx)(c iter:aw)(wi:TI):Prop:=∀(a:List<|aa×Obj)(s:ak)(b:St)(H:Hp)(R:It->Hp->Prop),Inv X a b H s->wi b H R->wpAny @c_ X.A (eval iter X.env) (λv d=>wpAny @c_ X.A (pyIter v) (Di X a b c R) X.xe d) X.xe s
def wY(d:s.heap.get? c=B o)(e:o.cls=.type n)(hd:o.data=.fields vs)(f:#["enumerate","zip","dict_itemiterator","dict_reverseitemiterator","odict_iterator","itertools.zip_longest","itertools.pairwise"].contains n=ag)(a:Q fo s):wpAny M A (letOwnedTupleGo b (.ref c) u) Q E s:=by{
unfold letOwnedTupleGo;cases b<;>first
 |show cZ a
 |(cases u<;>first
  |show cZ a
  |(show aZ<|wpAny_load d ?_
    rw[e,hd];change wpAny M A (if(#["enumerate","zip","dict_itemiterator","dict_reverseitemiterator","odict_iterator","itertools.zip_longest","itertools.pairwise"].contains n&&vs[0]?==B (rawInt _))=Y then _ else _) Q E s;rw[aaa<|by intro h;rw[f,jj]at h;cases h];show cZ a))}
def Dd(K:aR)(a:aa):It:=[λi H=>∃b x,bE K H a b/\b[i]?=B x,λi H x c=>c=H/\∀b,bE K H a b->b[i]?=B x,λi H=>∃b,bE K H a b/\b.length<=i]
def De(K:aR)(a:aa):It:=[λi H=>∃b x,cP K H a b/\b[i]?=B x,λi H x c=>c=H/\∀b,cP K H a b->b[i]?=B x,λi H=>∃b,cP K H a b/\b.length<=i]
def wa(lo:Int)(n:Nat):It:=[λi _=>i<n,λi H x a=>a=H/\x=.int (lo+i),λi _=>n<=i]
theorem ak7{P:bU}{w:bj}{K:aR}{tg:aw}(a g:aa):Turn P w K tg (Dd K a) #[g] g (λi h=>h.IsListIter g a i) where
 mem:=by simp
 obj:=λi h st b O=>by let e:b=g:=(O:);subst e;let[o,e,c,d]:=st;show [o,e,λv z=>by rw[d]at z;cases z]
 keep:=λi h l st k=>st.at λo e=>k g @s_ o e
 item:=by intro X q r t T i f s σ H E I m st y;subst q r t;let[xs,x,n,hx]:=y;let[A,C,p,hz]:=I.list n;let[u,hu,ru]:=C.get hx;let[F,G,f2,J,M,Q]:=m g @s_;show Ys st p.isList (x:=u) (hu:) λl j sb=>?_;let I1:Inv X f σ H {s with heap:=l}:=I.turned (t':=s.toks) (λb o O e=>(sb.2 b O).trans e) F G J M Q;let[o,e,c,d]:=id j;show [u,(),wY (s:={s with heap:=l}) e c d @d_ [x,H,I1,ru,[(),λys hy=>by rw[I.xn hy n];show hx],j,λb O=>(m b O).1]]
 done:=by intro X q r t T i f s σ H E I m st y;subst q r t;let[xs,n,hx]:=y;let[A,C,p,hz]:=I.list n;let[F,G,f2,J,M,Q]:=m g @s_;let hl:=C.length;show Yr (I.ok.hd T) st p.isList @m_ λl eb=>[(),I.turned (t':=s.toks) (λb o O e=>eb b o O e) F G J M Q]
 self:=λ_ _ _ _ _ st h=>wpAny_pyIter_listiter st h
theorem ak_{P:bU}{w:bj}{K:aR}{tg:aw}(a g:aa):Turn P w K tg (De K a) #[g] g (λi h=>h.IsTupleIter g a i) where
 mem:=by simp
 obj:=λi h st b O=>by let e:b=g:=(O:);subst e;let[o,e,c,d]:=st;show [o,e,λv z=>by rw[d]at z;cases z]
 keep:=λi h m st k=>st.at λo e=>k g @s_ o e
 item:=by intro X r t y T i f s σ H E I n st A;subst r t y;let[xs,x,q,hx]:=A;let[j,C,p,hz]:=I.tuple q;let[u,hu,ru]:=C.get hx;let[F,G,f2,J,M,Q]:=n g @s_;show wpAny_pyNext_tuple_item st (show s.heap.IsTuple a j.toArray from p) (x:=u) (hu:) λm l sb=>?_;let I1:Inv X f σ H {s with heap:=m}:=I.turned (t':=s.toks) (λb o O e=>(sb.2 b O).trans e) F G J M Q;let[o,e,c,d]:=id l;show [u,(),wY (s:={s with heap:=m}) e c d @d_ [x,H,I1,ru,[(),λys hy=>by rw[I.V4 hy q];show hx],l,λb O=>(n b O).1]]
 done:=by intro X r t y T i f s σ H E I n st A;subst r t y;let[xs,q,hx]:=A;let[j,C,p,hz]:=I.tuple q;let[F,G,f2,J,M,Q]:=n g @s_;let hl:=C.length;show wpAny_pyNext_tuple_end (I.ok.hd T) st (show s.heap.IsTuple a j.toArray from p) @m_ λm eb=>[(),I.turned (t':=s.toks) (λb o O e=>eb b o O e) F G J M Q]
 self:=λ_ _ _ _ _ st h=>wpAny_pyIter_tupleiter st h
theorem ak8{P:bU}{w:bj}{K:aR}{G:aw}(a:aa)(lo:Int)(n:Nat):Turn P w K G (wa lo n) #[a] a (λi h=>CP h a (lo+(i:Nat)*1) ((n:Int)-(i:Nat)) 1) where
 mem:=by simp
 obj:=λi h st b O=>by let e:b=a:=(O:);subst e;show [_,st,λv z=>by let J:Data.fields _=Data.cell v:=z;cases J]
 keep:=λi h f st k=>k a @s_ _ st
 item:=by intro X j l m p i c s C H E I g st q;subst j l m;let[r,u,M,x,y,A]:=g a @s_;let W:=Walks.range (prog:=X.prog) (w:=X.w) (I.ok.hd p) a lo 1 n;show W.item i s _ _ q st λv f F Q d T=>?_;let[t,rfl]:=Q;let I1:Inv X c C H {s with heap:=f,toks:=F}:=I.turned (λb o O e=>T b o (O:) e) r u x y A;show [_,(),wY (s:={s with heap:=f,toks:=F}) (n:="range_iterator") d () rfl @d_ [.int<|lo+i,H,I1,[t,?_],[(),()],d,λb O=>(g b O).1]];rw[Int.mul_one]
 done:=by intro X j l m p i c s C H E I g st q;subst j l m;let[r,u,M,x,y,A]:=g a @s_;show Yt (I.ok.hd p) st (by let:n<=i:=q;lia) λf eb=>[(),I.turned (t':=s.toks) (λb o O e=>eb b o O e) r u x y A]
 self:=λ_ _ _ _ _ st h=>Yq st h
section
variable{X:Cx}{tg:aw}
theorem ajU{pins:List<|aa×Obj}{c:St}{H:Hp}{s:ak}{R:It->Hp->Prop}{E:ae->ak->Prop}{lo a:Int}{t u v:Tok}{tk:Nat}(I:Inv X pins c H s)(f: -(2^62)<=lo)(g:lo<2^62)(h: -(2^62)<=a)(i:a<2^62)(q:R (wa lo (a-lo).toNat) H):wpAny @c_ X.A (pyIter<|.ref ↑s) (Di X pins c tg R) E {s with heap:=s.heap.push {cls:=.type "range",data:=.fields (bS #[.int lo t,.int a u,.int 1 v])},toks:=tk}:=by{
show wpAny_pyIter_range (X5 ..) (small_one f g h i) ?_;let d:Inv X pins c H {s with heap:=s.heap.push {cls:=.type "range",data:=.fields (bS #[.int lo t,.int a u,.int 1 v])},toks:=tk}:=I.kept λb o e=>dh _ e;show [(s.heap.push {cls:=.type "range",data:=.fields<|bS #[.int lo t,.int a u,.int 1 v]}).objs.size,#[(s.heap.push {cls:=.type "range",data:=.fields<|bS #[.int lo t,.int a u,.int 1 v]}).objs.size],_,_,H,(),d.kept (t':=tk) λb o e=>dh _ e,ak8 _ lo (a-lo).toNat,?_,λb O=>?_,q]
.let j:lo+((0:Nat):Int)*1=lo:=by simp
 let l:(((a-lo).toNat:Nat):Int)-((0:Nat):Int)=y3 lo a 1:=by rw[rangeSize_one];split<;>lia
 change CP _ _ (lo+((0:Nat):Int)*1) ((((a-lo).toNat:Nat):Int)-((0:Nat):Int)) 1;rw[j,l];show f6 _ ()
let e:b=(s.heap.push {cls:=.type "range",data:=.fields<|bS #[.int lo t,.int a u,.int 1 v]}).objs.size:=(O:);subst e;show d.oS (bD _)<|d.bx.fresh<|bD _}
def fO(ta:TA):TI:=λa H R=>ta a H λb c=>∃j:Int,b=#[.int j]/\ -(2^62)<=j/\j<2^62/\R (wa 0 j.toNat) c
theorem aiK{a:aw}{ta:TA}{p pos:Pos}(c:Gl X "range")(d:X.mg "range"=Z)(f:PA X #[a] ta)(g:starEach #[a] X.env=#[(ag,eval a X.env)]:=by rfl):PI X tg (.Call (.Name "range" p) #[a] [] pos)<|fO ta:=by intro b s i H R I h;show Call_<|uq I c d boot_range<|y2 (bz (f pos b s i H _ I h) λn o ⟨u,v,l,r1,q1⟩=>?_) g ();let[j,e,q1,q2,q]:=q1;subst e;cases r1 with|cons r m=>cases m;let[t,rfl]:=r;show call_range_1<|ajU l @o_ @o_ q1 q2 (q:)
def fH(wi:TI)(g:TG)(tb:TS):TS:=λa b H=>wi b H λJ h=>∃W:Nat->Nat->St->Hp->Prop,(∃m,W 0 m b h)/\∀i m b H,W i m b H->(J.stop i H/\a.nx b H)\/(J.go i H/\∃N:St->Hp->Prop,(∀c d,N c d->∃f,f<m/\W (i+1) f c d)/\∀x d,J.kW i H x d->g x b d λe j=>tb {a with nx:=N,ct:=N,bk:=a.nx} e j)
def xI(a:List aa)(h:a8):List<|aa×Obj:=a.filterMap λb=>(h.get? b).map λo=>(b,o)
def Fo(O:b∈a)(e:h.get? b=B o):(b,o)∈xI a h:=Xa.mpr [b,O,by rw[e];rfl]
def ag6(c:p∈xI a h):p.1∈a/\h.get? p.1=B p.2:=by let[b,O,e]:=Xa.mp c;cases q:h.get? b with|none=>rw[q]at e;cases e|some o=>rw[q]at e;let d:(b,o)=p:=eg e;subst d;show [O,q]
def Inv.pinned(I:Inv X pins c H s)(g:∀b∈a,la X pins H b)(h:∀b∈a,∃o,s.heap.get? b=B o/\∀v,o.data≠.cell v):Inv X (pins++xI a s.heap) c H s:=I.F9 λp i=>(iZ.mp i).elim (λz=>I.pin p<|pV _ z) λz=>by let[O,e]:=ag6 z;let[j,l,m,_]:=g p.1 O;let[o,f,d]:=h p.1 O;rw[e]at f;cases f;show [e,j,l,m,d]
def Inv.B1(I:Inv X (pins++pl) a H s):Inv X pins a H s:=I.F9 λp b=>I.pin p<|pV _<|Cp _ b
end
abbrev R2:=V->V->Hp->VK->Prop
def cE(X:Cx)(f:ae->ae->Sem ae)(r:R2):Prop:=∀(a:List<|aa×Obj)(s:ak)(b:St)(H:Hp)(x y:V)(v u:ae)(Q:VK),Inv X a b H s->RelV x v->RelV y u->r x y H Q->wpAny @c_ X.A (f v u) (EP X a b Q) X.xe s
def Dq(X:Cx)(f:ae->Sem ae)(r:V->Hp->VK->Prop):Prop:=∀(a:List<|aa×Obj)(s:ak)(b:St)(H:Hp)(x:V)(v:ae)(Q:VK),Inv X a b H s->RelV x v->r x H Q->wpAny @c_ X.A (f v) (EP X a b Q) X.xe s
def gE(X:Cx)(f:ae)(r:List V->Hp->VK->Prop):Prop:=∀(a:List<|aa×Obj)(s:ak)(b:St)(H:Hp)(c:List V)(d:List ae)(Q:VK),Inv X a b H s->bq c d->r c H Q->wpAny @c_ X.A (call f d) (EP X a b Q) X.xe s
def aq(r:R2)(ta tb:TE):TE:=λa H Q=>ta a H λx b=>tb a b λy c=>r x y c Q
def iU(r:V->Hp->VK->Prop)(ta:TE):TE:=λa H Q=>ta a H λx b=>r x b Q
def rI(C:Int->Int->Prop)(g:Int->Int->V):R2:=λx y H Q=>∃i j,x=.int i/\y=.int j/\C i j/\Q (g i j) H
def iC(g:Int->Int->V):R2:=λx y H Q=>∃i j,x=.int i/\y=.int j/\Q (g i j) H
def rU(g:Int->V):V->Hp->VK->Prop:=λx H Q=>∃i,x=.int i/\Q (g i) H
section
variable{X:Cx}{a b c:aw}{ta tb tc:TE}{pos:Pos}
theorem DL(m:PE X a ta)(O:PE X b tb){pins:List<|aa×Obj}{s:ak}{d:St}{H:Hp}{R:V->V->Hp->Prop}(I:Inv X pins d H s)(h:ta d H λx l=>tb d l λy e=>R x y e){Q:ae->ak->Prop}{f:ae->ae->Sem ae}(n:∀v u j x y e,Inv X pins d e j->RelV x v->RelV y u->R x y e->wpAny @c_ X.A (f v u) Q X.xe j):wpAny @c_ X.A (eval a X.env) (λv g=>wpAny @c_ X.A (eval b X.env) (λu i=>wpAny @c_ X.A (f v u) Q X.xe i) X.xe g) X.xe s:=by show bz (m pins s d H _ I h) λv o ⟨x,l,p,r1,q1⟩=>?_;show bz (O pins o d l _ p q1) λu j ⟨y,e,q,r2,q2⟩=>?_;show n v u j x y e q r1 r2 q2
def aiz(f:cE X (binaryOp e) r)(g:PE X a ta)(O:PE X b tb):PE X (.BinOp a e b pos)<|aq r ta tb:=by intro d s i H Q I h;show wpAny_BinOp<|DL g O I h λv u j x y l m n o q=>f d j i l x y v u Q m n o q
theorem F5{e:UnaryOp}{r:V->Hp->VK->Prop}(g:Dq X (unaryOp e) r)(i:PE X a ta):PE X (.UnaryOp e a pos)<|iU r ta:=by intro d s f H Q I h;show UnaryOp_<|bz (i d s f H _ I h) λv j ⟨x,l,m,r1,q1⟩=>g d j f l x v Q m r1 q1
theorem xF{f:ae->ae->Sem ae}{C:Int->Int->Prop}{g:Int->Int->Int}(rule:∀(i j:Int)(t u:Tok)(s:ak)(Q:ae->ak->Prop)(E:ae->ak->Prop),C i j->Q (.int (g i j) s.toks) {s with toks:=s.toks+1}->wpAny @c_ X.A (f (.int i t)<|.int j u) Q E s):cE X f (rI C λi j=>.int<|g i j):=by intro d s o H x y v u Q I e l h;let[i,j,rfl,rfl,m,q]:=h;let[t,rfl]:=e;let[n,rfl]:=l;show rule i j t n s _ _ m [.int<|g i j,H,I.tok _,[_,()],q]
theorem FN{f:ae->ae->Sem ae}{g:Int->Int->Int}(rule:∀(i j:Int)(t u:Tok)(s:ak)(Q:ae->ak->Prop)(E:ae->ak->Prop),Q (.int (g i j) s.toks) {s with toks:=s.toks+1}->wpAny @c_ X.A (f (.int i t)<|.int j u) Q E s):cE X f (iC λi j=>.int<|g i j):=by intro d s n H x y v u Q I e l h;let[i,j,rfl,rfl,q]:=h;let[t,rfl]:=e;let[m,rfl]:=l;show rule i j t m s _ _ [.int<|g i j,H,I.tok _,[_,()],q]
theorem AY{f:ae->ae->Sem ae}{g:Int->Int->Bool}(rule:∀(i j:Int)(t u:Tok)(s:ak)(Q:ae->ak->Prop)(E:ae->ak->Prop),Q (.bool<|g i j) s->wpAny @c_ X.A (f (.int i t)<|.int j u) Q E s):cE X f (iC λi j=>.bl<|g i j):=by intro d s n H x y v u Q I e l h;let[i,j,rfl,rfl,q]:=h;let[t,rfl]:=e;let[m,rfl]:=l;show rule i j t m s _ _ [.bl<|g i j,H,I,(),q]
def C_(i j:Int):Prop:=0<j/\j<1073741824
def Dc(i j:Int):Prop:=0<=j/\j<=1000000/\i.natAbs<2^64
def v7(i j:Int):Prop:=(-(2^64)<i/\i<2^64)\/(-(2^64)<j/\j<2^64)
theorem v7.ok{i j:Int}(h:v7 i j):IntMulOk i j:=by(rcases h with⟨d,e⟩|⟨d,e⟩);{show .of_left<|intBits_le_64 d e};show .of_right<|intBits_le_64 d e
def alg(k:Nat):(0:Int)<=2^k:=by rw[two_pow_cast];show abL _
def ahl:cE X (binaryOp .Add)<|iC λi j=>.int<|i+j:=FN λ_ _ _ _ _ _ _ q=>add_int q
def ahI:cE X (binaryOp .Sub)<|iC λi j=>.int<|i-j:=FN λ_ _ _ _ _ _ _ q=>sub_int q
def ahB:cE X (binaryOp .Mult)<|rI v7 λi j=>.int<|i*j:=xF λ_ _ _ _ _ _ _ d q=>mul_int q d.ok
def ahs:cE X (binaryOp .FloorDiv)<|rI C_ λi j=>.int<|i/j:=xF λi j _ _ _ _ _ d q=>by let e:(0:Int)<j:=d.1;let f:j<1073741824:=d.2;show floordiv_int @o_ (by rw[WN i @o_];show q)<|.inl<|XD @o_
def ahA:cE X (binaryOp .Mod)<|rI (λ_ j=>0<j) λi j=>.int<|i % j:=xF λi j _ _ _ _ _ d q=>by let e:(0:Int)<j:=d;show mod_int' @o_<|by rw[Int.fmod_eq_emod_of_nonneg i @o_];show q
def ahG:cE X (binaryOp .LShift)<|rI Dc λi j=>.int<|i*2^j.toNat:=xF λ_ _ _ _ _ _ _ d q=>lshift_int_small d.1 d.2.1 d.2.2 q
def ahH:cE X (binaryOp .RShift)<|rI (λ_ j=>0<=j) λi j=>.int<|i/2^j.toNat:=xF λi j _ _ _ _ _ d q=>rshift_int d (by rw[WN i<|alg _];show q)
def ahn:cE X (binaryOp .BitAnd)<|iC λi j=>.int<|JB i j:=FN λ_ _ _ _ _ _ _ q=>and_int q
theorem unI{f:ae->Sem ae}{g:Int->Int}(rule:∀(i:Int)(t:Tok)(s:ak)(Q:ae->ak->Prop)(E:ae->ak->Prop),Q (.int (g i) s.toks) {s with toks:=s.toks+1}->wpAny @c_ X.A (f<|.int i t) Q E s):Dq X f (rU λi=>.int<|g i):=by intro d s j H x v Q I e h;let[i,rfl,q]:=h;let[t,rfl]:=e;show rule i t s _ _ [.int<|g i,H,I.tok _,[_,()],q]
def Iv:Dq X (unaryOp .USub)<|rU λi=>.int<|-i:=unI λ_ _ _ _ _ q=>neg_int q
end
def Bt:V->V->Bool
|.aC,.aC=>Y|.aC,.int _=>Y|.int _,.aC=>Y|.aC,.bl _=>Y|.bl _,.aC=>Y|.aC,.str _=>Y|.str _,.aC=>Y
|.int _,.int _=>Y|.bl _,.bl _=>Y|.str _,.str _=>Y|.i5 _,.i5 _=>Y
|.int _,.str _=>Y|.str _,.int _=>Y|.bl _,.str _=>Y|.str _,.bl _=>Y
|_,_=>ag
def O3:R2:=λx y H Q=>Bt x y=Y/\Q (.bl<|~~~(x=y)) H
def Pn:R2:=λx y H Q=>Bt x y=Y/\Q (.bl<|!~~~(x=y)) H
def Lq: ~~~(V.int i=V.int j)=(i==j):=by rw[cb];simp
def Lm: ~~~(V.bl i=V.bl j)=(i==j):=by rw[cb];simp
def Ls: ~~~(V.str i=V.str j)=(i==j):=by rw[cb];simp
def Lo: ~~~(V.i5 i=V.i5 j)=(i.toList==j.toList):=by rw[cb];cases i;cases j;simp
section
variable{X:Cx}{a b c:aw}{ta tb tc:TE}{pos:Pos}
def eC(I:Inv X pins d H s)(q:Q (.bl k) H)(e:k=k'):EP X pins d Q (.bool k') s:=by subst e;show [.bl k,H,I,(),q]
def ahq:cE X (compareOp .Eq) O3:=by{
intro l s m H x y v u Q I g d h;let[f,q]:=h;cases x with
|aC=>cases g;cases y with|aC=>cases d;show PySem.EqNone.eq_none_none (eC I q @s_)|bl j=>cases d;show PySem.EqNone.eq_none_bool (eC I q @s_)|int j=>let[e,rfl]:=d;show PySem.EqNone.eq_none_int (eC I q @s_)|str j=>let[e,rfl]:=d;show PySem.EqNone.eq_none_str (eC I q @s_)|_=>show absurd (show ag=Y from f) gT
|bl i=>cases g;cases y with|aC=>cases d;show PySem.EqNone.eq_bool_none (eC I q @s_)|bl j=>cases d;show eq_bool (eC I q Lm)|str j=>let[e,rfl]:=d;show PySem.EqMixed.eq_bool_str (eC I q @s_)|_=>show absurd (show ag=Y from f) gT
|int i=>let[t,rfl]:=g;cases y with|aC=>cases d;show PySem.EqNone.eq_int_none (eC I q @s_)|int j=>let[e,rfl]:=d;show eq_int (eC I q Lq)|str j=>let[e,rfl]:=d;show PySem.EqMixed.eq_int_str (eC I q @s_)|_=>show absurd (show ag=Y from f) gT
|str i=>let[t,rfl]:=g;cases y with|aC=>cases d;show PySem.EqNone.eq_str_none (eC I q @s_)|bl j=>cases d;show PySem.EqMixed.eq_str_bool (eC I q @s_)|int j=>let[e,rfl]:=d;show PySem.EqMixed.eq_str_int (eC I q @s_)|str j=>let[e,rfl]:=d;show eq_str (eC I q Ls)|_=>show absurd (show ag=Y from f) gT
|i5 i=>let[t,rfl]:=g;cases y with|i5 j=>let[e,rfl]:=d;show PySem.W.eq_bytes (eC I q Lo)|_=>show absurd (show ag=Y from f) gT
|_=>cases y<;>show absurd (show ag=Y from f) gT}
def ahC:cE X (compareOp .NotEq) Pn:=by{
intro l s m H x y v u Q I g d h;let[f,q]:=h;cases x with
|aC=>cases g;cases y with|aC=>cases d;show PySem.EqNone.ne_none_none (eC I q @s_)|bl j=>cases d;show PySem.EqNone.ne_none_bool (eC I q @s_)|int j=>let[e,rfl]:=d;show PySem.EqNone.ne_none_int (eC I q @s_)|str j=>let[e,rfl]:=d;show PySem.EqNone.ne_none_str (eC I q @s_)|_=>show absurd (show ag=Y from f) gT
|bl i=>cases g;cases y with|aC=>cases d;show PySem.EqNone.ne_bool_none (eC I q @s_)|bl j=>cases d;show ne_bool (eC I q<|aad not Lm)|str j=>let[e,rfl]:=d;show PySem.EqMixed.ne_bool_str (eC I q @s_)|_=>show absurd (show ag=Y from f) gT
|int i=>let[t,rfl]:=g;cases y with|aC=>cases d;show PySem.EqNone.ne_int_none (eC I q @s_)|int j=>let[e,rfl]:=d;show ne_int (eC I q<|aad not Lq)|str j=>let[e,rfl]:=d;show PySem.EqMixed.ne_int_str (eC I q @s_)|_=>show absurd (show ag=Y from f) gT
|str i=>let[t,rfl]:=g;cases y with|aC=>cases d;show PySem.EqNone.ne_str_none (eC I q @s_)|bl j=>cases d;show PySem.EqMixed.ne_str_bool (eC I q @s_)|int j=>let[e,rfl]:=d;show PySem.EqMixed.ne_str_int (eC I q @s_)|str j=>let[e,rfl]:=d;show ne_str (eC I q<|aad not Ls)|_=>show absurd (show ag=Y from f) gT
|i5 i=>let[t,rfl]:=g;cases y with|i5 j=>let[e,rfl]:=d;show PySem.W.ne_bytes (eC I q<|aad not Lo)|_=>show absurd (show ag=Y from f) gT
|_=>cases y<;>show absurd (show ag=Y from f) gT}
def ahz:cE X (compareOp .Lt)<|iC λi j=>.bl<|~~~(i<j):=AY λ_ _ _ _ _ _ _ q=>lt_int q
def ahy:cE X (compareOp .LtE)<|iC λi j=>.bl<|~~~(i<=j):=AY λ_ _ _ _ _ _ _ q=>le_int q
def ahv:cE X (compareOp .Gt)<|iC λi j=>.bl<|~~~(j<i):=AY λ_ _ _ _ _ _ _ q=>gt_int q
def ahu:cE X (compareOp .GtE)<|iC λi j=>.bl<|~~~(j<=i):=AY λ_ _ _ _ _ _ _ q=>ge_int q
def ahx:cE X (compareOp .Is) λx y H Q=>y=.aC/\Q (.bl<|~~~(x=.aC)) H:=by{
intro d s g H x y v u Q I e f h;let[rfl,q]:=h;cases f;show is_none_gen<|eC I q ?_;cases x<;>first
 |(cases e;rfl)
 |(let[t,rfl]:=e;rfl)}
def ahF:cE X (compareOp .IsNot) λx y H Q=>y=.aC/\Q (.bl<|!~~~(x=.aC)) H:=by{
intro d s g H x y v u Q I e f h;let[rfl,q]:=h;cases f;show isnot_none_gen<|eC I q ?_;cases x<;>first
 |(cases e;rfl)
 |(let[t,rfl]:=e;rfl)}
def cE.or(h:cE X f r)(h':cE X f e):cE X f λx y H Q=>r x y H Q\/e x y H Q:=by(intro d s g H x y v u Q I i j q;rcases q with q|q);{show h d s g H x y v u Q I i j q};show h' d s g H x y v u Q I i j q
def aij(f:cE X (compareOp e) r)(g:PE X a ta)(O:PE X b tb)(i:behindInMarks e b=ag):PE X (.Compare a #[e] #[b] pos)<|aq r ta tb:=by intro d s j H Q I h;show wpAny_Compare1 (DL g O I h λv u l x y m n o p q=>f d l j m x y v u Q n o p q) i
def Sq(t:TE):TT:=λd H Q=>t d H λx e=>∃k,x=.bl k/\Q k e
theorem aja{f:oA}{r:R2}(i:cE X (compareOp f) r)(j:PE X a ta)(O:PE X b tb)(l:behindInMarks f b=ag):PT X (.Compare a #[f] #[b] pos)<|Sq<|aq r ta tb:=by intro d s g H Q I h;show wpAny_isTrue_Compare1 (bz (j d s g H _ I h) λv m ⟨x,n,o,r1,q1⟩=>bz (O d m g n _ o q1) λu p ⟨y,q,t,r2,q2⟩=>bz (i d p g q x y v u _ t r1 r2 q2) λc C ⟨z,w,A,r3,k,e,q3⟩=>?_) l;subst e;cases r3;show qf [w,A,q3]
def ig(r f:R2)(ta tb tc:TE):TE:=λd H Q=>ta d H λx g=>tb d g λy h=>r x y h λz e=>∃k,z=.bl k/\(if k=Y then tc d e λi j=>f y i j Q else Q (.bl ag) e)
theorem aii{j g:oA}{r m:R2}(p:cE X (compareOp j) r)(l:cE X (compareOp g) m)(q:PE X a ta)(O:PE X b tb)(t:PE X c tc)(w:lastMarks #[j,g] #[b,c]=ag:=by with_unfolding_all rfl):PE X (.Compare a #[j,g] #[b,c] pos)<|ig r m ta tb tc:=by intro f s i H Q I h;show Compare_chain (bz (q f s i H _ I h) λv A ⟨x,C,E,r1,q1⟩=>chain_link (bz (O f A i C _ E q1) λu F ⟨y,G,J,r2,q2⟩=>bz (p f F i G x y v u _ J r1 r2 q2) λd M ⟨z,n,o,r3,k,e,q3⟩=>?_)) w;subst e;cases r3;show qf ?_;cases k with|false=>show ite_ff [.bl ag,n,o,(),q3]|true=>show ite_tt<|chain_last<|bz (t f M i n _ o q3) λP T ⟨W,H4,I4,r4,q4⟩=>l f T i H4 y W u P Q I4 r2 r4 q4
theorem ai_{j g:oA}{r m:R2}(p:cE X (compareOp j) r)(l:cE X (compareOp g) m)(q:PE X a ta)(O:PE X b tb)(t:PE X c tc)(w:lastMarks #[j,g] #[b,c]=ag:=by with_unfolding_all rfl):PT X (.Compare a #[j,g] #[b,c] pos)<|Sq<|ig r m ta tb tc:=by intro f s i H Q I h;show isTrue_chain (bz (q f s i H _ I h) λv A ⟨x,C,E,r1,q1⟩=>test_link (bz (O f A i C _ E q1) λu F ⟨y,G,J,r2,q2⟩=>bz (p f F i G x y v u _ J r1 r2 q2) λd M ⟨z,n,o,r3,k,e,q3⟩=>?_)) w;subst e;cases r3;show qf ?_;cases k with|false=>let[k',P,T]:=q3;cases P;show ite_ff [n,o,T]|true=>show ite_tt<|test_last<|bz (t f M i n _ o q3) λW s4 ⟨z',H4,I4,r4,q4⟩=>bz (l f s4 i H4 y z' u W _ I4 r2 r4 q4) λd' s5 ⟨z2,H5,I5,r5,k2,e2,q5⟩=>?_;subst e2;cases r5;show qf [H5,I5,q5]
theorem ur:(sizeLine:Nat)<2^63:=by rw[J7];decide
def ahm:cE X (binaryOp .Add) λx y H Q=>∃i j,x=.str i/\y=.str j/\i.length+j.length<=sizeLine/\Q (.str<|i++j) H:=by intro d s m H x y v u Q I e f h;let[i,j,rfl,rfl,g,q]:=h;let[t,rfl]:=e;let[l,rfl]:=f;show add_str (λl n=>[.str<|i++j,H,I.tok _,[_,()],q]) g
def vals1(r:bq #[x] us):∃u,us=#[u]/\RelV x u:=by cases r with|cons r1 r2=>cases r2;show [_,(),r1]
def vals2(r:bq #[x,y] us):∃u d,us=#[u,d]/\RelV x u/\RelV y d:=by cases r with|cons r1 r2=>cases r2 with|cons r3 r4=>cases r4;show [_,_,(),r1,r3]
def Zx(f:X.calm=Y):gE X (.builtin "max") λxs H Q=>∃i j,xs=#[.int i,.int j]/\Q (.int (if j>i then j else i)) H:=by intro e s g H xs l Q I r h;let[i,j,rfl,q]:=h;let[u,m,rfl,[t,rfl],[n,rfl]]:=vals2 r;show max_two_ints (I.ok.hd f) λo p k=>[_,H,I.kept k,?_,q];by_cases d:j>i;{rw[aab d,aab d];show [_,()]};rw[aaa d,aaa d];show [_,()]
def Zz:gE X (.type "str") λxs H Q=>∃i,xs=#[.int i]/\i.natAbs.log2<1920/\Q (.str<|toString i) H:=by intro d s f H xs g Q I r h;let[i,rfl,e,q]:=h;let[u,rfl,t,rfl]:=vals1 r;show PySem.P.str_of_int e [.str _,H,I.tok _,[_,()],q]
def Zy:gE X (.builtin "ord") λxs H Q=>∃x,xs=#[.str x]/\x.length=1/\Q (.int (x.cps.getD 0 0:Nat)) H:=by intro d s f H xs g Q I r h;let[x,rfl,e,q]:=h;let[u,rfl,t,rfl]:=vals1 r;show ord_of_one e [.int _,H,I.tok _,[_,()],q]
end
structure rr (h:a8) (x dx C:aa) (mA:Str->Option ae):Prop where
 obj:h.get? x=B (rl C dx)
 ns:h.Ns1 dx mA
 ne:dx≠x
theorem afU{h:a8}{c:aa}{d:Str->Option ae}(n:h.Ns1 c d):∃f,h.get? c=B f/\∀name,CV name f=B (d name):=by{
let[o,g,s,i,j,l,_,m]:=n;show [o,i,λname=>?_];let e:=m name;unfold nsFind findBy at e;rw[<-Array.find?_toList]at e;unfold CV;rw[j];dsimp only;split;{rename_i y q;rw[q]at e;show aad B e};rename_i q;rw[q]at e;let a:g.toList.any (·.refKey)=ag:=by rw[pR];intro y p;let[z,t,b]:=l y<|Array.mem_toList_iff.mp p;simp[DictEntry.refKey,b]
let r:¬g.toList.any (·.refKey)=Y:=by rw[a];show gT
rw[aaa r];show aad B e}
def rr.look(I:rr h x b C c):∃a,PySem.W.InstAt h x (rl C b) C (B a)/\∀name,CV name a=B (c name):=
 let⟨a,d,e⟩:=afU I.ns
 [a,[I.obj,(),(),d],e]
section
variable{prog:bU}{w:bj}{A:Around}{E:ae->ak->Prop}{s:ak}{K:aR}{x dx C f:aa}{mA:Str->Option ae}{name:Str}{v:ae}
def get_map(X:K.In s.heap)(I:rr s.heap x dx C mA)(b:CW K C name=Y)(c:JW K C=Y)(d:qb K (.ref C) name=B Z)(e:mA name=B v)(a:Ye v=Y)(h:Q v {s with toks:=s.toks+1}):wpAny @l_ A (getAttr (.ref x) name expr) Q E s:=by let[i,J,g]:=I.look;show PySem.W.get_value X J (JZ b).1 (PySem.W.findObj_own c d () (by rw[g,e])) a h
def abD(X:K.In s.heap)(I:rr s.heap x dx C mA)(a:CW K C name=Y)(b:qb K (.ref C) name=B (B<|.ref f))(c:JX K (.ref f)=Y)(d:mA name=Z)(h:Q (.ref f,#[.ref x]) s):wpAny @l_ A (getMethod (.ref x) name pl) Q E s:=by let[e,J,g]:=I.look;show PySem.W.method_fn X J (JZ a).1 (JZ a).2 b (aaF.mp c) (by change (CV name e).map (·.isSome)=B ag;rw[g,d];rfl) h
def akj(X:K.In s.heap)(I:rr s.heap x dx C mA)(l:qb K (.ref C) "__setattr__"=B (B<|.builtin "object.__setattr__"))(m:Yk K C=Y)(n:J0 K C name=B Z)(o:JW K C=Y)(p:J1 mA ns)(hsz:ns.length<=sizeLine)(h:∀h',rr h' x dx C (λy=>if y=name then B v else mA y)->vN dx s.heap h'->Q fo {s with heap:=h',toks:=s.toks+2}):wpAny @l_ A (setAttr (.ref x) name v) Q E s:=by let[z,J,F]:=I.look;show PySem.W.set_plain X J l<|PySem.W.osa_open (s:={s with toks:=s.toks+1}) (r:=Z) X J m n λb=>?_;let[cd,q,e]:=PySem.W.any_some o;let hx:s.heap.get? x=B [.ref C,B dx,.plain,#[]]:=I.obj;show aZ<|cZ<|aZ<|aZ<|wpAny_loadPart hx<|aZ<|PySem.W.Looks.here (s:={s with toks:=s.toks+1}) (PySem.W.looks_clsIn X q) ?_;rw[e];show cZ (a:=B dx)<|aZ<|cZ<|aZ ?_;show wpAny_nsSet1 (s:={s with toks:=s.toks+1}) I.ns λh' c d=>?_;let[G,t,u,g,i,j]:=c.count<|PySem.Within.cons name v p;show aZ<|wpAny_lookBehind g (by rw[i];show pastItsLine_dict<|cu j<|by rw[bR];lia) ?_;show cZ<|h _ [(d.2 _<|Ne.symm I.ne).trans I.obj,c,I.ne] d
def af5(X:K.In s.heap)(b:Yi K C=Y)(c:qb K (.ref C) "__init__"=B (B<|.ref f))(e:PySem.W.typeIn K (.ref f)=B (.type "function"))(h:codeAny @l_ (A.under<|.builtin "type.__call__" [.ref C::vs,a]) (.call (.ref f) [.ref (↑s+1)::vs,a]) (PySem.W.InitBack (↑s+1) R)
  {s with heap:=(s.heap.push qa).push (rl C ↑s)}):
 codeAny @l_ A (.call (.ref C) [vs,a]) R s:=by
 let[i,g,d,t,os]:=s;show PySem.W.make_core (PySem.W.makes_of X b) (PySem.W.looks_findIn X c) (λself=>PySem.W.bind_fn X self e) (.inl ()) h
end
def iS(f:Str)(v:V):List (Str×V)->List (Str×V)|[]=>#[(f,v)]|(g,x)::r=>if g=f then(g,v)::r else(g,x)::iS f v r
def NG(f g:Str)(v:V):∀fs:List<|Str×V,(iS f v fs).lookup g=if g=f then B v else fs.lookup g|[]=>by change qU g #[(f,v)]=_;by_cases h:g=f;{let O:(g==f)=Y:=aaF.mpr h;simp only[qU,O,aab h]};let O:(g==f)=ag:=aaR.mpr h;simp only[qU,O,aaa h]|(k,x)::r=>by let b:=NG f g v r;rw[show iS f v ((k,x)::r)=(if k=f then(k,v)::r else(k,x)::iS f v r)from()];by_cases a:k=f;{rw[aab a];by_cases h:g=k;{let O:(g==k)=Y:=aaF.mpr h;simp only[qU,O,aab<|h.trans a]};let O:(g==k)=ag:=aaR.mpr h;simp only[qU,O,aaa λe:g=f=>h<|e.trans a.symm]};rw[aaa a];by_cases h:g=k;{let O:(g==k)=Y:=aaF.mpr h;simp only[qU,O,aaa λe:g=f=>a<|h.symm.trans e]};let O:(g==k)=ag:=aaR.mpr h;simp only[qU,O];show b
def Fb(f:Str)(v:V):∀fs:List<|Str×V,f∈(iS f v fs).map (·.1)/\∀g,g∈fs.map (·.1)->g∈(iS f v fs).map (·.1)|[]=>[by simp[iS],λg h=>by simp at h]|(k,x)::r=>by{
let[b,c]:=Fb f v r;rw[show iS f v ((k,x)::r)=(if k=f then(k,v)::r else(k,x)::iS f v r)from()];by_cases a:k=f;{rw[aab a];subst a;show [by simp,λg h=>(h:)]};rw[aaa a];show [?_,λg h=>?_];{rw[cC];show dv _ b};rw[cC]at h⊢;rcases bh.mp h with e|e
.show bh.mpr<|.inl e
show dv _<|c g e}
def Nz(f:Str)(v:V):∀fs:List<|Str×V,(iS f v fs).length<=fs.length+1|[]=>by simp[iS]|(k,x)::r=>by let b:=Nz f v r;rw[show iS f v ((k,x)::r)=(if k=f then(k,v)::r else(k,x)::iS f v r)from()];by_cases a:k=f;{rw[aab a,bR,bR];lia};rw[aaa a,bR,bR];lia
def il.some_of(r:il (B v) o):∃u,o=B u/\RelV v u:=by cases o with|none=>show(show False from r).elim|some u=>show [u,(),r]
def il.none_of(r:il Z o):o=Z:=by cases o with|none=>rfl|some u=>show(show False from r).elim
def abU(r:RelV v u):Ye u=Y:=by cases v with|aC=>cases(show u=Value.none from r);rfl|bl b=>cases(show u=rj b from r);rfl|int i=>let[t,e]:=(show∃t,u=zc i t from r);cases e;rfl|str x=>let[t,e]:=(show∃t,u=Value.str x t from r);cases e;rfl|i5 b=>let[t,e]:=(show∃t,u=Value.bytes b t from r);cases e;rfl|wV b=>let[t,e]:=(show∃t,u=Value.float b t from r);cases e;rfl|ref a=>cases(show u=cY a from r);rfl|ty n=>cases(show u=p_ n from r);rfl
section
variable{P:bU}{w:bj}{H H':Hp}{h h':a8}{a C dx:aa}{fs fs':List<|Str×V}
def EW(c:dO P w H h)(e:H a=B (.ins C dx fs)):∃b,rr h a dx C b/\(∀f,il (fs.lookup f)<|b f)/\J1 b (fs.map (·.1))/\fs.length<=1000/\H dx=B (.own a):=by let[d,z,g,i,b,n,r,q]:=(show eL P w H h a (.ins C dx fs)from c a _ e);show [b,[i,n,g],r,q,z,d]
end
structure jG (K:aR) (C:aa):Prop where
 pg:CW K C Str.empty=Y
 hd:JW K C=Y
 po:Yk K C=Y
 sa:qb K (.ref C) "__setattr__"=B (B<|.builtin "object.__setattr__")
theorem jG.get{K:aR}{C:aa}(c:jG K C)(f:Str):CW K C f=Y:=c.pg
def ni(K:aR)(C:aa)(f:Str):Prop:=qb K (.ref C) f=B Z
theorem ni.akP{K:aR}{C:aa}{f:Str}(n:ni K C f):J0 K C f=B Z:=by unfold J0;rw[show qb K (.ref C) f=B Z from n];rfl
structure zv (K:aR) (C:aa) (m:Str) (f:aa):Prop where
 at_:qb K (.ref C) m=B (B<|.ref f)
 fn:JX K (.ref f)=Y
 kp:qd K (.ref f)=Y
section
variable{X:Cx}{pins:List<|aa×Obj}{σ:St}{H:Hp}{s:ak}{a C dx:aa}{fs:List<|Str×V}{f:Str}{v:V}{A:Around}{E:ae->ak->Prop}
theorem abE{b:Bool}{Q:ae->ak->Prop}(I:Inv X pins σ H s)(e:H a=B (.ins C dx fs))(c:jG X.K C)(n:ni X.K C f)(l:fs.lookup f=B v)(h:∀u g,Inv X pins σ H g->RelV v u->Q u g):wpAny @c_ A (getAttr (.ref a) f b) Q E s:=by let[j,d,r,_,_,_]:=EW I.bx e;let[u,m,i]:=il.some_of (v:=v) (o:=j f) (by rw[<-l];show r f);show get_map I.iw d (c.get f) c.hd n m (abU i)<|h u _ (I.tok _) i
def Md(I:Inv X pins σ H s)(e:H a=B (.ins C dx fs))(c:jG X.K C)(k:zv X.K C m g)(l:fs.lookup m=Z)(h:Q (.ref g,#[.ref a]) s):wpAny @c_ A (getMethod (.ref a) m pl) Q E s:=by let[d,b,r,_,_,_]:=EW I.bx e;let i:d m=Z:=il.none_of (by rw[<-l];show r m);show abD I.iw b (c.get m) k.at_ k.fn i h
theorem akk{y:V}{u:ae}{Q:Unit->ak->Prop}(I:Inv X pins σ H s)(e:H a=B (.ins C dx fs))(c:jG X.K C)(n:ni X.K C f)(hl:fs.length<1000)(t:RelV y u)(h:∀j,Inv X pins σ (upd H a<|.ins C dx<|iS f y fs) j->Q fo j):wpAny @c_ A (setAttr (.ref a) f u) Q E s:=by let[l,d,r,m,_,p]:=EW I.bx e;let F:(fs.map (·.1)).length<=sizeLine:=(by rw[aP,J7];lia);show akj I.iw d c.sa c.po n.akP c.hd m F λG i J=>h _ ?_;let hd:∃o,G.get? dx=B o:=let⟨o,_,_,M,_⟩:=i.ns;[o,M];show I.write (x:=a) (e:=dx) (by rw[e];show True.intro) (.inr p) (λb q O z=>(J.2 b O).trans z) hd ?_;show [by rw[cJ d.ne];show p,?_,d.ne,i.obj,_,i.ns,λg=>?_,λg P=>?_];{let:=Nz f y fs;lia};{change il ((iS f y fs).lookup g) (if g=f then B u else l g);rw[NG];by_cases q:g=f;{rw[aab q,aab q];show t};rw[aaa q,aaa q];show r g};by_cases q:g=f;{rw[q];show(Fb f y fs).1};show(Fb f y fs).2 g<|m g λz=>P ?_;change (if g=f then B u else l g)=Z;rw[aaa q];show z
def Inv.made(I:Inv X pins σ H s):Inv X pins σ (upd (upd H ↑s<|.own<|↑s+1) (↑s+1)<|.ins C ↑s [])
 {s with heap:=(s.heap.push qa).push (rl C ↑s)}:=by
 let c:(s.heap.push qa).get? ↑s=B qa:=f6 s.heap ();let g:((s.heap.push qa).push<|rl C ↑s).get? (↑s+1)=B (rl C ↑s):=by let:=f6 (s.heap.push qa) (o:=rl C ↑s) ();rwa[i1]at this
 let h:(s.heap.push qa).Ns ↑s λ_=>Z:=[qa,#[],_,c,(),(λe i=>absurd i @s_),λ_=>rfl];let j:=I.laid (a:=↑s) (o:=.own<|↑s+1) (h':=s.heap.push qa) (t':=s.toks) (λb u q=>dh _ q) (bD _) [_,c];show j.laid (a:=↑s+1) (o:=.ins C ↑s []) (t':=s.toks) (λb u q=>dh _ q) (tI<|i1 _ _) ?_;let d:↑s≠↑s+1:=fk<|vI _;show [by rw[cJ d,fI],iH _,d,g,λ_=>Z,(Heap.Ns1.of_empty h).at λo q=>dh _ q,λ_=>True.intro,λy l=>absurd rfl l]
theorem YY{prog:bU}{w:bj}{b:Env}{e:aw}{f:Str}{pos:Pos}{s:ak}{Q:ae->ak->Prop}(O:attributeBase e f b (eval e b)=eval e b)(h:wpAny @l_ A (eval e b) (λo c=>wpAny @l_ A (getAttr o f Y) Q E c) E s):wpAny @l_ A (eval (.Attribute e f pos) b) Q E s:=Attribute_any_ h (by rw[arm_eval_Attribute,O])
end
def fV(K:aR)(ta:TE)(f:Str):TE:=λc H Q=>ta c H λx b=>∃a C d fs v,x=.ref a/\b a=B (.ins C d fs)/\jG K C/\ni K C f/\fs.lookup f=B v/\Q v b
def cj(K:aR)(ta g:TE)(f:Str):TS:=λb c H=>g c H λy h=>ta c h λx d=>∃a C e fs,x=.ref a/\d a=B (.ins C e fs)/\jG K C/\ni K C f/\fs.length<1000/\b.nx c (upd d a<|.ins C e<|iS f y fs)
section
variable{X:Cx}{o e value:aw}{f:Str}{pos pos' BY:Pos}{ta tv:TE}
theorem ail(d:PE X e ta)(O:attributeBase e f X.env (eval e X.env)=eval e X.env):PE X (.Attribute e f pos)<|fV X.K ta f:=by intro b s g H Q I h;show YY O<|bz (d b s g H _ I h) λu y ⟨x,i,j,m,a,C,z,fs,v,p,r,c,n,l,q⟩=>?_;subst p;obtain rfl:u=cY a:=m;show abE j r c n l λA E t w=>[v,i,t,w,q]
theorem aiY(i:PE X o ta)(j:PE X value tv)(m:swapsWith value (B<|.Attribute o f pos') pos.line X.env=pure ag):PS X (.Assign #[.Attribute o f pos'] value pos)<|cj X.K ta tv f:=by intro d s g H b I h;show plainObj_wpAny_Assign_Attribute (bz (j d s g H _ I h) λu p ⟨y,r,t,v,q⟩=>bz (i d p g r _ t q) λw J ⟨x,M,z,A,a,C,P,fs,E,F,c,n,l,q2⟩=>?_) m;subst E;obtain rfl:w=cY a:=A;show akk z F c n l v λQ G=>[g,_,G,q2]
end
structure eP (k:Nat) (A:Around):Prop where
 hd:A.handled=Z
 dp:A.depth+3*k+5<recursionLimit
 un:A.units+16*k+200<cLine
def eP.mono(r:eP k A)(h:j<=k):eP j A:=[r.hd,by let:=r.dp;lia,by let:=r.un;lia]
def eP.deeper(r:eP (k+1) A)(a:Env):eP k<|A.deeper a:=[r.hd,by let:=r.dp;change A.depth+1+3*k+5<_;lia,by let:=r.un;change A.units+3+16*k+200<_;lia]
theorem af4{A:Around}{C:aa}{us:List ae}{a:List<|Str×ae}:(A.under<|.builtin "type.__call__" [.ref C::us,a]).depth=A.depth+1:=by first|rfl|simp[Jy,Code.weight,Code.isCreation,Code.isGuard,Code.isCaller,Code.frames,JF,guardIds]
theorem af6{A:Around}{C:aa}{us:List ae}{a:List<|Str×ae}:(A.under<|.builtin "type.__call__" [.ref C::us,a]).units=A.units+1:=by first|rfl|simp[Jy,Code.cUnits,Code.frames,JF]
def eP.make(r:eP (k+1) A)(C:aa)(us:List ae)(a:List<|Str×ae):eP k<|A.under<|.builtin "type.__call__" [.ref C::us,a]:=[r.hd,by let:=r.dp;rw[af4];lia,by let:=r.un;rw[af6];lia]
def eP.depth(r:eP k A):A.depth<recursionLimit:=by let:=r.dp;lia
def eP.units(r:eP k A):A.units+64<cLine:=by let:=r.un;lia
def aX:TA:=λ_ H Q=>Q [] H
def aJ(ta:TE)(b:TA):TA:=λa H Q=>ta a H λx c=>b a c λd e=>Q (x::d) e
section
variable{X:Cx}{e:aw}{es:List aw}{te:TE}{t:TA}{pos:Pos}
def A6:PA X [] aX:=λ_ _ _ _ H Q I h=>JE [[],H,I,.nil,h]
theorem uH(c:PE X e te)(d:PA X es t)(f:starEach (e::es) X.env=(ag,eval e X.env)::starEach es X.env:=by rfl):PA X (e::es)<|aJ te t:=by intro pos a s b H Q I h;rw[f];change wpAny _ _ (spliced<|(ag,eval e X.env)::backTo pos (starEach es X.env)) _ _ s;show CJ<|bz (c a s b H _ I h) λu g ⟨x,i,j,r1,q1⟩=>?_;show bz (d pos a g b i _ j q1) λo p ⟨l,m,n,r2,q2⟩=>[x::l,m,n,.cons r1 r2,q2]
def fu(t:TA):TE:=λc H Q=>t c H λa b=>a.length<=sizeLine/\∀p,b p=Z->Q (.ref p) (upd b p<|.tup a)
def bJ(t:TA):TE:=λc H Q=>t c H λa b=>a.length<=sizeLine/\∀p,b p=Z->Q (.ref p) (upd b p<|.lst a)
theorem aiD{g}(h:PA X es t):PE X (.Tuple es g pos)<|fu t:=by intro a s i H Q I j;show wpAny_Tuple_spliced<|bz (h pos a s i H _ I j) λl c ⟨m,d,f,r,z,q⟩=>[by rw[<-r.length];show z,?_];let n:d ↑c=Z:=f.bx.fresh<|bD _;show [.ref ↑c,upd d ↑c<|.tup m,f.laid (t':=c.toks) (λb u e=>dh _ e) (bD _) ?_,(),q _ n];show [z,l,r,[_,f6 _ (),(),_,()]]
theorem F2(h:PA X es t):PE X (.List es pos)<|bJ t:=by intro a s g H Q I i;show wpAny_List_spliced<|bz (h pos a s g H _ I i) λj c ⟨l,d,f,r,z,q⟩=>[by rw[<-r.length];show z,?_];let m:d ↑c=Z:=f.bx.fresh<|bD _;show [.ref ↑c,upd d ↑c<|.lst l,f.laid (t':=c.toks) (λb u e=>dh _ e) (bD _) ?_,(),q _ m];show [z,j,0,r,f6 _ ()]
end
abbrev Sp:=List V->Hp->VK->XK->Prop
abbrev iI:=List Env->Hp->ak->XK->ae->ak->Prop
structure oF (P:bU) (w:bj) (K:aR) (mg:Str->Option ae) (base:a8) (A:Around) (outer:List Env) (s:ak) (H:Hp):Prop where
 frames:A.frames=B outer
 mod:Mod K mg base
 bs:∀b o,base.get? b=B o->s.heap.get? b=B o/\H b=Z
 lW:base.objs.size<=↑s
 kj:s.heap.FunFrames base outer
 oU:∀b∈g6 outer,H b=Z
 bx:dO P w H s.heap
 bare:AllBare s.gens
def CE(a:List Env)(P:bU)(w:bj)(H:Hp)(s:ak)(Q:VK)(u:ae)(b:ak):Prop:=∃v c,b.os=s.os/\AllBare b.gens/\Un (g6 a) [] H c s.heap b.heap/\dO P w c b.heap/\RelV v u/\Q v c
def CR(CX:iI)(a:List Env)(P:bU)(w:bj)(H:Hp)(s:ak)(Q:VK)(E:XK)(r:Result)(b:ak):Prop:=match r with|.ok (.ret u)=>CE a P w H s Q u b|.ok _=>False|.error e=>CX a H s E e b
structure gW (P:bU) (w:bj) (K:aR) (mg:Str->Option ae) (base:a8) (CX:iI) (k:Nat) (f:aa) (fd:FuncData) (ps:List Str) (sp:Sp):Prop where
 len:∀vs H Q E,sp vs H Q E->vs.length=ps.length
 run:∀(A:Around)(outer:List Env)(s:ak)(H:Hp)(args:Args)(us:List ae)(vs:List V)(Q:VK)(E:XK),eP k A->oF P w K mg base A outer s H->BindsTo s fd args (ps.zip us)->bq vs us->sp vs H Q E->
  codeAny (model P w) A (.call (.ref f) args) (CR CX outer P w H s Q E) s
theorem gW.mono{P:bU}{w:bj}{K:aR}{mg:Str->Option ae}{a:a8}{CX:iI}{j k:Nat}{f:aa}{c:FuncData}{ps:List Str}{sp:Sp}(F:gW P w K mg a CX j f c ps sp)(h:j<=k):gW P w K mg a CX k f c ps sp:=[F.len,λA b s H args d e Q E g=>F.run A b s H args d e Q E<|g.mono h]
theorem oF.make{P:bU}{w:bj}{K:aR}{mg:Str->Option ae}{b:a8}{A:Around}{a:List Env}{s:ak}{H:Hp}(e:oF P w K mg b A a s H)(C:aa)(us:List ae)(c:List<|Str×ae):oF P w K mg b (A.under<|.builtin "type.__call__" [.ref C::us,c]) a s H:=[by first|show e.frames|(simpa[Jy,Code.envs,JF,pushEnvs]using e.frames),e.mod,e.bs,e.lW,e.kj,e.oU,e.bx,e.bare]
section
variable{X:Cx}{pins:List<|aa×Obj}{σ:St}{H:Hp}{s s':ak}
def Inv.lZ(I:Inv X pins σ H s):oF X.prog X.w X.K X.mg X.base X.A X.stack s H:=[I.ok.frames,I.ok.mod,I.bs,cu I.ok.lW I.sz,I.stack,I.Ic,I.bx,I.bare]
def Inv.after(I:Inv X pins σ H s)(h:CE X.stack X.prog X.w H s Q u s'):EP X pins σ Q u s':=by let[v,e,os,bare,un,a,r,q]:=h;let[f,g,d,t,c]:=s';obtain rfl:c=s.os:=os;show [v,e,I.call (h':=f) (g':=g) (d':=d) (t':=t) (ch:=[]) un a bare λb z=>absurd z @s_,r,q]
end
def dq(sp:Sp)(eQ:List V)(E:XK)(t:TA):TE:=λa H Q=>t a H λb c=>sp (b++eQ) c Q E
def dN(C:aa)(sp:Sp)(eQ:List V)(E:XK)(t:TA):TE:=λc H Q=>t c H λd b=>∀x a,b x=Z->b a=Z->a≠x->sp (.ref x::(d++eQ)) (upd (upd b a<|.own x) x<|.ins C a []) (λv e=>v=.aC/\Q (.ref x) e) E
def Binds(K:aR)(b:FuncData)(ps:List Str)(ds:List ae):Prop:=∀(s:ak)(a:List ae),K.In s.heap->(a++ds).length=ps.length->BindsTo s b [a,[]] (ps.zip<|a++ds)
def lb(CX:iI)(X:Cx)(E:XK):Prop:=∀(a:List<|aa×Obj)(c:St)(H:Hp)(s:ak)(e:ae)(b:ak),Inv X a c H s->CX X.stack H s E e b->X.xe e b
section
variable{X:Cx}{CX:iI}{k:Nat}{f C:aa}{fd:FuncData}{ps:List Str}{sp:Sp}{eQ:List V}{ds:List ae}{E:XK}{x m:Str}{p pos apos:Pos}{e o:aw}{es:List aw}{ta:TE}{t:TA}
theorem xX{pins:List<|aa×Obj}{b:St}{H:Hp}{s:ak}{Q:VK}{us:List ae}{vs:List V}(F:gW X.prog X.w X.K X.mg X.base CX k f fd ps sp)(c:eP k X.A)(O:Binds X.K fd ps ds)(hd:bq eQ ds)(hx:lb CX X E)(I:Inv X pins b H s)(r:bq vs us)(h:sp (vs++eQ) H Q E):wpAny @c_ X.A (call (.ref f) us) (EP X pins b Q) X.xe s:=by let r2:bq (vs++eQ)<|us++ds:=r.append hd;let d:(us++ds).length=ps.length:=(by rw[<-r2.length];show F.len _ _ _ _ h);show wpAny_call<|zf (F.run X.A X.stack s H [us,[]] (us++ds) (vs++eQ) Q E c I.lZ (O s us I.iw d) r2 h) λr g a=>?_;cases r with|error e=>show hx pins b H s e g I a|ok i=>cases i with|ret u=>show I.after a|next=>show gA a|brk=>show gA a|cont=>show gA a
theorem aib(F:gW X.prog X.w X.K X.mg X.base CX k f fd ps sp)(g:eP k X.A)(i:Gl X x)(j:X.mg x=B (.ref f))(l:qd X.K (.ref f)=Y)(O:Binds X.K fd ps ds)(hd:bq eQ ds)(hx:lb CX X E)(n:PA X (e::es) t)(b:(x==("__debug__":Str))=ag:=by decide)(u:starEach (e::es) X.env=(ag,eval e X.env)::starEach es X.env:=by rfl)(c:(backTo pos<|starEach es X.env).any (·.1)=ag:=by rfl):PE X (.Call (.Name x p) (e::es) [] pos) (dq sp eQ E t):=by intro a s v H Q I h;show rm<|sg I i j ?_ b;show ze (h₀:=X.base) I.ok.mod.o4 l (bz (n pos a s v H _ I h) λy z ⟨G,J,d,r,q⟩=>[d.iw,?_]) u c;show xX F g O hd hx d r q
def aic(F:gW X.prog X.w X.K X.mg X.base CX k f fd ps sp)(c:eP k X.A)(d:Gl X x)(g:X.mg x=B (.ref f))(i:qd X.K (.ref f)=Y)(O:Binds X.K fd ps ds)(hd:bq eQ ds)(hx:lb CX X E)(a:(x==("__debug__":Str))=ag:=by decide):PE X (.Call (.Name x p) [] [] pos)<|dq sp eQ E aX:=by intro b s j H Q I h;show rm<|sg I d g ?_ a;show JU I.iw i<|xX (us:=[]) F c O hd hx I .nil h
structure iK (K:aR) (C f:aa):Prop where
 makes:Yi K C=Y
 init:qb K (.ref C) "__init__"=B (B<|.ref f)
 fn:JX K (.ref f)=Y
 kp:qd K (.ref C)=Y
theorem PN{pins:List<|aa×Obj}{d:St}{H:Hp}{s:ak}{Q:VK}{us:List ae}{vs:List V}(M:iK X.K C f)(F:gW X.prog X.w X.K X.mg X.base CX k f fd ps sp)(i:eP (k+1) X.A)(O:Binds X.K fd ps ds)(hd:bq eQ ds)(hx:lb CX X E)(I:Inv X pins d H s)(r:bq vs us)(h:∀x b,H x=Z->H b=Z->b≠x->sp (.ref x::(vs++eQ)) (upd (upd H b<|.own x) x<|.ins C b []) (λv j=>v=.aC/\Q (.ref x) j) E):wpAny @c_ X.A (call (.ref C) us) (EP X pins d Q) X.xe s:=by{
let g:=h (↑s+1) ↑s (I.bx.fresh<|p5 _) (I.bx.fresh<|bD _)<|fk<|vI _;let c:=Inv.made (C:=C) I;let r2:bq (V.ref (↑s+1)::(vs++eQ))<|cY (↑s+1)::(us++ds):=.cons () (r.append hd);let l:(cY (↑s+1)::us++ds).length=ps.length:=by let e:=r2.length;rw[F.len _ _ _ _ g]at e;show e.symm
show wpAny_call (af5 (f:=f) I.iw M.makes M.init (aaF.mp M.fn) (zf (F.run _ X.stack _ _ [cY (↑s+1)::us,[]] (cY (↑s+1)::(us++ds)) _ _ E (i.make C us [])
 (c.lZ.make C us []) (O _ (cY (↑s+1)::us) c.iw l) r2 g) λr n a=>?_))
cases r with|error e=>show hx pins d _ _ e n c a|ok q=>cases q with|ret u=>let[v,y,z,G,J,q3]:=c.after a;subst J;show [G,[V.ref<|↑s+1,y,z,(),q3]]|next=>show gA a|brk=>show gA a|cont=>show gA a}
theorem ais(M:iK X.K C f)(F:gW X.prog X.w X.K X.mg X.base CX k f fd ps sp)(g:eP (k+1) X.A)(i:Gl X x)(j:X.mg x=B (.ref C))(O:Binds X.K fd ps ds)(hd:bq eQ ds)(hx:lb CX X E)(l:PA X (e::es) t)(b:(x==("__debug__":Str))=ag:=by decide)(n:starEach (e::es) X.env=(ag,eval e X.env)::starEach es X.env:=by rfl)(c:(backTo pos<|starEach es X.env).any (·.1)=ag:=by rfl):PE X (.Call (.Name x p) (e::es) [] pos) (dN C sp eQ E t):=by intro a s u H Q I h;show rm<|sg I i j ?_ b;show ze (h₀:=X.base) I.ok.mod.o4 M.kp (bz (l pos a s u H _ I h) λv y ⟨z,G,d,r,q⟩=>[d.iw,?_]) n c;show PN M F g O hd hx d r q
def ait(M:iK X.K C f)(F:gW X.prog X.w X.K X.mg X.base CX k f fd ps sp)(c:eP (k+1) X.A)(d:Gl X x)(g:X.mg x=B (.ref C))(O:Binds X.K fd ps ds)(hd:bq eQ ds)(hx:lb CX X E)(a:(x==("__debug__":Str))=ag:=by decide):PE X (.Call (.Name x p) [] [] pos)<|dN C sp eQ E aX:=by intro b s i H Q I h;show rm<|sg I d g ?_ a;show JU I.iw M.kp<|PN (us:=[]) M F c O hd hx I .nil h
end
structure qi (N P:List Str) (sc:cB):Prop where
 kind:sc.kind=.function
 co:sc.isCoroutine=ag
 gen:sc.isGenerator=ag
 nd:N.Nodup
 pre:N.take P.length=P
 par:∀x∈P,sc.names.lookup x=B .local\/sc.names.lookup x=B .cell
 NX:∀y∈sc.names,y.2≠.free
theorem KC{kindOf:Str->Option jm}{x:Str}:∀{binds:List<|Str×ae}{m:Str->Option ae},(∀v,(x,v)∉binds)->bindL kindOf binds m x=m x|[],_,_=>rfl|(n,v)::r,m,h=>by unfold bindL;rw[KC λw a=>h w<|dv _ a];split;{let:x≠n:=(by rintro rfl;show h v gU);simp[this]};rfl
theorem KA{kindOf:Str->Option jm}{x:Str}:∀{binds:List<|Str×ae}{m:Str->Option ae},(∀v,(x,v)∉binds)->bindC kindOf binds m x=m x|[],_,_=>rfl|(n,v)::r,m,h=>by unfold bindC;rw[KA λw a=>h w<|dv _ a];split;{rfl};let:x≠n:=(by rintro rfl;show h v gU);simp[this]
theorem DN{kindOf:Str->Option jm}{x:Str}{v:ae}:∀{P:List Str}{vs:List ae}{i:Nat}{m:Str->Option ae},P.Nodup->P[i]?=B x->vs[i]?=B v->kindOf x=B .local->bindL kindOf (P.zip vs) m x=B v
|[],_,_,_,_,h,_,_=>by simp at h|_::_,[],_,_,_,_,h,_=>by simp at h
|p::P,w::vs,0,m,c,a,b,d=>by simp at a b;subst a;subst b;change bindL kindOf ((p,w)::P.zip vs) m p=_;unfold bindL;rw[KC λv e=>(mR.mp c).1 (pX e).1,aab d];simp|p::P,w::vs,i+1,m,c,a,b,d=>by change bindL kindOf ((p,w)::P.zip vs) m x=_;unfold bindL;show DN (i:=i) (mR.mp c).2 (a:) (b:) d
theorem DM{kindOf:Str->Option jm}{x:Str}{v:ae}:∀{P:List Str}{vs:List ae}{i:Nat}{m:Str->Option ae},P.Nodup->P[i]?=B x->vs[i]?=B v->kindOf x≠B .local->bindC kindOf (P.zip vs) m x=B v
|[],_,_,_,_,h,_,_=>by simp at h|_::_,[],_,_,_,_,h,_=>by simp at h
|p::P,w::vs,0,m,c,a,b,d=>by simp at a b;subst a;subst b;change bindC kindOf ((p,w)::P.zip vs) m p=_;unfold bindC;rw[KA λv e=>(mR.mp c).1 (pX e).1,aaa d];simp|p::P,w::vs,i+1,m,c,a,b,d=>by change bindC kindOf ((p,w)::P.zip vs) m x=_;unfold bindC;show DM (i:=i) (mR.mp c).2 (a:) (b:) d
def start(N:List Str)(vs:List V):St:=vs.map B++yK (N.length-vs.length) Z
noncomputable def lX(CX:iI)(P:bU)(w:bj)(K:aR)(mg:Str->Option ae)(base:a8)(N:List Str)(b:Str)(a:cB)(f:aa)(cd:ae)(A:Around)(outer:List Env)(s:ak)(H:Hp)(E:XK):Cx where
 prog:=P
 w:=w
 K:=K
 mg:=mg
 base:=base
 A:=A.deeper (envOfC b a ↑s f cd)
 N:=N
 f_:=s
 v_:=H
 env:=envOfC b a ↑s f cd
 outer:=outer
 stack:=envOfC b a ↑s f cd::outer
 ex:=[]
 calm:=Y
 fn:=λ_=>Y
 pn:=[]
 xe:=λe d=>wpAny (model P w) (A.deeper<|envOfC b a ↑s f cd) (leaving (envOfC b a ↑s f cd) e) (λ_ c=>CX outer H s E e c) (λg c=>CX outer H s E g c) d
theorem zH{a:cB}{n:Nat}{x:Str}(h:a.names.lookup x=B .cell):∃c,(cellsFrom n a.names []).lookup x=B c:=by let q:=CT a.names n []<|.inl h;show rg.mp q
theorem MI{CX:iI}{P:bU}{w:bj}{K:aR}{mg:Str->Option ae}{m:a8}{N ps:List Str}{j:Str}{d:cB}{f:aa}{cd:ae}{A:Around}{g:List Env}{s J:ak}{H:Hp}{E:XK}{us:List ae}{vs:List V}(S:qi N ps d)(hd:A.handled=Z)(o:oF P w K mg m A g s H)(hl:vs.length=ps.length)(r:bq vs us)(x:InCallC s ↑s (bindL (envOfC j d ↑s f cd).kindOf (ps.zip us) λ_=>Z) (cellsFrom (↑s+1) d.names []) (bindC (envOfC j d ↑s f cd).kindOf (ps.zip us) λ_=>Z) J):Inv (lX CX P w K mg m N j d f cd A g s H E) [] (start N vs) H J:=by{
let T:ps.length<=N.length:=by let:=aad U S.pre;rw[gj]at this;lia
let[G,tk,rfl,M]:=x.done;let t:∀b:aa,b∉(lX CX P w K mg m N j d f cd A g s H E).ex:=λb z=>absurd (show b∈([]:List aa)from z) @s_;show [[o.mod,S.kind,(),(),bD _,λy z c G l=>?_,λy hy=>?_,λy c _ h=>?_,λ_=>hd,XE o.frames,.inr [(),()],λb z=>absurd z<|t b,o.bs,o.lW,λb _ _=>t b,λb z=>absurd z<|t b,o.kj,o.oU],rfl,o.bare,Un.kept M,[_,x.toInCall.ns,λi y v G l h3=>?_],λy c h=>[_,x.cell y c h],o.bx.fresh<|bD _,λy c h=>?_,λp C=>absurd (show p∈([]:List<|aa×Obj)from C) @s_,o.bx.kept M,?_];{show name_of_addr x.apart (ik G)<|ik l}
.let hy:d.names.lookup y=B .cell\/d.names.lookup y=B .free:=hy;rcases hy with hy|hy
 {show zH hy};show absurd () (S.NX _<|ik hy)
.show rd<|x.above y c<|ik h
.let I:i<vs.length:=by unfold start at l;by_cases I:i<vs.length;{show I};rw[WY (I:)]at l;rw[IW]at l;split at l<;>cases l
 let X:vs[i]?=B v:=by unfold start at l;rw[WX (I:),du]at l;cases e:vs[i]? with|none=>rw[e]at l;cases l|some a=>rw[e]at l;cases l;rfl
 let[u,Q,rv]:=r.get X;let C:ps[i]?=B y:=by rw[<-S.pre,Ck @o_];show G
 let F:ps.Nodup:=by rw[<-S.pre];show S.nd.sublist<|Xm _ _
 show [u,rv,?_];rcases S.par y (bY C)with k|k
 {show .inl [k,DN F C Q k]};let[c,e]:=zH (n:=↑s+1) k;show .inr [.inl k,c,e,?_];let q:=x.cell y c e;rw[DM F C Q (by change d.names.lookup y≠_;rw[k];decide)]at q;show q
.show o.bx.fresh<|rd<|x.above y c<|ik h
unfold start;change _=N.length;rw[cA,aP,Co];lia}
theorem L1{CX:iI}{P:bU}{w:bj}{K:aR}{mg:Str->Option ae}{base:a8}{k:Nat}{f:aa}{name d:Str}{params:Arguments}{body:List Stmt}{a:cB}{X kV doc pm g ct oc:ae}{an od:Option aa}{C:Array<|Option ae}{N ps:List Str}{sp:Sp}(lk:K.lookup f=B [oc,od,.func<|rk name d params body a X kV doc pm an g ct,C])(F:CU K g d=Y)(S:qi N ps a)(len:∀vs H Q E,sp vs H Q E->vs.length=ps.length)(j:∀(A:Around)(c:List Env)(s:ak)(H:Hp)(vs:List V)(Q:VK)(E:XK),eP k (A.deeper<|envOfC d a ↑s f g)->sp vs H Q E->∃t,gF @u_ body t/\t {nx:=λ_ i=>Q .aC i,rt:=Q} (start N vs) H):gW P w K mg base CX (k+1) f (rk name d params body a X kV doc pm an g ct) ps sp:=by(show [len,λA c s H args us vs Q E G p O r z=>?_];let hl:=len _ _ _ _ z;let KX:K.In s.heap:=p.mod.o4.keeps λb o e=>(p.bs b o e).1;let lim:s.heap.NoLimit:=p.mod.nolimit.keeps λb o e=>(p.bs b o e).1;let l:∀y∈ps.zip us,a.names.lookup y.1=B .local\/(a.names.lookup y.1=B .cell/\((cellsFrom (↑s+1) a.names []).lookup y.1).isSome=Y):=λ⟨n,v⟩ hy=>by(rcases S.par n (pX hy).1 with q|q);{show .inl q};show .inr [q,CT _ _ _<|.inl q]);show J2 G.depth (KX _ _ lk) () S.co S.gen () (JV KX F)<|O _ _ _ _ ?_;show J_ S.kind l λenv he s1 x=>?_;subst he;show [lim.keeps x.toInCall.keep,J3 ?_];let[t,ht,hq]:=j A c s H vs Q E (G.deeper _) z;let I:Inv @u_ [] (start N vs) H s1:=MI S G.hd p hl r x;show kE (ht [] s1 (start N vs) H _ I hq) (λfl M m=>?_) λe M m=>m;let fin:∀{h:St}{i:Hp}{v:V}{u:ae},Inv @u_ [] h i M->RelV v u->Q v i->CE c P w H s Q u M:=λ{h i v u} J T q=>[v,i,J.os,J.bare,J.base,J.bx,T,q];cases fl with|ret u=>let[v,h,i,J,T,q]:=m;show fin J T q|next=>let[h,i,J,q]:=m;show fin (v:=V.aC) (u:=Value.none) J () q|brk=>let[_,_,_,q]:=m;show gA q|cont=>let[_,_,_,q]:=m;show gA q
section
variable{X:Cx}{x:Str}{p pos:Pos}{e:aw}{es:List aw}{t:TA}{id T:String}{r:List V->Hp->VK->Prop}
def cz(r:List V->Hp->VK->Prop)(t:TA):TE:=λa H Q=>t a H λb c=>r b c Q
theorem aid(f:gE X (.builtin id) r)(g:Gl X x)(i:X.mg x=Z)(j:bootBuiltins x=B (.builtin id))(l:PA X (e::es) t)(m:x≠"__name__":=by decide)(b:(x==("__debug__":Str))=ag:=by decide)(n:starEach (e::es) X.env=(ag,eval e X.env)::starEach es X.env:=by rfl)(c:(backTo pos<|starEach es X.env).any (·.1)=ag:=by rfl):PE X (.Call (.Name x p) (e::es) [] pos)<|cz r t:=by intro a s d H Q I h;show rm<|uq I g i j ?_ m b;show PyProof.Rows.callWith_builtin1 (bz (l pos a s d H _ I h) λo q ⟨u,v,w,r1,q1⟩=>f a q d v u o Q w r1 q1) n c
theorem aif(f:gE X (.type T) r)(g:Gl X x)(i:X.mg x=Z)(j:bootBuiltins x=B (.type T))(l:PA X (e::es) t)(m:x≠"__name__":=by decide)(b:(x==("__debug__":Str))=ag:=by decide)(n:starEach (e::es) X.env=(ag,eval e X.env)::starEach es X.env:=by rfl)(c:(backTo pos<|starEach es X.env).any (·.1)=ag:=by rfl):PE X (.Call (.Name x p) (e::es) [] pos)<|cz r t:=by intro a s d H Q I h;show rm<|uq I g i j ?_ m b;show y2 (bz (l pos a s d H _ I h) λo q ⟨u,v,w,r1,q1⟩=>f a q d v u o Q w r1 q1) n c
end
end L2
namespace HT
open PySem PyProof.Rows
section
variable{prog:bU}{w:bj}{A:Around}{E:ae->ak->Prop}{s:ak}
def ZC(r:IsTup s.heap t vs.toArray)(O:IsTup s.heap b ws.toArray)(i:vs≠[])(u:ws=[]->Q (.ref t) s)(v:ws≠[]->Q (.ref ↑s) {s with heap:=s.heap.push {cls:=.type "tuple",data:=.seq (vs++ws).toArray}})(hsz:vs.length+ws.length<=sizeLine):wpAny @l_ A (binaryOp .Add (.ref t)<|.ref b) Q E s:=by{
let[[cls,j,data,l],g,m,n,o]:=id r;let[[p,c,data2,d],a,f,q,hd2]:=id O;simp only at m o f hd2;subst m o f hd2;let e:vs.toArray++ws.toArray=(vs++ws).toArray:=by simp
by_cases h:ws=[]
.show concat_meets [_,g,()] [_,a,()] noFill_tuple_add seq_tuple_add X1 XU (XR _ _)
  (tuple_addW1 t b vs.toArray ws.toArray n q j c l d (i:)<|by simp[h]) [g,a,u h]
show concat_meets [_,g,()] [_,a,()] noFill_tuple_add seq_tuple_add X1 XU (XR _ _)
 (tuple_addW2 t b vs.toArray ws.toArray n q j c l d (i:) (h:)<|by rw[eW,eW];show hsz) [g,a,?_]
rw[e];show v h}
def gQ(n d:Nat):Option Int->Nat|none=>d|some v=>if v<0 then(v+(n:Int)).toNat else min v.toNat n
def GZ(n d:Nat):gQ n d Z=d:=()
def Bq(n d k:Nat):gQ n d (B (k:Int))=min k n:=by change (if(k:Int)<0 then((k:Int)+(n:Int)).toNat else min (k:Int).toNat n)=min k n;rw[aaa @o_,sW]
end
end HT
namespace L2
open PySem PySem.Spec PyProof.Rows
abbrev TO:=St->Hp->(Option Int->Hp->Prop)->Prop
def PO(X:Cx)(e:Option aw)(t:TO):Prop:=∀(a:List<|aa×Obj)(s:ak)(b:St)(H:Hp)(Q:Option Int->Hp->Prop),Inv X a b H s->t b H Q->wpAny @c_ X.A (evalPart e X.env) (λu d=>∃o c,Inv X a b c d/\IsPart u o/\Q o c) X.xe s
def gy:TO:=λ_ H Q=>Q Z H
def ew(t:TE):TO:=λa H Q=>t a H λx b=>∃i,x=.int i/\Q (B i) b
section
variable{X:Cx}{e:aw}{te:TE}{lo hi:Option aw}{tl th:TO}{pos p2:Pos}
def aiQ:PO X Z gy:=by intro a s b H Q I h;rw[evalPart_none];show cZ [Z,H,I,.none,h]
theorem aiR(h:PE X e te):PO X (B e)<|ew te:=by intro a s b H Q I c;rw[evalPart_some];show bz (h a s b H _ I c) λu g ⟨x,d,f,r1,q1⟩=>?_;let[i,rfl,q]:=q1;let[t,rfl]:=r1;show [B i,d,f,.int i t,q]
def Kq(X:Cx)(r:V->Option Int->Option Int->Hp->VK->Prop):Prop:=∀(a:List<|aa×Obj)(s:ak)(b:St)(H:Hp)(x:V)(v vl c:ae)(lo hi:Option Int)(d:aa)(Q:VK),Inv X a b H s->RelV x v->s.heap.IsSliceOf d vl c .none->IsPart vl lo->IsPart c hi->r x lo hi H Q->∃T id,typeLookup (.type T) "__getitem__"=pure (B<|.builtin id)/\s.TypeIs v T/\wpAny @c_ X.A (getItem v<|.ref d) (EP X a b Q) X.xe s
def eU(r:V->Option Int->Option Int->Hp->VK->Prop)(te:TE)(tl th:TO):TE:=λa H Q=>te a H λx b=>tl a b λl c=>th a c λu d=>r x l u d Q
theorem aiB{r:V->Option Int->Option Int->Hp->VK->Prop}(i:Kq X r)(j:PE X e te)(hl:PO X lo tl)(m:PO X hi th):PE X (.Subscript e (.Slice lo hi Z p2) pos)<|eU r te tl th:=by intro a s d H Q I h;show Subscript_<|bz (j a s d H _ I h) λv n ⟨x,o,p,r1,q1⟩=>?_;show wpAny_Slice<|bz (hl a n d o _ p q1) λvl t ⟨l,y,z,C,q2⟩=>bz (m a t d y _ z q2) λf c ⟨u,g,E,F,q3⟩=>?_;rw[evalPart_none];show cZ ?_;let G:Inv X a d g {c with heap:=c.heap.push {cls:=.type "slice",data:=.fields (bS #[vl,f,.none])}}:=E.kept (t':=c.toks) λb W q=>dh _ q;let[T,id,J,M,P]:=i a {c with heap:=c.heap.push {cls:=.type "slice",data:=.fields (bS #[vl,f,.none])}} d g x v vl f l u ↑c Q G r1 (Heap.IsSliceOf.new ..) C F q3;change wpAny @c_ X.A (subscriptTail e (.Slice lo hi Z p2) v<|.ref ↑c) (EP X a d Q) X.xe {c with heap:=c.heap.push {cls:=.type "slice",data:=.fields (bS #[vl,f,.none])}};show tail_any (ops:=#[.ref ↑c,v]) M J P<|by with_unfolding_all rfl
def t4(xs:List V)(lo hi:Option Int):List V:=(xs.drop<|HT.gQ xs.length 0 lo).take<|HT.gQ xs.length xs.length hi-HT.gQ xs.length 0 lo
def Z0(xs:List V)(lo hi:Option Int):(t4 xs lo hi).length<=xs.length:=by unfold t4;rw[gj,kY];lia
def O0(K:aR):R2:=λx y H Q=>∃a b d c,x=.ref a/\y=.ref b/\cP K H a d/\cP K H b c/\d≠[]/\d.length+c.length<=sizeLine/\(c=[]->Q (.ref a) H)/\(c≠[]->∀p,H p=Z->Q (.ref p) (upd H p<|.tup<|d++c))
def bq.Fv(r:bq xs us):us=[]<->xs=[]:=by cases r with|nil=>simp|cons _ _=>simp
def ahp:cE X (binaryOp .Add)<|O0 X.K:=by intro c s r H x y v u Q I g i h;let[a,b,j,l,rfl,rfl,m,O,hx,d,q1,q2]:=h;cases g;cases i;let[n,r1,p,_]:=I.tuple m;let[f,r2,p2,_]:=I.tuple O;show HT.ZC p p2 (λz=>hx<|r1.Fv.mp z) (λz=>[.ref a,H,I,(),q1<|r2.Fv.mp z]) (λz=>?_) (by rw[<-r1.length,<-r2.length];show d);show [.ref ↑s,_,I.laid (t':=s.toks) (o:=.tup<|j++l) (λb t q=>dh _ q) (bD _) ?_,(),q2 (λw=>z<|r2.Fv.mpr w) _<|I.bx.fresh<|bD _];show [by rw[cA];show d,_,r1.append r2,IsTup.new _ _]
end
def nD(n:Nat)(i:Int):Option Nat:=if 0<=i then(if i<n then B i.toNat else Z)else if-(n:Int)<=i then B (i+n).toNat else Z
def oK{α:Type}(xs:List α)(i:Int):Option α:=(nD xs.length i).bind λj=>xs[j]?
def MN(h:nD n i=B j):seqIndex? i n=B j/\j<n/\ -(n:Int)<=i/\i<n:=by unfold nD at h;by_cases b:0<=i;{rw[aab b]at h;by_cases a:i<n;{rw[aab a]at h;let e:i.toNat=j:=eg h;show [by rw[J6 b a,e],by lia,by lia,a]};rw[aaa a]at h;cases h};rw[aaa b]at h;by_cases a: -(n:Int)<=i;{rw[aab a]at h;let e:(i+n).toNat=j:=eg h;show [by rw[J5 @o_ a,e],by lia,a,by lia]};rw[aaa a]at h;cases h
theorem Dx{α:Type}{xs:List α}{i:Int}{v:α}(h:oK xs i=B v):∃j,seqIndex? i xs.length=B j/\xs[j]?=B v/\j<xs.length/\ -(xs.length:Int)<=i/\i<xs.length:=by unfold oK at h;cases e:nD xs.length i with|none=>rw[e]at h;cases h|some j=>rw[e]at h;let[a,b,c,d]:=MN e;show [j,a,h,b,c,d]
theorem zF{α:Type}{xs:List α}{j:Nat}{v:α}(h:xs[j]?=B v):oK xs (j:Int)=B v:=by let a:j<xs.length:=(el.mp h).1;let e:nD xs.length (j:Int)=B j:=(by unfold nD;rw[aab @o_,aab @o_];simp);unfold oK;rw[e];show h
def YX{α:Type}(xs:List α)(v:α):oK (xs++#[v]) (-1)=B v:=by{
let a:(xs++#[v]).length=xs.length+1:=by simp
let e:nD (xs++#[v]).length (-1)=B xs.length:=by unfold nD;rw[a,aaa @d_,aab @o_];congr 1;lia
unfold oK;rw[e];change (xs++#[v])[xs.length]?=B v;simp}
def Ko(b:aw):Prop:=∀o i,subscripted b ag o i=operate #[o,i] (getItem o i)
def lS(X:Cx)(r:R2):Prop:=∀(value slice:aw)(a:List<|aa×Obj)(s:ak)(b:St)(H:Hp)(x y:V)(v u:ae)(Q:VK),Inv X a b H s->RelV x v->RelV y u->r x y H Q->subscripted slice ag v u=operate #[v,u] (getItem v u)->wpAny @c_ X.A (subscriptTail value slice v u) (EP X a b Q) X.xe s
def jI(X:Cx)(id:String)(r:V->List V->Hp->VK->Prop):Prop:=∀(a:List<|aa×Obj)(s:ak)(b:St)(H:Hp)(x:V)(c:List V)(v:ae)(d:List ae)(Q:VK),Inv X a b H s->RelV x v->bq c d->r x c H Q->wpAny @c_ X.A (call (.builtin id)<|v::d) (EP X a b Q) X.xe s
section
variable{X:Cx}{a b:aw}{ta tb:TE}{pos:Pos}
def lS.or(h:lS X r)(h':lS X d):lS X λx y H Q=>r x y H Q\/d x y H Q:=by(intro value slice c s e H x y v u Q I f g q i;rcases q with q|q);{show h value slice c s e H x y v u Q I f g q i};show h' value slice c s e H x y v u Q I f g q i
def F0(d:lS X r)(e:PE X a ta)(O:PE X b tb)(f:Ko b):PE X (.Subscript a b pos)<|aq r ta tb:=by intro c s g H Q I h;show Subscript_<|DL e O I h λv u i x y j l m n q=>d a b c i g j x y v u Q l m n q<|f _ _
def Pf(K:aR):R2:=λx y H Q=>∃p c i v,x=.ref p/\y=.int i/\bE K H p c/\oK c i=B v/\Q v H
def Pj(K:aR):R2:=λx y H Q=>∃p c i v,x=.ref p/\y=.int i/\cP K H p c/\oK c i=B v/\Q v H
def Ph:R2:=λx y H Q=>∃z i c,x=.str z/\y=.int i/\z.length<=sizeLine/\oK z.cps.toList i=B c/\Q (.str [(bS #[c])]) H
theorem acW:lS X<|Pf X.K:=by{
intro value slice c s m H x y v u Q I C E h n;let[p,xs,i,z,rfl,rfl,F,G,q]:=h;cases C;let[t,rfl]:=E;let[e,r,f,hz]:=I.list F;let[j,d,J,h3,M,P]:=Dx G;let[w,o,g]:=r.get J;let T:=r.length;let hn:=ur;let fin:EP X c m Q w s:=[z,H,I,g,q];by_cases A:0<=i
.let l:i.toNat=j:=by rw[J6 A P]at d;show eg d
 show item_listR f.isList A @o_ (by rw[l];simpa using o) fin n
let l:(i+(e.toArray.size:Int)).toNat=j:=by rw[J5 @o_ M]at d;rw[eW,<-T];show eg d
show XC (x:=w) f.isList.typeIs slot_list_getitem.lookup
 (wpAny_getItem_list_neg (Q:=λr W=>r=w/\EP X c m Q r W) f.isList @o_ (by rw[eW]<;>lia) @o_ (by rw[l];simpa using o) [(),fin]) n}
theorem acZ:lS X<|Pj X.K:=by
 intro value slice c s e H x y v u Q I g l h m;let[p,M,i,z,rfl,rfl,n,o,q]:=h;cases g;let[t,rfl]:=l;let[A,r,f,P]:=I.tuple n;let[j,C,E,T,W,h5]:=Dx o;let[w,F,d]:=r.get E;let G:=r.length;let hn:=ur;let fin:EP X c e Q w s:=[z,H,I,d,q];show XC (x:=w) f.typeIs slot_tuple_getitem.lookup
  (getItem_tuple (j:=j) (Q:=λr J=>r=w/\EP X c e Q r J) f @o_ @o_ (by rw[eW,<-G];show C) (F:) [(),fin]) m
theorem acY:lS X Ph:=by intro value slice d s C H x y v u Q I f g h l;let[z,i,c,rfl,rfl,E,m,q]:=h;let[t,rfl]:=f;let[F,rfl]:=g;let[j,e,n,G,o,p]:=Dx m;let r:z.cps.toList.length=z.length:=(by simp[Str.length]);rw[r]at e o p;let J:=ur;show tail_any (tM s z t) slot_str_getitem.lookup (getItem_str (c:=c) (by let w: ~~~(i< -(2^63:Int))=ag:=aac @o_;let A: ~~~(i>=2^63)=ag:=aac @o_;rw[w,A,Bool.or_false]) (by rw[e];simpa using n) [.str [(bS #[c])],H,I.tok _,[_,()],q]) l
def Pd(K:aR):R2:=λx y H Q=>Pf K x y H Q\/Pj K x y H Q\/Ph x y H Q
def acX:lS X<|Pd X.K:=acW.or<|acZ.or acY
def af7(c:List ae)(n j:Nat)(u:ae):y9 (·.setIfInBounds j u) {cls:=.type "list",data:=.seq c.toArray n}={cls:=.type "list",data:=.seq (c.set j u).toArray n}:=by simp[y9]
theorem Inv.lst{pins:List<|aa×Obj}{d:St}{H:Hp}{s:ak}{p:aa}{xs:List V}(I:Inv X pins d H s)(h:H p=B (.lst xs)):∃(c:List ae) (n:Nat),bq xs c/\s.heap.get? p=B {cls:=.type "list",data:=.seq c.toArray n}/\xs.length<=sizeLine:=by let[z,c,n,r,e]:=I.bx p _ h;show [c,n,r,e,z]
theorem Inv.afY{pins:List<|aa×Obj}{g:St}{H:Hp}{s:ak}{p:aa}{xs ys:List V}{c mi:List ae}{n d:Nat}{f:Obj->Obj}(I:Inv X pins g H s)(h:H p=B (.lst xs))(j:s.heap.get? p=B {cls:=.type "list",data:=.seq c.toArray n})(i:f {cls:=.type "list",data:=.seq c.toArray n}={cls:=.type "list",data:=.seq mi.toArray d})(r:bq ys mi)(l:ys.length<=sizeLine)(t:Nat):Inv X pins g (upd H p<|.lst ys) {s with heap:=s.heap.update p f,toks:=t}:=by let e:(s.heap.update p f).get? p=B {cls:=.type "list",data:=.seq mi.toArray d}:=(by rw[oB f j<|by rw[i]<;>rfl,i]);show I.write (x:=p) (e:=p) (by rw[h];trivial) (.inl ()) (λb u O q=>(lQ _ _<|Ne.symm O).trans q) [_,e] ?_;show [l,mi,d,r,e]
def Pt:V->V->V->Hp->(Hp->Prop)->Prop:=λo i v H Q=>∃p c k j,o=.ref p/\i=.int k/\H p=B (.lst c)/\nD c.length k=B j/\Q (upd H p<|.lst<|c.set j v)
def set_list:Dj X Pt:=by{
intro c s A H o i v P T u Q I C E F h;let[p,G,k,j,rfl,rfl,m,J,q]:=h;cases C;let[t,rfl]:=E;let[d,n,r,f,M]:=I.lst m;let[e,h2,w,x]:=MN J;let g:=r.length;let hn:=ur;let y:Inv X c A (upd H p<|.lst<|G.set j v) {s with heap:=s.heap.update p (y9 (·.setIfInBounds j u))}:=I.afY m f (af7 d n j u) (r.set F j) (by rw[og];show M) s.toks;by_cases z:0<=k
.let l:k.toNat=j:=by rw[J6 z x]at e;show eg e
 show PySem.W.ki_setAt f z @o_ (by rw[eW,<-g];show x) (by rw[l];show [_,y,q])
let l:(k+(d.toArray.size:Int)).toNat=j:=by rw[J5 @o_ w]at e;rw[eW,<-g];show eg e
show PySem.W.ki_setBack f @o_ (by rw[eW,<-g];show w) @o_<|by rw[l];show [_,y,q]}
def aks(lo c:Option Int)(n:Nat):(sliceBounds lo c Z n).1=((HT.gQ n 0 lo:Nat):Int)/\(sliceBounds lo c Z n).2.1=((HT.gQ n n c:Nat):Int)/\(sliceBounds lo c Z n).2.2=1:=by show [?_,?_,()];{cases lo with|none=>simp[sliceBounds,HT.gQ]|some i=>simp only[sliceBounds,HT.gQ,Xy,show(1:Int)>0 by decide,abu];by_cases h:i<0;{simp only[h,abu]<;>lia};simp only[h,abG]<;>lia};cases c with|none=>simp[sliceBounds,HT.gQ]|some i=>simp only[sliceBounds,HT.gQ,Xy,show(1:Int)>0 by decide,abu];by_cases h:i<0;{simp only[h,abu]<;>lia};simp only[h,abG]<;>lia
def akr(c:List ae)(lo d:Option Int):slicePick c.toArray lo d Z=((c.drop<|HT.gQ c.length 0 lo).take<|HT.gQ c.length c.length d-HT.gQ c.length 0 lo).toArray:=by let[e,f,g]:=aks lo d c.toArray.size;unfold slicePick;rw[e,f,g];simp only[sliceRange_one,pick_run,eW]<;>rfl
def eT(K:aR):V->Option Int->Option Int->Hp->VK->Prop:=λx lo d H Q=>∃a c,x=.ref a/\bE K H a c/\∀p,H p=Z->Q (.ref p) (upd H p<|.lst<|t4 c lo d)
def akq:Kq X<|eT X.K:=by intro e s p H x v vl t lo d u Q I g i j l h;let[a,c,rfl,hx,q]:=h;cases g;let[m,r,f,n]:=I.list hx;let hlen:=r.length;show ["list",_,slot_list_getitem.lookup,f.isList.typeIs,?_];show wpAny_getItem_list_slice f.isList i j l .none @s_ ?_ (by rw[eW]<;>lia);rw[akr,<-hlen];show [.ref ↑s,_,I.laid (t':=s.toks) (o:=.lst<|t4 c lo d) (λb w q=>dh _ q) (bD _) ?_,(),q _<|I.bx.fresh<|bD _];show [cu (Z0 c lo d) n,_,0,(r.drop<|HT.gQ c.length 0 lo).take<|HT.gQ c.length c.length d-HT.gQ c.length 0 lo,f6 _ ()]
def fM:V->Bool
|.aC=>Y|.bl _=>Y
|.int _=>Y|.str _=>Y
|_=>ag
def hW:V->V->Bool
|.aC,.aC=>Y|.bl a,.bl b=>a==b
|.bl a,.int b=>(if a then 1 else 0)==b|.int a,.bl b=>a==(if b then 1 else 0)
|.int a,.int b=>a==b|.str a,.str b=>a==b
|_,_=>ag
def aaY(e:RelV y u)(c:RelV x v)(g:fM y=Y)(f:fM x=Y):JO A s u v<|hW y x:=by{
cases y with
|aC=>cases e;cases x with|aC=>cases c;show SeqAt.EqAt.same _|bl b=>cases c;show SeqAt.EqAt.none_bool b|int b=>let[t,rfl]:=c;show SeqAt.EqAt.none_int b t|str b=>let[t,rfl]:=c;show SeqAt.EqAt.none_str b t|_=>show absurd (show ag=Y from f) gT
|bl a=>cases e;cases x with|aC=>cases c;show SeqAt.EqAt.bool_none a|bl b=>cases c;show SeqAt.EqAt.bool_bool a b|int b=>let[t,rfl]:=c;show SeqAt.EqAt.bool_int a b t|str b=>let[t,rfl]:=c;show SeqAt.EqAt.bool_str a b t|_=>show absurd (show ag=Y from f) gT
|int a=>let[d,rfl]:=e;cases x with|aC=>cases c;show SeqAt.EqAt.int_none a d|bl b=>cases c;show SeqAt.EqAt.int_bool a d b|int b=>let[t,rfl]:=c;show SeqAt.EqAt.int_int a d b t|str b=>let[t,rfl]:=c;show X9 a d b t|_=>show absurd (show ag=Y from f) gT
|str a=>let[d,rfl]:=e;cases x with|aC=>cases c;show SeqAt.EqAt.str_none a d|bl b=>cases c;show SeqAt.EqAt.str_bool a d b|int b=>let[t,rfl]:=c;show X_ a d b t|str b=>let[t,rfl]:=c;show SeqAt.EqAt.str_str a d b t|_=>show absurd (show ag=Y from f) gT
|_=>show absurd (show ag=Y from g) gT}
def i9(x:V)(u:ae):Bool:=match u with|.none=>hW .aC x|.bool b=>hW (.bl b) x|.int i _=>hW (.int i) x|.str z _=>hW (.str z) x|_=>ag
def t8(r:RelV y u)(f:fM y=Y):i9 x u=hW y x:=by cases y with|aC=>cases r;rfl|bl b=>cases r;rfl|int i=>let[t,rfl]:=r;rfl|str z=>let[t,rfl]:=r;rfl|_=>show absurd (show ag=Y from f) gT
def wq:∀{xs:List V}{us:List ae},bq xs us->xs.all fM=Y->us.any (i9 x)=xs.any λy=>hW y x|_,_,.nil,_=>rfl|y::xs,u::us,.cons r t,f=>by rw[sX,a6]at f;rw[oa,oa,t8 r f.1,wq t f.2]
def sm(c:RelV x v)(d:fM x=Y):∀{xs:List V}{us:List ae},bq xs us->xs.all fM=Y->∀u∈us,JO A s u v (i9 x u)|_,_,.nil,_=>λu hu=>by cases hu|y::xs,u::us,.cons r t,f=>λe hu=>by(rw[sX,a6]at f;rcases bh.mp hu with rfl|hu);{rw[t8 r f.1];show aaY r c f.1 d};show sm c d t f.2 e hu
def jL(x:V)(xs:List V):Bool:=xs.any λy=>hW y x
def GF(K:aR)(neg:Bool):R2:=λx y H Q=>∃p c,y=.ref p/\(bE K H p c\/cP K H p c)/\fM x=Y/\c.all fM=Y/\Q (.bl (if neg then !jL x c else jL x c)) H
def ahw:cE X (compareOp .In)<|GF X.K ag:=by(intro f s m H x y v u Q I g j h;let[p,n,rfl,hq,i,fs,q]:=h;cases j;rcases hq with hq|hq);{let[c,r,d,l]:=I.list hq;show SeqAt.in_listAt (i9 x) d.isList (λw e=>sm g i r fs w (e:)) [.bl _,H,I,(),?_];rw[show c.toArray.any (i9 x)=c.any (i9 x)by simp,wq r fs];show q};let[c,r,d,l]:=I.tuple hq;show SeqAt.in_tupleAt (i9 x) d (λw e=>sm g i r fs w (e:)) [.bl _,H,I,(),?_];rw[show c.toArray.any (i9 x)=c.any (i9 x)by simp,wq r fs];show q
def ahE:cE X (compareOp .NotIn)<|GF X.K Y:=by(intro f s m H x y v u Q I g j h;let[p,n,rfl,hq,i,fs,q]:=h;cases j;rcases hq with hq|hq);{let[c,r,d,l]:=I.list hq;show SeqAt.notIn_listAt (i9 x) d.isList (λw e=>sm g i r fs w (e:)) [.bl _,H,I,(),?_];rw[show c.toArray.any (i9 x)=c.any (i9 x)by simp,wq r fs];show q};let[c,r,d,l]:=I.tuple hq;show SeqAt.notIn_tupleAt (i9 x) d (λw e=>sm g i r fs w (e:)) [.bl _,H,I,(),?_];rw[show c.toArray.any (i9 x)=c.any (i9 x)by simp,wq r fs];show q
def Zu:gE X (.builtin "len") λxs H Q=>∃p ys,xs=#[.ref p]/\(bE X.K H p ys\/cP X.K H p ys)/\Q (.int ys.length) H:=by(intro f s j H xs l Q I r h;let[p,ys,rfl,hq,q]:=h;let[u,rfl,g]:=vals1 r;cases g;let m:=ur;rcases hq with hq|hq);{let[c,d,e,i]:=I.list hq;let hlen:=d.length;show Calls.call_len_list e.isList (by simp only[eW]<;>lia) [.int ys.length,H,I.tok _,[s.toks+1,by rw[eW,hlen]],q]};let[c,d,e,i]:=I.tuple hq;let hlen:=d.length;show len_tuple e (by simp only[eW]<;>lia) [.int ys.length,H,I.tok _,[s.toks+1,by rw[eW,hlen]],q]
def Zv:gE X (.builtin "len") λxs H Q=>∃z,xs=#[.str z]/\z.length<=sizeLine/\Q (.int z.length) H:=by intro c s d H xs e Q I r h;let[z,rfl,f,q]:=h;let[u,rfl,t,rfl]:=vals1 r;let g:=ur;show len_str @o_ [.int z.length,H,I.tok _,[_,()],q]
def gE.or(h:gE X f r)(h':gE X f d):gE X f λxs H Q=>r xs H Q\/d xs H Q:=by(intro c s e H xs g Q I i q;rcases q with q|q);{show h c s e H xs g Q I i q};show h' c s e H xs g Q I i q
def Zw:gE X (.type "list") λxs H Q=>∃p ys,xs=#[.ref p]/\(bE X.K H p ys\/cP X.K H p ys)/\∀l,H l=Z->Q (.ref l) (upd H l<|.lst ys):=by{
intro i s A H xs E Q I r h;let[p,ys,rfl,hq,q]:=h;let[u,rfl,C]:=vals1 r;cases C;let fin:∀(c:List ae),bq ys c->ys.length<=sizeLine->∀(d:a8)(f:Nat),(∀b z,s.heap.get? b=B z->d.get? b=B z)->d.get? ↑s=B {cls:=.type "list",dict:=Z,data:=.seq c.toArray f,slots:=#[]}->EP X i A Q (.ref ↑s) {s with heap:=d}:=λc g j d f m e=>[.ref ↑s,_,I.laid (t':=s.toks) m (bD _) (show eL X.prog X.w _ d _ (.lst ys)from[j,c,f,g,e]),(),q _<|I.bx.fresh<|bD _];rcases hq with hq|hq
.let[c,g,t,j]:=I.list hq;let hlen:=g.length;let[o,v,x,n,y]:=t.isList;show call_list_seq p (.inl ()) v x y (λd f m e=>fin c g j d f m e) (by simp only[eW]<;>lia)
let[c,g,t,j]:=I.tuple hq;let hlen:=g.length;let[o,v,x,n,y]:=t;show call_list_seq p (.inr ()) v x y (λd f m e=>fin c g j d f m e)<|by simp only[eW]<;>lia}
def yp(K:aR)(T:String)(x:V)(H:Hp):Prop:=match x with|.str _=>T="str"|.int _=>T="int"|.ref p=>(T="list"/\∃d,bE K H p d)\/(T="tuple"/\∃o,K.lookup p=B o/\o.cls=.type "tuple"/\o.dict=Z)\/(T="dict"/\((∃c,H p=B (.dK c))\/∃c,H p=B (.dT c)))\/(T="set"/\∃S n,H p=B (.set S n))|_=>False
theorem BZ{pins:List<|aa×Obj}{u:St}{H:Hp}{s:ak}{T:String}{x:V}{v:ae}(I:Inv X pins u H s)(r:RelV x v)(g:yp X.K T x H):s.TypeIs v T/\∀a,v=.ref a->∃m,s.heap.get? a=B m/\m.dict=Z:=by cases x with|str z=>let[t,rfl]:=r;cases(show T="str" from g);show [tM s z t,λ_ e=>nomatch e]|int i=>let[t,rfl]:=r;cases(show T="int" from g);show [typeIs_int s i t,λ_ e=>nomatch e]|ref p=>(cases r;rcases g with⟨rfl,C,w⟩|⟨rfl,o,d,y,h⟩|⟨rfl,d⟩|⟨rfl,S,n,d⟩);{let[A,_,q,_]:=I.list w;show [q.isList.typeIs,λa e=>?_];cases e;let[o,n,e,c,h,_]:=q;show [o,e,h]};{show [[o,I.iw p o d,y],λa e=>?_];cases e;show [o,I.iw _ o d,h]};{let z:∃o,s.heap.get? p=B o/\o.ExactDict:=(by(rcases d with⟨j,d⟩|⟨j,d⟩);{let[_,_,_,_,o,_,_,e,f,_]:=I.bx p _ d;show [o,e,f]};let[_,_,_,_,o,_,_,e,f,_]:=I.bx p _ d;show [o,e,f]);let[o,e,f]:=z;show [[o,e,f.1],λa l=>?_];cases l;show [o,e,f.2.1]};let[o,_,_,_,e,f,_]:=I.bx p _ d;show [[o,e,f.1],λa l=>?_];cases l;show [o,e,f.2.1]|_=>show gA g
def BQ(K:aR)(T:String)(r:V->List V->Hp->VK->Prop)(to:TE):TE:=λd H Q=>to d H λx c=>yp K T x c/\r x [] c Q
def gi(K:aR)(T:String)(r:V->List V->Hp->VK->Prop)(to:TE)(t:TA):TE:=λc H Q=>to c H λx d=>yp K T x d/\t c d λe f=>r x e f Q
variable{o e:aw}{es:List aw}{to:TE}{t:TA}{name:Str}{apos fB:Pos}{T id:String}{r:V->List V->Hp->VK->Prop}
theorem ah_(l:PlainAttrs T)(slot:Slot T name id)(g:typeOf (.builtin id)=pure (.type "method_descriptor"))(m:jI X id r)(n:PE X o to)(d:attributeBase o name X.env (eval o X.env)=eval o X.env:=by rfl)(f:(apos.endLine==fB.line)=Y:=by rfl):PE X (.Call (.Attribute o name apos) [] [] fB)<|BQ X.K T r to:=by intro c s i H Q I h;show wpAny_Call_method0_late d f<|bz (n c s i H _ I h) λv p ⟨x,q,j,r1,u,q1⟩=>?_;let[w,y]:=BZ j r1 u;show [T,id,l,slot,g,w,y,tL () (Yl<|m c p i q x [] v [] Q j r1 .nil q1)]
theorem ah9(p:PlainAttrs T)(slot:Slot T name id)(j:typeOf (.builtin id)=pure (.type "method_descriptor"))(q:jI X id r)(u:PE X o to)(w:PA X (e::es) t)(f:attributeBase o name X.env (eval o X.env)=eval o X.env:=by rfl)(i:((backTo fB<|starEach (e::es) X.env).all (λx=>!x.1)&&(backToKw fB<|keywordEach [] X.env).all (λx=>x.1.isSome)
  &&~~~((e::es).length+([]:List Keyword).length+(if([]:List Keyword).isEmpty then 0 else 1)<30))=Y:=by rfl)
 (g:(apos.endLine==fB.line)=Y:=by rfl)(y:starEach (e::es) X.env=(ag,eval e X.env)::starEach es X.env:=by rfl)(d:(backTo fB<|starEach es X.env).any (·.1)=ag:=by rfl):
 PE X (.Call (.Attribute o name apos) (e::es) [] fB) (gi X.K T r to t):=by
 intro c s l H Q I h;show Yn f i g () (bz (u c s l H _ I h) λv z ⟨x,A,m,r1,C,q1⟩=>?_);let[E,F]:=BZ m r1 C;show [T,id,p,slot,j,E,F,?_];let n:=w fB c z l A _ m q1;rw[y]at n⊢;show tL (by change (ag||(backTo fB<|starEach es X.env).any (·.1))=ag;rw[d]<;>rfl)<|y4 ?_;show bz n λG J ⟨M,P,W,r2,q2⟩=>q c J l P x M v G Q W r1 r2 q2
end
def Dh(X:Cx)(id:String)(r:V->List V->Hp->VK->Prop):Prop:=∀(a:List<|aa×Obj)(s:ak)(b:St)(H:Hp)(x:V)(c:List V)(v:ae)(d:List ae)(Q:VK),Inv X a b H s->RelV x v->bq c d->r x c H Q->wpAny @c_ X.A (call (.builtin id)<|v::d) (EP X a b Q) X.xe s
def bq.one:∀{x:V}{us:List ae},bq #[x] us->∃u,us=#[u]/\RelV x u|_,_,.cons r .nil=>[_,(),r]
def bq.zero:∀{us:List ae},bq [] us->us=[]|_,.nil=>rfl
def bq.dropLast(h:bq xs us):bq xs.dropLast us.dropLast:=by induction h with|nil=>show .nil|cons r t a=>cases t with|nil=>show .nil|cons q b=>show .cons r a
def aa4{α:Type}(l:List α):l.eraseIdx (l.length-1)=l.dropLast:=by induction l with|nil=>rfl|cons a r c=>cases r with|nil=>rfl|cons b r=>let e:(a::b::r).length-1=((b::r).length-1)+1:=(by let d:(a::b::r).length=r.length+2:=();let f:(b::r).length=r.length+1:=();lia);rw[e,List.eraseIdx_cons_succ,c];all_goals rfl
section
variable{X:Cx}{pins:List<|aa×Obj}{σ:St}{H:Hp}{s:ak}{l b:aa}{xs ys zs:List V}
theorem Inv.Fl{a mi:List ae}{n:Nat}{f:Array ae->Array ae}{t':Nat}(I:Inv X pins σ H s)(c:H l=B (.lst xs))(e:s.heap.get? l=B {cls:=.type "list",data:=.seq a.toArray n})(d:f a.toArray=mi.toArray)(g:bq ys mi)(h:ys.length<=sizeLine):Inv X pins σ (upd H l<|.lst ys) {s with heap:=s.heap.update l (y9 f),toks:=t'}:=by let q:=PySem.IsL.update e f;rw[d]at q;show I.write (x:=l) (e:=l) (by rw[c];show trivial) (.inl ()) (λj u O i=>(lQ s.heap (y9 f)<|Ne.symm O).trans i) [_,q] ?_;show [h,mi,_,g,q]
def Inv.afK(I:Inv X pins σ H s)(c:bq ys a)(d:ys.length<=sizeLine):Inv X pins σ (upd H ↑s<|.lst ys) {s with heap:=s.heap.push {cls:=.type "list",data:=.seq a.toArray},toks:=t'}:=I.laid (λ_ _ q=>dh _ q) (bD _) [d,a,0,c,f6 _ ()]
theorem Inv.fresh(I:Inv X pins σ H s):H ↑s=Z:=I.bx.fresh<|bD _
def Inv.uu(I:Inv X pins σ H s)(c:H l=B (.lst xs)):xs.length<=sizeLine/\∃(a:List ae) (n:Nat),bq xs a/\xs.length=a.length/\s.heap.get? l=B {cls:=.type "list",data:=.seq a.toArray n}:=by let[z,a,n,r,e]:=I.bx l _ c;show [z,a,n,r,r.length,e]
def agF(h:n<=sizeLine):Jz n=ag:=by unfold Jz;show aac @o_
end
section
variable{X:Cx}
def pC:V->List V->Hp->VK->Prop:=λx b H Q=>∃l a y,x=.ref l/\b=#[y]/\H l=B (.lst a)/\a.length<sizeLine/\Q .aC (upd H l<|.lst<|a++#[y])
theorem agg:Dh X "list.append" pC:=by intro b s i H x j v m Q I d f h;let[l,o,y,rfl,rfl,c,p,q]:=h;cases d;let[u,rfl,g]:=f.one;let[z,a,n,r,t,e]:=I.uu c;show qe XY [_,e,()] F.entry_list_append (F.args_list_append_2 _ _) (PySem.list_append l a.toArray n u<|by rw[eW];lia) [e,?_];show [.aC,_,I.Fl (mi:=a++#[u]) c e @s_ (r.append<|.cons g .nil) ?_,(),q];rw[cA,Ja];lia
def jb:V->List V->Hp->VK->Prop:=λx d H Q=>∃l b a c,x=.ref l/\d=#[.ref b]/\H l=B (.lst a)/\H b=B (.lst c)/\a.length+c.length<=sizeLine/\Q .aC (upd H l<|.lst<|a++c)
theorem agi:Dh X "list.extend" jb:=by{
intro g s A H x C v E Q I j m h;let[l,b,G,J,rfl,rfl,i,o,M,q]:=h;cases j;let[u,rfl,p]:=m.one;cases p;let[z,c,n,r,P,e]:=I.uu i;let[T,a,t,r2,w,y]:=I.uu o;let f:c.toArray.size+a.toArray.size<=sizeLine:=by rw[eW,eW];lia
let d:¬(!c.toArray.isEmpty&&Jz (c.toArray.size+a.toArray.size))=Y:=by rw[agF f,fY];show gT
show qe XZ [_,e,()] F.entry_list_extend (F.args_list_extend_2 _ _)
 (AutoSeq1.list_extend_list_list_0 l c.toArray n b a.toArray t d (by rw[eW];lia) @o_) [e,y,?_]
show [.aC,_,I.Fl (mi:=c++a) i e @s_ (r.append r2) ?_,(),q];rw[cA];lia}
def Bi:V->List V->Hp->VK->Prop:=λx b H Q=>∃l a y,x=.ref l/\b=[]/\H l=B (.lst a)/\a[a.length-1]?=B y/\Q y (upd H l<|.lst a.dropLast)
theorem ago:Dh X "list.pop" Bi:=by intro d s t H x w v A Q I g i h;let[l,C,y,rfl,rfl,f,j,q]:=h;cases g;let b:=i.zero;subst b;let[z,a,n,r,m,e]:=I.uu f;let[u,o,p]:=r.get j;let c:a.toArray[a.toArray.size-1]?=B u:=(by change a.toArray[a.length-1]?=B u;rw[<-WJ,<-m];show o);show qe F.slot_list_pop [_,e,()] F.entry_list_pop (F.args_list_pop_1 _) (MeetsSeq.list_pop_last l a.toArray n u c<|by rw[eW];lia) [e,?_];show [y,_,I.Fl (mi:=a.dropLast) f e ?_ r.dropLast ?_,p,q];{change a.toArray.eraseIdxIfInBounds (a.toArray.size-1)=a.dropLast.toArray;rw[eW,List.eraseIdxIfInBounds_toArray,aa4]};rw[I_];lia
def OZ:R2:=λx y H Q=>∃l b a c,x=.ref l/\y=.ref b/\H l=B (.lst a)/\H b=B (.lst c)/\a.length+c.length<=sizeLine/\∀p,H p=Z->Q (.ref p) (upd H p<|.lst<|a++c)
def aho:cE X (binaryOp .Add) OZ:=by intro d s t H x y v u Q I f g h;let[l,b,w,A,rfl,rfl,i,j,C,q]:=h;cases f;cases g;let[z,c,n,r,E,e]:=I.uu i;let[F,a,G,r2,m,o]:=I.uu j;show PySem.P.add_list e o ?_ (by rw[eW,eW];lia);let p:c.toArray++a.toArray=(c++a).toArray:=@s_;rw[p];show [.ref _,_,I.afK (t':=s.toks) (r.append r2)<|by rw[cA];lia,(),q _ I.fresh]
end
def bq.ints:∀{ns:List Int}{us:List ae},bq (ns.map V.int) us->IntsAre us ns|[],us,h=>by rw[tp]at h;cases h;show IntsAre.nil|n::ns,us,h=>by rw[cC]at h;cases h with|cons r t=>let[k,rfl]:=r;show IntsAre.cons n k<|bq.ints t
def bq.DO:∀{bs:List Bool}{us:List ae},bq (bs.map V.bl) us->us=bs.map rj|[],us,h=>by rw[tp]at h;cases h;rfl|b::bs,us,h=>by rw[cC]at h;cases h with|cons r t=>cases r;rw[bq.DO t,cC]
def bq.Bm(r:bq #[V.ref a] us):us=#[cY a]:=by cases r with|cons r t=>cases t;cases r;rfl
section
variable{prog:bU}{w:bj}{A:Around}{E:ae->ak->Prop}{s:ak}{l:aa}{h8:List ae}{ns:List Int}{Q:ae->ak->Prop}
def akG(d:A.handled=Z)(hl:s.heap.IsList l h8.toArray)(a:IntsAre h8 ns)(h:∀h' tk t',(∀b o,s.heap.get? b=B o->h'.get? b=B o)->Q (.int ns.sum t') {s with heap:=h',toks:=tk}):wpAny @l_ A (call (.builtin "sum") #[.ref l]) Q E s:=by let[f,e]:=a.allInts.items;let c:numsOf (intItems f).toList=ns:=(by rw[<-e];show a.numsOf);rw[nums_intItems]at c;rw[e]at hl;show PySem.sum_intListG d hl λh' tk t' g=>?_;let:=h h' tk t' g;rw[preSum_eq,Xl @s_,c];show this
def af_(m:A.handled=Z)(hl:s.heap.IsList l h8.toArray)(g:IntsAre h8 ns)(d:0<ns.length)(h:∀h' tk M t',(∀b o,s.heap.get? b=B o->h'.get? b=B o)->M∈ns->(∀a,a∈ns->M<=a)->Q (.int M t') {s with heap:=h',toks:=tk}):wpAny @l_ A (call (.builtin "min") #[.ref l]) Q E s:=by let[c,e]:=g.allInts.items;let i:numsOf (intItems c).toList=ns:=(by rw[<-e];show g.numsOf);rw[nums_intItems]at i;subst i;rw[e]at hl;let f:0<c.size:=(d:);show PySem.min_intList m hl f λv h' tk n p=>?_;let[t,rfl]:=intItems_at n;let[x,q]:=argBest_lt (numAt c)<|c.size-1;show h h' tk _ t p ?_ λa r=>?_;{rw[numAt_eq];show PySem.getD_mem (by rw[aP,B7];lia)};let[j,u,rfl]:=mem_getD r;rw[aP,B7]at u;rw[<-numAt_eq];show q j @o_
end
section
variable{X:Cx}
def mz(K:aR):List V->Hp->VK->Prop:=λc H Q=>∃(a:aa) (b:List Int),c=#[V.ref a]/\bE K H a (b.map V.int)/\Q (.int b.sum) H
def Bf(K:aR):List V->Hp->VK->Prop:=λc H Q=>∃(a:aa) (b:List Int),c=#[V.ref a]/\bE K H a (b.map V.int)/\0<b.length/\∀m,m∈b->(∀y,y∈b->m<=y)->Q (.int m) H
def ZW(c:X.calm=Y):gE X (.builtin "sum")<|mz X.K:=by intro b s j H l m Q I r h;let[a,n,rfl,d,q]:=h;let[e,f,g,_]:=I.list d;rw[bq.Bm r];show akG (I.ok.hd c) g.isList f.ints λo p t i=>[.int _,H,I.kept i,[_,()],q]
def ZV(d:X.calm=Y):gE X (.builtin "min")<|Bf X.K:=by intro c s o H p t Q I r h;let[a,u,rfl,e,b,q]:=h;let[f,g,i,_]:=I.list e;rw[bq.Bm r];show af_ (I.ok.hd d) i.isList g.ints b λv w m x j l n=>[.int _,H,I.kept j,[_,()],q m l n]
end
section
variable{X:Cx}
def acy(K:aR):V->List V->Hp->VK->Prop:=λx d H Q=>∃(a:aa) (b:List V) (y:V) (j:Nat) (z:V),x=V.ref a/\d=#[y]/\bE K H a b/\fM y=Y/\b.all fM=Y/\b[j]?=B z/\hW z y=Y/\(∀(m:Nat)(c:V),m<j->b[m]?=B c->hW c y=ag)/\Q (.int (j:Nat)) H
theorem Af{ys:List V}(f:ys.all fM=Y){j:Nat}{z:V}(h:ys[j]?=B z):fM z=Y:=cq.mp f z<|bY h
theorem agk:jI X "list.index"<|acy X.K:=by{
intro J s σ H x xs v us Q I rx f h;let[a,g,y,j,z,rfl,rfl,hs,fy,c,M,i,l,q]:=h;cases rx;cases f with|cons ry rt=>
rename_i uy ut;cases rt;let[b,e,[[cls,dd,data,sl],n,P,T,hdn,W],hlen]:=I.list hs;simp only at T W;subst T W;let[u,hu,ru]:=e.get M;let[o,p]:=el.mp hu;let hvl:=e.length;let hj:j<b.toArray.size:=(o:);let hsl:=J7;show qe X0 [_,P,()] PySem.F.entry_list_index (PySem.F.args_list_index_2 _ _)
 (SeqAt.list_indexAt a b.toArray n dd sl uy (i9 y) j hj @o_ ?_ ?_) [P,λu' r=>sm ry fy e c u' (r:),?_]
.let t:b.toArray[j]=u:=(p:);rw[t,t8 ru<|Af c M];show i
.intro m hm w;let hml:m<b.length:=(hm:);let A:m<g.length:=by lia
 let d:g[m]?=B g[m]:=bF A;let[u2,C,E]:=e.get d;let[_,G]:=el.mp C;let t:b.toArray[m]=u2:=(G:);rw[t,t8 E<|Af c d];show l m _ w d
show [.int (j:Nat),H,I.tok _,[_,()],q]}
end
def MM(hl:s.heap.IsList l items)(h:∀a:ak,a={s with heap:=s.heap.push {cls:=.type "list_iterator",data:=.fields (bS #[.ref l,.int 0 0])}}->(a.heap.IsListIter ↑s l 0/\a.heap.IsList l items)->l≠↑s->Q (.ref ↑s) a):wpAny @l_ A (pyIter<|.ref l) Q E s:=by let b:l<↑s:=(by let[_,e,_]:=hl;show cv e);show C5 hl<|h _ () [[_,f6 _ (),(),()],hl.push _]<|fk b
theorem V2{prog:bU}{w:bj}{A:Around}{bs:List Bool}{a:List ae}(e:a=bs.map rj):TruthOf prog w A (λi v=>a.toArray[i]?=B v) (λi=>bs.getD i ag):=λi v s Q E f g=>by let c:a[i]?=B v:=(f:);rw[e,du]at c;let[b,O,rfl]:=jl.mp c;let h:bs.getD i ag=b:=(by rw[cV,O]<;>rfl);let d:Q (bs.getD i ag) s:=g;rw[h]at d;show qf d
def any_range:∀bs:List Bool,(dc bs.length).any (λi=>bs.getD i ag)=bs.any id|[]=>rfl|b::bs=>by rw[bR,Xh,oa,Cc,oa,<-any_range bs];all_goals rfl
def all_range:∀bs:List Bool,(dc bs.length).all (λi=>bs.getD i ag)=bs.all id|[]=>rfl|b::bs=>by rw[bR,Xh,sX,vn,sX,<-all_range bs];all_goals rfl
section
variable{X:Cx}
def uK(K:aR):List V->Hp->VK->Prop:=λb H Q=>∃(a:aa) (bs:List Bool),b=#[V.ref a]/\bE K H a (bs.map V.bl)/\Q (.bl<|bs.any id) H
def pB(K:aR):List V->Hp->VK->Prop:=λb H Q=>∃(a:aa) (bs:List Bool),b=#[V.ref a]/\bE K H a (bs.map V.bl)/\Q (.bl<|bs.all id) H
theorem ZU(i:X.calm=Y):gE X (.builtin "any")<|uK X.K:=by intro e s u H v w Q I r h;let[a,bs,rfl,j,q]:=h;let[c,l,m,_]:=I.list j;rw[bq.Bm r];let O:=l.DO;show call_any_walk<|MM m.isList λf n st d=>?_;subst n;show [_,_,_,_,_,_,_,(),Walks.list (A:=X.A.in1) (I.ok.hd i) _ a d c.toArray,st,V2 O,λx y p=>?_];show [.bl _,H,I.kept λb o g=>p b o (λrT=>?_)<|dh _ g,?_,q];{(rcases bh.mp rT with t|rT);{show absurd (t▸cv g)<|mV _};cases rT};change rj _=rj _;rw[<-any_range,O,eW,aP]
def ZT(i:X.calm=Y):gE X (.builtin "all")<|pB X.K:=by intro e s u H v w Q I r h;let[a,bs,rfl,j,q]:=h;let[c,l,m,_]:=I.list j;rw[bq.Bm r];let O:=l.DO;show call_all_walk<|MM m.isList λf n st d=>?_;subst n;show [_,_,_,_,_,_,_,(),Walks.list (A:=X.A.in1) (I.ok.hd i) _ a d c.toArray,st,V2 O,λx y p=>?_];show [.bl _,H,I.kept λb o g=>p b o (λrT=>?_)<|dh _ g,?_,q];{(rcases bh.mp rT with t|rT);{show absurd (t▸cv g)<|mV _};cases rT};change rj _=rj _;rw[<-all_range,O,eW,aP]
end
mutual
inductive Dp (K:aR) (H:Hp):V->PyData->Prop
 |aC:Dp K H .aC .none
 |bl (b:Bool):Dp K H (.bl b) (.bool b)
 |int (i:Int):Dp K H (.int i) (.int i)
 |str (x:Str):Dp K H (.str x) (.str x)
 |lst {a:aa} {xs:List V} {ds:List PyData}:bE K H a xs->qg K H xs ds->Dp K H (.ref a) (.list ds)
 |tup {a:aa} {xs:List V} {ds:List PyData}:cP K H a xs->qg K H xs ds->Dp K H (.ref a) (.tuple ds)
inductive qg (K:aR) (H:Hp):List V->List PyData->Prop
 |nil:qg K H [] []
 |cons {v:V} {vs:List V} {d:PyData} {ds:List PyData}:Dp K H v d->qg K H vs ds->qg K H (v::vs) (d::ds)
end
section
variable{X:Cx}{pins:List<|aa×Obj}{σ:St}{H:Hp}{s:ak}
mutual
theorem Dp.reads(I:Inv X pins σ H s):∀(d:PyData)(v:V)(u:ae),Dp X.K H v d->RelV v u->∃as,Reads s.heap u d as
 |.none,_,_,h,r=>by cases h;cases r;show [_,Reads.none]
 |.bool b,_,_,h,r=>by cases h;cases r;show [_,Reads.bool b]
 |.int i,_,_,h,r=>by cases h;let[t,rfl]:=r;show [_,Reads.int i t]
 |.str x,_,_,h,r=>by cases h;let[t,rfl]:=r;show [_,Reads.str x t]
 |.list ds,_,_,h,r=>by
  cases h with
  |lst hs ha=>cases r;let[h8,rv,[o,n,ho,hc,_,hd],_]:=I.list hs;let[as,hr]:=Dp.readsAll I ds _ h8 ha rv;show [_,Reads.list ho hc hd hr]
 |.tuple ds,_,_,h,r=>by
  cases h with
  |tup hs ha=>cases r;let[h8,rv,[o,ho,hc,n,hd],_]:=I.tuple hs;let[as,hr]:=Dp.readsAll I ds _ h8 ha rv;show [_,Reads.tuple ho hc hd hr]
 |.dict _,_,_,h,_=>by cases h
theorem Dp.readsAll (I:Inv X pins σ H s):∀(ds:List PyData)(vs:List V)(us:List ae),qg X.K H vs ds->bq vs us->∃as,ReadsAll s.heap us ds as
 |[],_,_,h,r=>by cases h;cases r;show [_,ReadsAll.nil]
 |d::ds,_,_,h,r=>by
  cases h with
  |cons h1 h2=>
   cases r with
   |cons r1 r2=>let[as,q1]:=Dp.reads I d _ _ h1 r1;let[bs,q2]:=Dp.readsAll I ds _ _ h2 r2;show [_,ReadsAll.cons q1 q2]
end
end
section
variable{X:Cx}
def O4(K:aR):R2:=λx y H Q=>∃d e,Dp K H x d/\Dp K H y e/\ri d=Y/\ri e=Y/\Q (.bl<|eX d e) H
def Po(K:aR):R2:=λx y H Q=>∃d e,Dp K H x d/\Dp K H y e/\ri d=Y/\ri e=Y/\Q (.bl<|!eX d e) H
def ahr(b:X.A.units+64<cLine):cE X (compareOp .Eq)<|O4 X.K:=by intro a s m H x y v u Q I c f h;let[d,e,g,i,j,l,q]:=h;let[n,r1]:=Dp.reads I d x v g c;let[bs,r2]:=Dp.reads I e y u i f;show SeqAt.compareEq_shaped r1 r2 j l b [.bl _,H,I,(),q]
def ahD(b:X.A.units+64<cLine):cE X (compareOp .NotEq)<|Po X.K:=by intro a s m H x y v u Q I c f h;let[d,e,g,i,j,l,q]:=h;let[n,r1]:=Dp.reads I d x v g c;let[bs,r2]:=Dp.reads I e y u i f;show SeqAt.compareNe_shaped r1 r2 j l b [.bl _,H,I,(),q]
end
abbrev Kh(h:a8)(c:aa)(v:Option ae):Prop:=h.IsCell c v
def ajY(a b:cB):cB:={a with names:=a.names.map λ(n,k)=>if(k==.free&&b.kind==.function&&b.names.lookup n==B .cell)then(n,.cell)else(n,k)}
def iL(cells:List<|Str×aa):List (Str×jm)->List (Str×aa)->List (Str×aa)|[],acc=>acc|(n,k)::r,acc=>if k==.free then iL cells r ((n,(cells.lookup n).getD 0)::acc)else iL cells r acc
def K4(b:Env)(f:Str×jm->List (Str×aa)->Sem (ForInStep<|List<|Str×aa))(g:∀n k c,f (n,k) c=if k==.free then(do let a<-cellOf b n;pure (.yield<|(n,a)::c))else pure<|.yield c):∀(names:List<|Str×jm)(acc:List<|Str×aa),(∀y∈names,y.2=.free->∃c,b.cells.lookup y.1=B c)->forIn names acc f=pure (iL b.cells names acc)|[],acc,_=>by rw[IU];rfl|(n,k)::r,acc,h=>by{
rw[tm,g];let i:=λacc=>K4 b f g r acc λy l=>h y<|dv _ l;unfold iL;by_cases d:(k==vP)=Y
.rw[aab d,aab d];let[c,j]:=h (n,k) gU (d:);let e:cellOf b n=pure c:=by unfold cellOf;rw[j]
 rw[e];let m:(b.cells.lookup n).getD 0=c:=by rw[j];rfl
 rw[m];show i _
rw[aaa d,aaa d];show i _}
def ZQ(h:∀y∈a.names,y.2=.free->∃c,b.cells.lookup y.1=B c):closureFor a b=pure (iL b.cells a.names []):=by simp only[closureFor];rw[K4 b _ (λn k c=>rfl) a.names [] h];rfl
def mem_lookup{α:Type}:∀{l:List<|Str×α}{n:Str}{c:α},(n,c)∈l->∃c',l.lookup n=B c'|(k,v)::r,n,c,h=>by rw[kZ];cases O:n==k with|true=>show [_,()]|false=>(rcases bh.mp h with e|h);{cases e;simp at O};show mem_lookup h
def zJ:∀{names:List<|Str×jm}{acc:List<|Str×aa}{n:Str}{c:aa},(n,c)∈iL cells names acc->(n,c)∈acc\/((n,.free)∈names/\c=(cells.lookup n).getD 0)|[],_,_,_,h=>.inl h|(m,k)::r,acc,n,c,h=>by{
unfold iL at h;split at h
.rename_i a;let a:k=.free:=(a:);rcases zJ h with h|⟨b,d⟩
 {(rcases bh.mp h with e|h);{cases e;show .inr [a▸gU,()]};show .inl h};show .inr [dv _ b,d]
rcases zJ h with h|⟨b,d⟩
.show .inl h
show .inr [dv _ b,d]}
def D5:∀{names:List<|Str×jm}{acc:List<|Str×aa}{p:Str×aa},p∈acc->p∈iL cells names acc|[],_,_,h=>h|(m,k)::r,acc,p,h=>by unfold iL;split;{show D5<|dv _ h};show D5 h
def D6:∀{names:List<|Str×jm}{acc:List<|Str×aa}{n:Str},(n,.free)∈names->(n,(cells.lookup n).getD 0)∈iL cells names acc|(m,k)::r,acc,n,h=>by(unfold iL;rcases bh.mp h with e|h);{cases e;show D5 gU};split;{show D6 h};show D6 h
def wB:∀{names:List<|Str×jm}{h:a8}{acc:List<|Str×aa}{x:Str}{c:aa},(x,c)∈cellsFrom h.objs.size names acc->(x,c)∈acc\/((x,.cell)∈names/\h.objs.size<=c/\Kh (pushCells h names) c Z)|[],_,_,_,_,h=>.inl h|(n,k)::r,h,acc,x,c,hm=>by{
unfold cellsFrom at hm;unfold pushCells;split at hm
.rename_i a;rw[aab a];let a:k=.cell:=(a:);rw[<-i1 h {cls:=.type "cell",data:=.cell Z}]at hm;rcases wB hm with hm|⟨d,b,f⟩
 {(rcases bh.mp hm with e|hm);{cases e;show .inr [a▸gU,bD _,_,CZ r _ _ _<|f6 _ (),()]};show .inl hm};rw[i1]at b;show .inr [dv _ d,Cy b,f]
rename_i a;rw[aaa a];rcases wB hm with hm|⟨d,b,f⟩
.show .inl hm
show .inr [dv _ d,b,f]}
def zI:∀{names:List<|Str×jm}{n:Nat}{acc:List<|Str×aa}{p:Str×aa},p∈acc->p∈cellsFrom n names acc|[],_,_,_,h=>h|(m,k)::r,n,acc,p,h=>by unfold cellsFrom;split;{show zI<|dv _ h};show zI h
def DX:∀{names:List<|Str×jm}{n:Nat}{acc:List<|Str×aa}{x:Str},(x,.cell)∈names->∃c,(x,c)∈cellsFrom n names acc|(m,k)::r,n,acc,x,h=>by(unfold cellsFrom;rcases bh.mp h with e|h);{cases e;show [n,zI gU]};split;{show DX h};show DX h
def DY:∀{names:List<|Str×jm}{h:a8}{acc:List<|Str×aa}{x y:Str}{c:aa},(∀p∈acc,p.2<h.objs.size)->(∀x y c,(x,c)∈acc->(y,c)∈acc->x=y)->(x,c)∈cellsFrom h.objs.size names acc->(y,c)∈cellsFrom h.objs.size names acc->x=y|[],_,_,_,_,_,_,g,f,d=>g _ _ _ f d|(n,k)::r,h,acc,x,y,c,i,g,f,d=>by unfold cellsFrom at f d;split at f;{rename_i j;rw[aab j]at d;rw[<-i1 h {cls:=.type "cell",data:=.cell Z}]at f d;show DY (h:=h.push _) (λp hp=>?_) (λx y c a b=>?_) f d;{(rw[i1];rcases bh.mp hp with rfl|hp);{show vI _};show Jt<|i p hp};(rcases bh.mp a with e|a<;>rcases bh.mp b with l|b);{cases e;cases l;rfl};{cases e;show absurd (i _ b)<|mV _};{cases l;show absurd (i _ a)<|mV _};show g _ _ _ a b};rename_i j;rw[aaa j]at d;show DY i g f d
theorem agz{M:Model}{A:Around}{E:ae->ak->Prop}{s:ak}{a:cB}{globals:aa}{b:List<|Str×aa}{f:Str}{g:Option aa}{code:ae}{e:Env}{d:aa}{Q:Env->ak->Prop}(h:Q (newEnv a ↑s globals (cellsFrom (↑s+1) a.names b) f g code (B e) d)
  {s with heap:=pushCells (s.heap.push {cls:=.type "dict",data:=.dict #[]}) a.names}):
 wpAny M A (newFunctionEnv a globals b [] f g code (B e) d) Q E s:=by
 simp only[newFunctionEnv,Xz,abu];show aZ<|wpAny_alloc ?_;show aZ<|wpAny_layCells _ (λn k c=>rfl) a.names b _ _ ?_;rw[show({s with heap:=s.heap.push {cls:=.type "dict",data:=.dict #[]}}:ak).heap.objs.size=↑s+1 from i1 ..];rw[IU];show aZ<|cZ<|cZ h
theorem Fi{c:cB}:∀{names:List<|Str×jm}{x:Str}{k:jm},(names.map λ(n,k)=>if(k==vP&&c.kind==.function&&c.names.lookup n==B .cell)then(n,JM)else(n,k)).lookup x=B k->∃k',names.lookup x=B k'/\(k=k'\/(k'=.free/\k=.cell))|[],_,_,h=>by simp at h|(n,a)::r,x,k,h=>by let e:= @Fi c r x k;let b:qU x ((if(a==vP&&c.kind==.function&&c.names.lookup n==B .cell)=Y then(n,JM)else(n,a))::(r.map _))=B k:=h;cases hx:x==n with|true=>simp only[kZ,hx];by_cases d:(a==vP&&c.kind==.function&&c.names.lookup n==B .cell)=Y;{rw[aab d]at b;simp only[kZ,hx]at b;cases b;simp only[a6,aaF]at d;show [a,(),.inr [d.1.1,()]]};rw[aaa d]at b;simp only[kZ,hx]at b;cases b;show [_,(),.inl ()]|false=>simp only[kZ,hx];by_cases d:(a==vP&&c.kind==.function&&c.names.lookup n==B .cell)=Y;{rw[aab d]at b;simp only[kZ,hx]at b;show e b};rw[aaa d]at b;simp only[kZ,hx]at b;show e b
structure vY (N:List Str) (sc scope:cB) (own:List (Str×Nat)):Prop where
 kind:scope.kind=.function
 uniq:∀y∈scope.names,scope.names.lookup y.1=B y.2
 ix:∀p∈own,N[p.2]?=B p.1
 free:∀y∈scope.names,y.2=.free->sc.names.lookup y.1=B .cell\/sc.names.lookup y.1=B .free
 own:∀y∈scope.names,y.2=.local\/y.2=.cell->y.1∈own.map (·.1)\/y.1∉N
def wipe(a:St):List Nat->St|[]=>a|v::b=>(wipe a b).set v Z
def vk(a:St):∀vs:List Nat,(wipe a vs).length=a.length|[]=>rfl|v::vs=>by unfold wipe;rw[og,vk a vs]
def II:∀{vs:List Nat},(wipe a vs)[i]?=B (B x)->a[i]?=B (B x)/\i∉vs|[],h=>[h,by simp]|v::vs,h=>by unfold wipe at h;by_cases b:v=i;{subst b;by_cases c:v<(wipe a vs).length;{rw[IZ c]at h;cases h};rw[iF (c:)]at h;cases h};rw[IY b]at h;let[d,f]:=II h;show [d,by simp only[bh,not_or];show [λe=>b e.symm,f]]
abbrev Cx.cx(X:Cx)(s:ak)(H:Hp)(a:cB)(cenv:Env)(b:List aa):Cx:={X with f_:=s,v_:=H,env:=cenv,outer:=X.stack,ex:=b,fn:=λx=>a.names.lookup x==B .cell,pn:=[],xe:=λ_ _=>False}
section
variable{X:Cx}{pins:List<|aa×Obj}{σ:St}{H:Hp}{s:ak}
theorem Zb(I:Inv X pins σ H s)(ok:vY X.N X.env.scope scope own)(hN:X.N.Nodup)(j:∀b∈fp,la X pins H b/\b<↑s):Inv (X.cx s H scope (compEnvC scope (cellsFrom (↑s+1) scope.names<|iL X.env.cells scope.names []) ↑s X.env) fp) [] (wipe σ (own.map (·.2))) H {s with heap:=pushCells (s.heap.push {cls:=.type "dict",data:=.dict #[]}) scope.names}:=by{
let A:∀y∈scope.names,y.2=.free->∃c,X.env.cells.lookup y.1=B c:=λy hy e=>by(rcases ok.free y hy e with k|k);{show I.ok.has _<|.inl k};show I.ok.has _<|.inr k
generalize f:compEnvC scope (cellsFrom (↑s+1) scope.names<|iL X.env.cells scope.names []) ↑s X.env=d;let Q:∀b o,s.heap.get? b=B o->(pushCells (s.heap.push {cls:=.type "dict",data:=.dict #[]}) scope.names).get? b=B o:=λb o e=>CZ _ _ _ _<|dh _ e;let T:d.locals=↑s:=by rw[<-f];rfl
let h:d.cells=cellsFrom (↑s+1) scope.names (iL X.env.cells scope.names []):=by rw[<-f];rfl
let C:d.scope=ajY scope X.env.scope:=by rw[<-f];rfl
rw[<-i1 s.heap {cls:=.type "dict",data:=.dict #[]}]at h;let J:∀{y c},(y,c)∈iL X.env.cells scope.names []->X.env.cells.lookup y=B c/\c<↑s:=λ{y c} l=>by(rcases zJ l with l|⟨g,rfl⟩);{cases l};let[c,hc]:=A _ g ();rw[hc];let[w,z]:=I.cell _ _ hc;show [(),z.lt]
let mem:∀{y c},d.cells.lookup y=B c->(X.env.cells.lookup y=B c/\c<↑s)\/(↑s+1<=c/\Kh (pushCells (s.heap.push {cls:=.type "dict",data:=.dict #[]}) scope.names) c Z):=λ{y c} e=>by(rw[h]at e;rcases wB (ik e)with l|⟨_,t,h3⟩);{show .inl<|J l};rw[i1]at t;show .inr [t,h3]
let look:∀{y},scope.names.lookup y=B .free->∃c,d.cells.lookup y=B c/\X.env.cells.lookup y=B c:=λ{y} W=>by(let hy:(y,vP)∈scope.names:=ik W;let[c',e']:=mem_lookup<|zI (names:=scope.names) (n:=(s.heap.push {cls:=.type "dict",data:=.dict #[]}).objs.size)<|D6 (cells:=X.env.cells) (acc:=[]) hy;rw[<-h]at e';show [c',e',?_];rw[h]at e';rcases wB (ik e')with l|⟨g,_,_⟩);{show(J l).1};let:=ok.uniq _ g;rw[W]at this;cases this
let okB:(X.cx s H scope d fp).Ok:=by{
show [I.ok.mod,by change d.scope.kind=_;rw[C];show ok.kind,by change d.globals=_;rw[<-f];show I.ok.glob,by change d.builtins=_;rw[<-f];show I.ok.blt,by change ↑s<=d.locals;rw[T];show bD _,λy z c v x=>?_,λy hy=>?_,λy c z e=>?_,I.ok.hd,I.ok.frames,.inl (),λb O=>[?_,λy c e z=>?_],I.bs,cu I.ok.lW I.sz,λb o e O=>?_,λb O z=>?_,I.stack,I.Ic];{let v:d.cells.lookup y=B c:=v;let x:d.cells.lookup z=B c:=x;rw[h]at v x;show DY (λp G=>?_) (λy z c a b=>I.ok.inj y z c (J a).1 (J b).1) (ik v)<|ik x;rw[i1];show Jt (J (y:=p.1) (c:=p.2) G).2}
.change∃c,d.cells.lookup y=B c;let key:∀k,d.kindOf y=B k->(k=.cell\/k=.free)->∃c,d.cells.lookup y=B c:=λk E F=>by{
unfold Env.kindOf at E;rw[C]at E;let[k',e,r]:=Fi E;let:k'=.cell\/k'=.free:=by(rcases r with rfl|⟨rfl,_⟩);{show F};show .inr ()
rcases this with rfl|rfl
.let[c,l]:=DX (n:=(s.heap.push {cls:=.type "dict",data:=.dict #[]}).objs.size) (acc:=iL X.env.cells scope.names [])<|ik e;let[c',e']:=mem_lookup l;show [c',by rw[h];show e']
let[c,g,_]:=look e;show [c,g]};rcases hy with hy|hy
 {show key _ hy<|.inl ()};show key _ hy<|.inr ()
.let z:(scope.names.lookup y==B JM)=Y:=z;let z:scope.names.lookup y=B .cell:=(z:);let e:d.cells.lookup y=B c:=e;rw[h]at e;rcases wB (ik e)with l|⟨_,t,_⟩
 {(rcases zJ l with l|⟨g,_⟩);{cases l};let q:=ok.uniq _ g;rw[z]at q;cases q};rw[i1]at t;show Cy t
.change b≠d.locals;rw[T];show fk (j b O).2
.let e:d.cells.lookup y=B c:=e;rcases mem e with⟨g,_⟩|⟨g,_⟩
 {show(j b O).1.2.2.2.2.1 y c g z};let t:↑s+1<=b:=by rw[<-z];show g
 show absurd (gV (j b O).2<|Cy t)<|mV _
.rcases(j b O).1.2.2.2.1 with z|z
 {show I.ok.ux b o e z};show absurd (gV (cv e)<|cu I.ok.lW z)<|mV _
rcases bh.mp (I.BM b z)with z|z
.show(j b O).1.2.1 z
show(j b O).1.2.2.1 z}
show [okB,(),I.bare,Un.kept Q,[λ_=>Z,?_,λi y av v x e3=>?_],λy c e=>?_,?_,λy c e=>?_,λp G=>?_,I.bx.kept Q,by rw[vk];show I.len];{change Heap.Ns _ d.locals _;rw[T];show Heap.Ns.keeps (Heap.Ns.new ..) λb o e=>CZ _ _ _ _ e}
.let[x,hne]:=II x;let u:scope.names.lookup y=B .free/\(d.kindOf y=B .cell\/d.kindOf y=B .free):=by{
let key:∀k,d.scope.names.lookup y=B k->k=.local\/k=.cell\/k=.free->scope.names.lookup y=B .free/\(d.kindOf y=B .cell\/d.kindOf y=B .free):=λk E F=>by{
let M:=E;rw[C]at E;let[k',e,r]:=Fi E;let no:¬(k'=.local\/k'=.cell):=λhh=>by(rcases ok.own _ (ik e) hh with e'|e');{let[p,G,hpy]:=c4.mp e';let e3:=ok.ix p G;let:p.1=y:=hpy;rw[this]at e3;show hne<|c4.mpr [p,G,Fy hN e3 v]};show e'<|bY v
rcases r with rfl|⟨rfl,rfl⟩
.rcases F with rfl|rfl|rfl
 {show absurd (.inl ()) no};{show absurd (.inr ()) no};show [e,.inr M]
show [e,.inl M]}
let e3:tT d.scope y:=e3;rcases e3 with e3|e3|e3
.show key _ e3<|.inl ()
.show key _ e3<|.inr<|.inl ()
show key _ e3<|.inr<|.inr ()};let[m,hn,W]:=I.loc;let P:tT X.env.scope y:=(ok.free _ (ik u.1) ()).elim (λk=>.inr<|.inl k) λk=>.inr<|.inr k;let[w,r,q]:=W i y av v x P;show [w,r,.inr [u.2,?_]];let[c,g,t]:=look u.1;rcases q with⟨k,_⟩|⟨_,c',e',z⟩
 {let k:X.env.scope.names.lookup y=B .local:=k;rcases ok.free _ (ik u.1) rfl with k'|k'<;>rw[show X.env.scope.names.lookup y=_ from k']at k<;>cases k};rw[t]at e';cases e';show [c,g,z.keeps Q]
.let e:d.cells.lookup y=B c:=e;rcases mem e with⟨g,_⟩|⟨_,z⟩
 {let[w,z]:=I.cell y c g;show [w,z.keeps Q]};show [_,z]
.change H d.locals=Z;rw[T];show I.bx.fresh<|bD _
.let e:d.cells.lookup y=B c:=e;rcases mem e with⟨g,_⟩|⟨g,_⟩
 {show I.jw y c g};show I.bx.fresh<|Cy g
show absurd (show p∈([]:List<|aa×Obj)++[]from G) @s_}
def YQ(I:Inv X pins σ H s)(f:H a=B (.lst xs))(j:xs.length<sizeLine)(r:RelV y v)(h:∀g,Inv X pins σ (upd H a<|.lst<|xs++#[y]) g->Q .none g):wpAny @c_ X.A (call (.builtin "list.append") #[.ref a,v]) Q E s:=by let[l,d,n,i,e]:=I.bx a _ f;let p:=i.length;show append_at (hsz:=by rw[eW];lia) e λm o c=>?_;show h {s with heap:=m}<|I.write (t':=s.toks) (by rw[f];trivial) (.inl ()) (λb u O q=>(o.2 b O).trans q) [_,c] [by rw[cA];show j,d++#[v],n+1,i.append<|.cons r .nil,?_];rw[c];simp
def rA(X:Cx)(ifs:List aw)(t:TT):Prop:=∀(pins:List<|aa×Obj)(s:ak)(σ:St)(H:Hp)(Q:Bool->Hp->Prop),Inv X pins σ H s->t σ H Q->wpAny @c_ X.A (forIn ifs Y λc r=>if r=Y then do let ok<-isTrue c X.env<|eval c X.env;pure (qP ok)else pure<|qP r) (TP X pins σ Q) X.xe s
def dA:TT:=λ_ H Q=>Q Y H
def ajd:rA X [] dA:=λ_ _ _ H _ I h=>wpAny_tests_nil [H,I,h]
def aje(h:PT X c t):rA X #[c] t:=λpins s σ H Q I a=>wpAny_tests_one<|h pins s σ H Q I a
end
theorem Io{α:Type}{t:Sem α}{Q b:α->ak->Prop}{M:Model}{A:Around}{E:ae->ak->Prop}{s:ak}(h:wpAny M A t Q (λ_ _=>False) s)(c:∀a s,Q a s->b a s):wpAny M A t b E s:=kE h c λ_ _ z=>gA z
def ZS(I:Nat->ak->Prop)(turn:∀n s,I n s->wpAny @l_ A (pyNext F) (λr d=>match r with
  |none=>R (.ok .next) d
  |some v=>wpAny @l_ A (letOwnedTupleGo target F v) (λ_ f=>wpAny @l_ A (assign target a v) (λ_ l=>
   wpAny @l_ A (forIn ifs Y λc r=>if r=Y then do let ok<-isTrue c a<|eval c a;pure (qP ok)else pure<|qP r) (λok g=>
    if ok=Y then wpAny @l_ A (eval u a) (λx o=>wpAny @l_ A (call (.builtin "list.append") #[acc,x]) (λ_ p=>∃m,m<n/\I m p) (notedBy @l_ A a λe i=>R (.error e) i) o) (notedBy @l_ A a λe i=>R (.error e) i) g
    else∃m,m<n/\I m g) (notedBy @l_ A a λe i=>R (.error e) i) l) (notedBy @l_ A a λe i=>R (.error e) i) f) (notedBy @l_ A a λe i=>R (.error e) i) d) (notedBy @l_ A a λe i=>R (.error e) i) s)
 (n:Nat)(h:I n s):
 codeAny @l_ A (.compLoop (.ListComp u #[[target,iter,ifs,0]] b pos) 0 F acc a) R s:=by
 show codeAny_loop () I (λn s G=>?_) n h;change wpAny _ A ((compTurn (.ListComp u #[[target,iter,ifs,0]] b pos) 0 F acc a).onRaise (λx=>do noteFrame x a;theTreesLotGoes x)) _ _ s;show wpAny_noted ?_;rw[compTurn_list];show aZ<|Kb<|aZ<|kE (turn n s G) (λr d q=>?_) λ_ _ j=>j;cases r with
 |none=>show cZ q
 |some v=>
  show aZ<|kE q (λ_ f y=>?_) λ_ _ j=>j;show aZ<|kE y (λ_ l z=>aZ<|kE z (λok g t=>?_) λ_ _ j=>j) λ_ _ j=>j;cases ok with
  |false=>show cZ [(),t]
  |true=>show aZ<|aZ<|kE t (λx o C=>aZ<|kE C (λ_ p E=>cZ<|cZ [(),E]) λ_ _ j=>j) λ_ _ j=>j
section
variable{X:Cx}
def cH(wi:TI)(g:TG)(tt:TT)(te:TE)(vs:List Nat):TE:=λe H Q=>wi e H λJ h=>∀a,h a=Z->∃W:Nat->Nat->Hp->Prop,(∃m,W 0 m<|upd h a<|.lst [])/\∀i m H,W i m H->(J.stop i H/\Q (.ref a) H)\/(J.go i H/\∃f:Hp->Prop,(∀d,f d->∃j,j<m/\W (i+1) j d)/\∀x d,J.kW i H x d->g x (wipe e vs) d λc o=>wipe c vs=wipe e vs/\tt c o λb l=>if b=Y then te c l λy n=>∃acc,n a=B (.lst acc)/\acc.length<sizeLine/\f (upd n a<|.lst<|acc++#[y])else f l)
def akI(d:a.scope.kind=.function)(e:a.scope.names.lookup y=B .local)(hl:(c.line==pos.line)=Y)(f:(scope.names.any λ(n,k)=>n==y&&(k==.local||k==.cell))=ag):swapsWith (.ListComp b aE scope pos) (B<|.Name y c) l a=pure Y:=by let g:a.kindOf y=B .local:=e;let O:a.blockKind=.function:=(by unfold Env.blockKind;rw[d];rfl);unfold swapsWith;simp only[O,g,f,show(Expr.Name y c).pos=c from(),show(Expr.ListComp b aE scope pos).pos=pos from(),hl];rfl
end
section
variable{κ:Type}[DecidableEq κ]
def eF(kvs:List<|κ×V)(k:κ):Option V:=(kvs.find? λa=>~~~(a.1=k)).map (·.2)
def putK(kvs:List<|κ×V)(k:κ)(v:V):List<|κ×V:=if(kvs.any λa=>~~~(a.1=k))=Y then kvs.map (λa=>if a.1=k then(a.1,v)else a)else kvs++#[(k,v)]
theorem IC{p:κ×V}{r:List<|κ×V}{k:κ}(e:p.1=k):eF (p::r) k=B p.2:=by simp[eF,jD,e]
theorem IB{p:κ×V}{r:List<|κ×V}{k:κ}(e:¬p.1=k):eF (p::r) k=eF r k:=by simp[eF,jD,e]
theorem Wg(k:κ):∀kvs:List<|κ×V,(kvs.any λa=>~~~(a.1=k))=(eF kvs k).isSome|[]=>rfl|p::r=>by rw[oa];by_cases e:p.1=k;{simp only[IC e,aae e,B9,Xz]};rw[IB e,aac e,B8];show Wg k r
def Ff(kvs:List<|κ×V)(k:κ)(v:V):(putK kvs k v).length<=kvs.length+1:=by unfold putK;split;{rw[aP];lia};rw[cA,bR,iY];lia
def il.rX(r:il o u):o.isSome=u.isSome:=by{
cases o with
|none=>cases u with|none=>rfl|some _=>show(show False from r).elim
|some _=>cases u with|none=>show(show False from r).elim|some _=>rfl}
def il.getD(r:il o u)(a:RelV d d'):RelV (o.getD d)<|u.getD d':=by{
cases o with
|none=>cases u with|none=>show a|some _=>show(show False from r).elim
|some _=>cases u with|none=>show(show False from r).elim|some _=>show r}
def KV.val(r:KV kvs vs)(k:κ):il (eF kvs k)<|valueAt vs k:=by{
unfold KV at r;induction r with|nil=>show True.intro| @cons p q i a h t f=>
let[d,g]:=h;by_cases e:p.1=k
.let c:q.1=k:=d.symm.trans e;let b:valueAt (q::a) k=B q.2:=by simp[valueAt,jD,c]
 rw[IC e,b];show g
let c:¬q.1=k:=λz=>e<|d.trans z;let b:valueAt (q::a) k=valueAt a k:=by simp[valueAt,jD,c]
rw[IB e,b];show f}
theorem KV.any{kvs:List<|κ×V}{vs:List<|κ×ae}(r:KV kvs vs)(k:κ):(kvs.any λa=>~~~(a.1=k))=vs.any λa=>~~~(a.1=k):=by unfold KV at r;induction r with|nil=>rfl|cons h t b=>rw[oa,oa,b,h.1]
def KV.GX(r:KV kvs vs)(k:κ)(c:RelV y u):KV (kvs.map λa=>if a.1=k then(a.1,y)else a) (vs.map λa=>if a.1=k then(a.1,u)else a):=by unfold KV at r⊢;induction r with|nil=>show .nil| @cons p q g i h t d=>rw[cC,cC];show .cons ?_ d;let[b,f]:=h;by_cases e:p.1=k;{rw[aab e,aab<|b.symm.trans e];show [b,c]};rw[aaa e,aaa λz=>e<|b.trans z];show [b,f]
def KV.put(r:KV kvs vs)(k:κ)(a:RelV y u):KV (putK kvs k y)<|stored vs k u:=by unfold putK stored;rw[r.any k];by_cases e:(vs.any λb=>~~~(b.1=k))=Y;{rw[aab e,aab e];show r.GX k a};rw[aaa e,aaa e];show Paired.snoc r [(),a]
theorem KV.length{kvs:List<|κ×V}{vs:List<|κ×ae}(r:KV kvs vs):kvs.length=vs.length:=di r
end
def nE(r:RelV (kV k) u):(fQ P w).is k u=Y:=by cases k with|inl i=>let[t,e]:=(show∃t,u=zc i t from r);subst e;show agb P w i t|inr x=>let[t,e]:=(show∃t,u=Value.str x t from r);subst e;show agc P w x t
def ML:∀{a:List Key}{us:List ae},bq (a.map kV) us->ItemsAre (fQ P w) a us|[],_,r=>by rw[tp]at r;cases r;show .nil|k::a,_,r=>by rw[cC]at r;cases r with|cons h t=>show .cons (nE h)<|ML t
abbrev KT(H:Hp):List (List Key×V)->List (List Key×aa×ae)->Prop:=Paired λp q=>p.1=q.1/\H q.2.1=B (.tup<|p.1.map kV)/\RelV p.2 q.2.2
def KT.val(r:KT H kvs xs)(k:List Key):il (eF kvs k) ((atKey xs k).map (·.2)):=by{
induction r with|nil=>show True.intro| @cons p q i a h t f=>
let[d,_,g]:=h;by_cases e:p.1=k
.let c:q.1=k:=d.symm.trans e;let b:atKey (q::a) k=B q.2:=by simp[atKey,jD,c]
 rw[IC e,b];show g
let c:¬q.1=k:=λz=>e<|d.trans z;let b:atKey (q::a) k=atKey a k:=by simp[atKey,jD,c]
rw[IB e,b];show f}
def KT.GX(r:KT H kvs xs)(k:List Key)(d:RelV y u):KT H (kvs.map λb=>if b.1=k then(b.1,y)else b) (xs.map<|putAt k u):=by induction r with|nil=>show .nil| @cons p q i j h t f=>rw[cC,cC];show .cons ?_ f;let[a,c,g]:=h;unfold putAt;by_cases e:p.1=k;{rw[aab e,aab<|a.symm.trans e];show [a,c,d]};rw[aaa e,aaa λz=>e<|a.trans z];show [a,c,g]
def KT.put(r:KT H kvs xs)(k:List Key)(O:H b=B (.tup<|k.map kV))(a:RelV y u):KT H (putK kvs k y) (storedH xs k b u):=by let e:(kvs.any λc=>~~~(c.1=k))=(atKey xs k).isSome:=(by rw[Wg,(r.val k).rX,CF]);unfold putK storedH;rw[e];by_cases q:(atKey xs k).isSome=Y;{rw[aab q,aab q];show r.GX k a};rw[aaa q,aaa q];show Paired.snoc r [(),O,a]
def KT.keeps(r:KT H kvs xs)(c:∀b ys,H b=B (.tup ys)->a b=B (.tup ys)):KT a kvs xs:=Paired.xq r λ_ _ z=>[z.1,c _ _ z.2.1,z.2.2]
section
variable{P:bU}{w:bj}{H:Hp}{h:a8}{a:aa}
def PF(ok:dO P w H h)(e:Rd H a u):eL P w H h a u:=e.ok ok
def wI(ok:dO P w H h)(e:Rd H a<|.dK kvs):kvs.length<=sizeLine/\(a==sysModules)=ag/\∃vs,KV kvs vs/\h.DictOf (fQ P w) a vs:=show eL P w H h a (.dK kvs)from PF ok e
def aaE(ok:dO P w H h)(e:H a=B (.dK kvs)):kvs.length<=sizeLine/\(a==sysModules)=ag/\∃vs,KV kvs vs/\h.DictOf (fQ P w) a vs:=wI ok<|.inl e
def xk(ok:dO P w H h)(e:H a=B (.tup<|b.map kV)):(tupleKind<|fQ P w).is h b a:=by let[_,c,r,o,d,f,n,g]:=(show eL P w H h a (.tup<|b.map kV)from ok a _ e);show [o,c.toArray,n,d,f,g,(ML r:)]
def wK(ok:dO P w H h)(e:Rd H a<|.dT kvs):kvs.length<=sizeLine/\(a==sysModules)=ag/\∃xs,KT H kvs xs/\h.DictOfH (tupleKind<|fQ P w) a xs:=by let[z,y,xs,r,o,c,d,f,g,i,j,n]:=(show eL P w H h a (.dT kvs)from PF ok e);show [z,y,xs,r,o,c,d,f,g,i,j,λx hx=>?_,n];let all:∀{l:List<|List Key×V}{m:List<|List Key×aa×ae},KT H l m->∀x∈m,(tupleKind<|fQ P w).is h x.1 x.2.1:=(by intro l m q;induction q with|nil=>intro x hx;show nomatch hx| @cons p q u v b t s=>(intro x hx;rcases bh.mp hx with e|hx);{subst e;show xk ok (by rw[<-b.1];show b.2.1)};show s x hx);show all r x hx
def aaG(ok:dO P w H h)(e:H a=B (.dT kvs)):kvs.length<=sizeLine/\(a==sysModules)=ag/\∃xs,KT H kvs xs/\h.DictOfH (tupleKind<|fQ P w) a xs:=wK ok<|.inl e
end
def k9(H:Hp)(a:aa)(y:V)(r:Option V):Prop:=(∃c k,Rd H a (.dK c)/\y=kV k/\r=eF c k)\/∃c k b,Rd H a (.dT c)/\y=.ref b/\H b=B (.tup<|k.map kV)/\r=eF c k
def v9(H:Hp)(a:aa)(y v:V)(d:Hp):Prop:=
 (∃c k,H a=B (.dK c)/\y=kV k/\c.length<sizeLine/\d=upd H a (.dK<|putK c k v))\/
 ∃c k b,H a=B (.dT c)/\y=.ref b/\H b=B (.tup<|k.map kV)/\c.length<sizeLine/\d=upd H a (.dT<|putK c k v)
theorem k9.k{H:Hp}{a:aa}{kvs:List<|Key×V}{k:Key}(e:H a=B (.dK kvs)):k9 H a (kV k)<|eF kvs k:=.inl [kvs,k,.inl e,(),()]
theorem v9.k{H:Hp}{a:aa}{kvs:List<|Key×V}{k:Key}{v:V}(e:H a=B (.dK kvs))(hl:kvs.length<sizeLine):v9 H a (kV k) v<|upd H a<|.dK<|putK kvs k v:=.inl [kvs,k,e,(),hl,()]
section
variable{X:Cx}{pins:List<|aa×Obj}{σ:St}{H:Hp}{s:ak}{a:aa}{y v:V}{u r:ae}{o:Option V}{A:Around}{E:ae->ak->Prop}
def Inv.Kz(I:Inv X pins σ H s):sysModules<↑s:=by let h:mainGlobals<↑s:=(I.mod.glob.keeps I.bk).lt;show Cz @d_ h
def aao(x:A.units+1<cLine)(I:Inv X pins σ H s)(g:k9 H a y<|B v)(q:RelV y u)(h:∀d t,Inv X pins σ H t->RelV v d->Q d t):wpAny @c_ A (getItem (.ref a) u) Q E s:=by(rcases g with⟨f,k,e,i,l⟩|⟨f,k,b,e,i,C,l⟩);{subst i;let[z,F,G,rel,j]:=wI I.bx e;let[d,m,c]:=il.some_of (v:=v) (o:=valueAt G k) (by rw[l];show rel.val k);show wpAny_getItem_of (nE q) j.mapOf m<|h d _ (I.tok _) c};subst i;cases(show u=cY b from q);let[z,F,J,rel,j]:=wK I.bx e;let[d,m,c]:=il.some_of (v:=v) (o:=(atKey J k).map (·.2)) (by rw[l];show rel.val k);let[p,M,n]:=jl.mp m;show wpAny_getItem_heap (C0 x) (xk I.bx C) j M ?_;rw[n];show h d _ (I.tok _) c
def aap(n:A.units+1<cLine)(I:Inv X pins σ H s)(g:k9 H a y o)(j:RelV y u)(h:∀m,Inv X pins σ H m->Q (.bool o.isSome) m):wpAny @c_ A (compareOp .In u<|.ref a) Q E s:=by(rcases g with⟨c,k,e,d,l⟩|⟨c,k,b,e,d,p,l⟩);{subst d;let[z,f,t,rel,i]:=wI I.bx e;show wpAny_in_of (nE j) f i.mapOf ?_;rw[<-(rel.val k).rX,<-l];show h _<|I.tok _};subst d;cases(show u=cY b from j);let[z,f,x,rel,i]:=wK I.bx e;show wpAny_in_heap (C0 n) (xk I.bx p) f i ?_;let q:=(rel.val k).rX;rw[CF]at q;rw[<-q,<-l];show h _<|I.tok _
def aat(n:A.units+1<cLine)(I:Inv X pins σ H s)(g:k9 H a y o)(j:RelV y u)(h:∀m,Inv X pins σ H m->Q (.bool<|!o.isSome) m):wpAny @c_ A (compareOp .NotIn u<|.ref a) Q E s:=by(rcases g with⟨c,k,e,d,l⟩|⟨c,k,b,e,d,p,l⟩);{subst d;let[z,f,t,rel,i]:=wI I.bx e;show wpAny_notIn_of (nE j) f i.mapOf ?_;rw[<-(rel.val k).rX,<-l];show h _<|I.tok _};subst d;cases(show u=cY b from j);let[z,f,x,rel,i]:=wK I.bx e;show wpAny_notIn_heap (C0 n) (xk I.bx p) f i ?_;let q:=(rel.val k).rX;rw[CF]at q;rw[<-q,<-l];show h _<|I.tok _
def Ll(I:Inv X pins σ H s)(mu:wc<|H a)(d:vN a s.heap h')(f:∃q,h'.get? a=B q)(new:eL X.prog X.w (upd H a c) h' a c):Inv X pins σ (upd H a c) {s with heap:=h',toks:=t'}:=I.write (x:=a) (e:=a) mu (.inl ()) (λb q O z=>(d.2 b O).trans z) f new
def aaD(z:kvs.length<=sizeLine)(hd:(a==sysModules)=ag)(rel:KV kvs vs)(dd:h'.DictOf (fQ P w) a vs):eL P w b h' a (.dK kvs):=[z,hd,vs,rel,dd]
def aau(hu:A.units+1<cLine)(I:Inv X pins σ H s)(g:v9 H a y v F)(G:RelV y u)(J:RelV v r)(h:∀M,Inv X pins σ F M->Q fo M):wpAny @c_ A (setItem (.ref a) u r) Q E s:=by{
rcases g with⟨d,k,e,j,l,m⟩|⟨d,k,b,e,j,P,l,m⟩
.subst j m;let[z,n,vs,rel,p]:=aaE I.bx e;let t:vs.length<=sizeLine:=by rw[<-rel.length];show z
 let x:(putK d k v).length<=sizeLine:=by let:=Ff d k v;lia
 show wpAny_setItem_pairs (hsz:=t) (nE G) p λT f C=>h _ ?_;let he:∃q,T.get? a=B q:=let⟨q,_,_,i,_⟩:=f;[q,i];show Ll I (by rw[e];show True.intro) C he<|aaD x n (rel.put k J) f
subst j m;cases(show u=cY b from G);let[z,n,xs,rel,p]:=aaG I.bx e;let t:xs.length<=sizeLine:=by rw[<-di rel];show z
let x:(putK d k v).length<=sizeLine:=by let:=Ff d k v;lia
show wpAny_setItem_heap (hsz:=t) (C0 hu) (xk I.bx P) p λT f C=>h _ ?_;let[q,es,ep,i,h2,h3,h4,_,h5]:=f;show Ll I (by rw[e];show True.intro) C [q,i] [x,n,_,(rel.put k P J).keeps λc ys W=>?_,q,es,ep,i,h2,h3,h4,h5];rw[cJ<|agy W e λz=>nomatch z];show W}
end
def aaA(I:Inv X pins f H s)(g:k9 H a y o):s.TypeIs (.ref a) "dict":=by(rcases g with⟨c,k,e,_,_⟩|⟨c,k,b,e,_,_,_⟩);{let[_,_,h,_,d]:=wI I.bx e;show d.typeIs};let[_,_,i,_,d]:=wK I.bx e;show d.typeIs
def aaC(h:a8)(O:sysModules<h.objs.size):eL P w H (h.push {cls:=.type "dict",data:=.dict #[]}) h.objs.size<|.dK []:=[iH _,aaR.mpr<|Ne.symm (fk O),[],.nil,X3 h]
def sQ:TE:=λ_ H Q=>∀p,H p=Z->Q (.ref p) (upd H p<|.dK [])
section
variable{X:Cx}{pos:Pos}
def aik:PE X (.Dict [] [] pos) sQ:=λb s c H Q I h=>wpAny_Dict_empty [.ref ↑s,_,I.laid (a:=↑s) (o:=.dK []) (t':=s.toks) (λ_ _ q=>dh _ q) (bD _)<|aaC s.heap I.Kz,(),h _<|I.bx.fresh<|bD _]
end
def kN(kvs more:List<|Key×V):List<|Key×V:=more.foldl (λacc a=>putK acc a.1 a.2) kvs
def KV.merge:∀{more:List<|Key×V}{a:List<|Key×ae}{kvs:List<|Key×V}{vs:List<|Key×ae},KV more a->KV kvs vs->KV (kN kvs more) (merged vs a):=by intro more a kvs vs r;unfold KV at r;induction r generalizing kvs vs with|nil=>intro q;show q| @cons p q c d h t b=>intro r0;let e:KV (putK kvs p.1 p.2)<|stored vs q.1 q.2:=(by let:=r0.put p.1 h.2;rw[<-h.1];show this);show b e
def Ny:∀(more kvs:List<|Key×V),(kN kvs more).length<=kvs.length+more.length|[],kvs=>by change kvs.length<=kvs.length+0;lia|p::r,kvs=>by let a:=Ny r<|putK kvs p.1 p.2;let b:=Ff kvs p.1 p.2;change (kN (putK kvs p.1 p.2) r).length<=_;rw[bR];lia
structure M2 (X:Cx) (o:aw) (m:Str) (apos:Pos) (e f:aw) (fB:Pos):Prop where
 base:attributeBase o m X.env (eval o X.env)=eval o X.env
 few:((backTo fB<|starEach #[e,f] X.env).all (λx=>!x.1)&&(backToKw fB<|keywordEach [] X.env).all (λx=>x.1.isSome)
  &&~~~((#[e,f]:List aw).length+([]:List Keyword).length+(if([]:List Keyword).isEmpty then 0 else 1)<30))=Y
 line:(apos.endLine==fB.line)=Y
 trees:backTo fB (starEach #[e,f] X.env)=#[(ag,eval e X.env),(ag,eval f X.env)]
def afw:typeLookup (.type "list") "keys"=pure Z:=am_miss_of_fast<|by first|decide+kernel|rfl
def V_:entryFor table "dict.update.loop"=B Builtin.«dict.update.loop»:=entryFor_of_tree @y_
def yq:plainId "dict.update.loop"=Y:=by decide+kernel
section
variable{prog:bU}{w:bj}{A:Around}{E:ae->ak->Prop}
def aga(hx:s.heap.get? a=B o)(p:o.cls=.type "list")(f:o.data=.seq xs k)(hd:o.dict=Z)(t:A.handled=Z)(h:∀h' tk,(∀b q,s.heap.get? b=B q->h'.get? b=B q)->Q Z {s with heap:=h',toks:=tk}):wpAny @l_ A (getAttr? (.ref a) "keys") Q E s:=by{
let[c,u,dat,v]:=o;simp only at p f hd;subst p f hd;let[x,g,d,tk,os]:=s;let r:∀m,([x,g,d,m,os]:ak).TypeIs (.ref a) "list":=λ_=>[_,hx,()];let i:=afw;let j:(#["__module__","__name__","__qualname__","__doc__","__annotations__"]:List Str).contains "keys"=ag:=by decide+kernel
let n:("keys":Str).length+100<=sizeLine:=by first|size_fits|decide+kernel
let y:=sub_AttributeError;let z:=JK.lookup;let C:=JK.bind<|.ref a;let G:=am_list_getattr_none;unfold getAttr? getAttrBy? getAttrBy;repeat (any_goals (first|assumption|show r _|((with_reducible change wpAny _ _ (call (Value.builtin "list.__getattribute__") _ _) _ _ _);show qe JK (r _) am_entry_list_getattribute (PySem.F.args_list_getattribute_2 _ _) (meets_getattribute_miss_list a xs k v "keys" _ i j n) [hx,t,λh' m e l=>?_])|wp_step))
let[H,I,J]:=l.there;change wpAny _ _ (getattributeRaised _ _ _ _ _ _ _) _ _ _;unfold getattributeRaised;repeat (any_goals (first|assumption|wp_step))
all_goals first|show h _ _ l.keeps|(dsimp only;repeat (any_goals (first|assumption|show h _ _ l.keeps|wp_step)))}
def Wc(hh:A.handled=Z)(r:l≠I)(d:S≠I)(v:S≠l):∀(rest:List<|Key×ae)(i:Nat)(acc:List<|Key×ae)(ix:Int)(t:Tok)(s:ak),items.size=i+rest.length->acc.length+rest.length<=sizeLine->(∀(j:Nat)(q:Key×ae),rest[j]?=B q->∃(b:aa) (u:ae),items[i+j]?=B (.ref b)/\b≠S/\b≠I/\IsTup s.heap b (bS #[u,q.2])/\oY q.1 u=Y)->s.heap.IsListIter I l i->s.heap.IsList l items->s.heap.DictOf (fQ prog w) S acc->(∀h' tk,h'.DictOf (fQ prog w) S (merged acc rest)->(∀b o,b≠S->b≠I->s.heap.get? b=B o->h'.get? b=B o)->R (.ok<|.ret res) {s with heap:=h',toks:=tk})->codeAny @l_ A (.builtin "dict.update.loop" [#[.ref S,.ref I,.int ix t,res],[]]) R s|[],i,acc,ix,t,s,f,y,H,hit,G,J,M=>by show codeAny_builtin V_ ?_;rw[XF yq _];change wpAny _ A.in1 (pyNext (.ref I)>>=_) _ _ s;show aZ<|Yr (A:=A.in1) hh hit G (by first|show WI (tI f)|(simp at f;simp;lia)) λh' he=>?_;change wpAny _ A.in1 (Builtin.Dict.addKeywords S []>>=_) _ _ _;show aZ<|cZ<|cZ ?_;show M h' s.toks (J.extBut he d) λb o _ O e=>he b o O e|q::rest,i,acc,ix,t,s,f,y,H,hit,G,J,M=>by let[b,u,O,hbS,P,C,hk]:=H 0 q ();rw[bR]at f y;show codeAny_builtin V_ ?_;rw[XF yq _];change wpAny _ A.in1 (pyNext (.ref I)>>=_) _ _ s;show aZ<|Ys (x:=.ref b) hit G (O:) λQ F a=>?_;let W:IsTup Q b<|bS #[u,q.2]:=C.extBut a.extBut P;let X:Q.IsList l items:=G.extBut a.extBut r;let hm1:Q.DictOf (fQ prog w) S acc:=J.extBut a.extBut d;let[o,ho,hc,n,hd]:=id W;change wpAny _ A.in1 (holding #[cY b] _>>=_) _ _ _;show aZ<|zh ?_;show aZ<|wpAny_tryCatch ?_;unfold Builtin.Dict.pairItems;show aZ<|wpAny_typeOf (T:="tuple") [o,ho,hc] ?_;rw[aab<|by first|decide|rfl|simp];show aZ<|tN ho hd<|cZ ?_;change wpAny _ A.in1 (holding #[u,q.2]<|dictSet S u q.2) _ _ _;show zh<|wpAny_dictSet_pairs (knd:=fQ prog w) (k:=q.1) hk hm1 (λh2 hm2 g=>?_) @o_;show cZ [CY yq _,Wc (items:=items) hh r d v rest (i+1) (stored acc q.1 q.2) (ix+1) 0 _ (show items.size=i+1+rest.length by lia) ?_ (λj q' e=>?_) ?_ ?_ hm2 λh' tk Mj k=>?_];{let z:=stored_length_le acc q.1 q.2;lia};{let[b',u',EJ,h,m,p,hk']:=H (j+1) q' (e:);show [b',u',?_,h,m,(p.extBut a.extBut m).extBut g.extBut h,hk'];rw[show i+1+j=i+(j+1)by lia];show EJ};{show F.at λo' e=>g.extBut I o' (Ne.symm d) e};{show X.extBut g.extBut<|Ne.symm v};show M h' tk Mj λc oc h3 h4 e=>k c oc h3 h4<|g.extBut c oc h3<|a.extBut c oc h4 e
def Zs(P:A.handled=Z)(hl:s.heap.get? l=B m)(G:m.cls=.type "list")(hd:m.dict=Z)(g:m.data=.seq items n)(hsz:items.size=iA.length)(H:iA.length<=sizeLine)(X:∀(j:Nat)(q:Key×ae),iA[j]?=B q->∃(b:aa) (u:ae),items[j]?=B (.ref b)/\IsTup s.heap b (bS #[u,q.2])/\oY q.1 u=Y)(h:∀h' tk,h'.DictOf (fQ prog w) ↑s (merged [] iA)->(∀b o,s.heap.get? b=B o->h'.get? b=B o)->Q (.ref ↑s) {s with heap:=h',toks:=tk}):wpAny @l_ A (call (.type "dict") #[.ref l]) Q E s:=by{
show callType_codes (Q₁:=λobj i=>obj=.ref ↑s/\i={s with heap:=s.heap.push {cls:=.type "dict",data:=.dict #[]}}) PySem.F.kt_called_dict (PySem.F.kt_typeCall_dict_1 _) PySem.F.entry_dict_init (kt_code_dict_new _ [(),()]) ?_;rintro obj i ⟨rfl,rfl⟩;let a:(s.heap.push {cls:=.type "dict",data:=.dict #[]}).DictOf (fQ prog w) ↑s []:=X3 s.heap;let t:∀b o,s.heap.get? b=B o->(s.heap.push {cls:=.type "dict",data:=.dict #[]}).get? b=B o:=λb o e=>dh _ e;show [a.typeIs,PySem.F.args_dict_init_2 _ _,?_];unfold Builtin.«dict.__init__»;show aZ ?_;unfold Builtin.Dict.selfAndRest;show aZ<|wpAny_notOrdered_dict a.typeIs ?_;change wpAny _ _ (pure (↑s,#[cY l])) _ _ _;show cZ ?_;change wpAny _ _ (XG "dict.__init__" ↑s (.ref l) [] .none) _ _ _;unfold XG;show aZ<|wpAny_typeOf (T:="list") [m,t _ _ hl,G] ?_;rw[aab<|by first|decide|rfl|simp];show aZ<|aga (t _ _ hl) G g hd P λp J d=>?_;rw[aab (show(Z:Option ae).isNone=Y from())];show aZ<|C7 ?_;let v:p.IsList l items:=[m,d _ _<|t _ _ hl,G,n,g];let f:↑s<p.objs.size:=by let e:(s.heap.push {cls:=.type "dict",data:=.dict #[]}).get? ↑s=B {cls:=.type "dict",data:=.dict #[]}:=f6 _ ();show cv<|d _ _ e
show aZ<|C5 v ?_;let C:∀b o,p.get? b=B o->(p.push {cls:=.type "list_iterator",data:=.fields<|bS #[.ref l,.int 0 0]}).get? b=B o:=λb o e=>dh _ e;let x:l<↑s:=cv hl;let key:=Wc (prog:=prog) (w:=w) (A:=A.in1) (R:=wants (λr y=>r=.none/\Q (.ref ↑s) y) E) (S:=↑s) (I:=p.objs.size) (l:=l) (items:=items) (res:=Value.none) P
 (fk<|Cz x f) (fk f) (p6 x) iA 0 [] 0 0
 {s with heap:=p.push {cls:=.type "list_iterator",data:=.fields (bS #[.ref l,.int 0 0])},toks:=J} (by rw[hsz,vJ]) (by rw[iY,vJ];show H)
 (λj q e=>by let[b,u,e1,W,e3]:=X j q e;let O:b<↑s:=W.lt;show [b,u,by rw[vJ];show e1,fk O,fk<|Cz O f,W.keeps λc o z=>C _ _<|d _ _<|t _ _ z,e3])
 [_,f6 _ (),(),()] (v.at λo e=>C _ _ e) ((a.at λo e=>d _ _ e).at λo e=>C _ _ e)
 (λh' tk M k=>[(),h h' tk M λb o e=>k b o (fk<|cv e) (fk<|Cz (cv e) f)<|C _ _<|d _ _<|t _ _ e])
first
 |show cZ [CY yq _,key]
 |show aZ<|cZ<|cZ [CY yq _,key]}
end
section
variable{X:Cx}
def Oy(I:Inv X pins d H s):∀{ps:List aa}{kvs:List<|Key×V},Paired (λp c=>cP X.K H p #[kV c.1,c.2]) ps kvs->∃iA:List<|Key×ae,KV kvs iA/\iA.length=ps.length/\∀(j:Nat)(q:Key×ae),iA[j]?=B q->∃(b:aa) (u:ae),ps[j]?=B b/\IsTup s.heap b (bS #[u,q.2])/\oY q.1 u=Y|_,_,.nil=>[[],.nil,(),λj q e=>by simp at e]|_,_,.cons (a:=p) (b:=c) h t=>by let[iA,r,f,g]:=Oy I t;let[i,l,m,_]:=I.tuple h;let[u,y,n,o,v]:=vals2 l;subst n;show [(c.1,y)::iA,.cons [(),v] r,by rw[bR,bR,f],λj q e=>?_];cases j with|zero=>let x:(c.1,y)=q:=eg e;subst x;show [p,u,(),m,nE (P:=X.prog) (w:=X.w) o]|succ j=>let[b,z,A,C,E]:=g j q (e:);show [b,z,(A:),C,E]
def PH:∀{ps:List aa}{us:List ae},bq (ps.map V.ref) us->us=ps.map cY|[],us,r=>by rw[tp]at r;cases r;rfl|p::ps,us,r=>by rw[cC]at r;cases r with|cons h t=>cases h;rw[cC,<-PH t]
def Zr(c:X.calm=Y):gE X (.type "dict") (λxs H Q=>∃(a:aa) (ps:List aa) (kvs:List<|Key×V),xs=#[.ref a]/\bE X.K H a (ps.map V.ref)/\Paired (λp l=>cP X.K H p #[kV l.1,l.2]) ps kvs/\∀p,H p=Z->Q (.ref p) (upd H p<|.dK<|kN [] kvs)):=by intro m s σ H xs us Q I r q;let[a,ps,kvs,t,v,x,q]:=q;subst t;let[u,y,z]:=vals1 r;subst y;cases z;let[A,C,E,f]:=I.list v;let F:=PH C;subst F;rw[aP]at f;let[iA,rel,g,h]:=Oy I x;let[o,n,G,J,hd,d]:=E;show Zs (iA:=iA) (I.ok.hd c) G J hd d (by simp[g]) (by rw[g];show f) (λj M e=>?_) λh' P i k=>?_;{let[b,u,T,W,e3]:=h j M e;show [b,u,by simp[T],W,e3]};let hm:(↑s==sysModules)=ag:=aaR.mpr<|p6 I.Kz;let hlen:(kN [] kvs).length<=sizeLine:=(by show cu (Ny kvs []) ?_;rw[iY,vJ,rel.length,g];show f);show [.ref ↑s,upd H ↑s<|.dK<|kN [] kvs,I.laid (t':=P) k (bD _) (show eL X.prog X.w _ _ _ (.dK<|kN [] kvs)from[hlen,hm,merged [] iA,KV.merge rel .nil,i]),(),q _<|I.bx.fresh<|bD _]
end
section
variable{X:Cx}{pins:List<|aa×Obj}{σ:St}{H:Hp}{s:ak}{h':a8}
theorem Inv.V6{t':Nat}{ch:List aa}(I:Inv X pins σ H s)(k:∀b o,b∉ch->s.heap.get? b=B o->h'.get? b=B o)(d:∀b∈ch,la X pins H b):Inv X pins σ H {s with heap:=h',toks:=t'}:=by{
let f:∀b u,H b=B u->b∉ch:=λb u e z=>by let q:=(d b z).1;rw[q]at e;cases e
show I.step (g':=s.gens) (d':=s.drawn) (ch:=ch) (λb O=>[(d b O).2.2.2.1,(d b O).2.1,(d b O).2.2.2.2.1,(d b O).2.2.2.2.2]) (λb o _ _ a e _=>k b o a e) (λb o _ _ a e _=>[o.slots,k b o a e])
 (λ_ _ _ _ n=>n) (λb o a e=>[o,k b o a e]) (λ_ _ e=>e) (λ_ _ _ e=>e) (λb l e=>[#[],by rw[e];simp]) (λm g=>?_) (λb u e=>?_) I.bare
.let[o,h,i,j,r]:=g;show [o,h,i,k _ o (λz=>(d _ z).2.1 rfl) j,r]
show(I.bx b u e).qL (λc v a q=>k c v ?_ q) (λ_ q=>q) λ_ _ q=>q;rcases a with z|z
.rw[z];show f b u e
show f c _ z}
theorem Inv.Ir{t':Nat}{ch:List aa}{T:aa}{h:HO}(I:Inv X pins σ H s)(k:∀b o,b∉ch->s.heap.get? b=B o->h'.get? b=B o)(d:∀b∈ch,la X pins H b)(i:↑s<=T)(new:eL X.prog X.w (upd H T h) h' T h):Inv X pins σ (upd H T h) {s with heap:=h',toks:=t'}:=by{
let f:H T=Z:=I.bx.fresh i;let g:∀b u,H b=B u->b∉ch:=λb u e z=>by let q:=(d b z).1;rw[q]at e;cases e
show I.step (g':=s.gens) (d':=s.drawn) (ch:=ch) (λb O=>[(d b O).2.2.2.1,(d b O).2.1,(d b O).2.2.2.2.1,(d b O).2.2.2.2.2]) (λb o _ _ a e _=>k b o a e) (λb o _ _ a e _=>[o.slots,k b o a e])
 (λb o _ e n=>?_) (λb o a e=>[o,k b o a e]) (λb j e=>?_) (λb o u e=>?_) (λb y e=>[#[],?_]) (λm l=>?_) (λb u e=>?_) I.bare
.rw[cJ<|fk<|gV (cv e) i];show n
.rw[cJ<|jy e f];show e
.rw[cJ<|jy e f];show e
.rw[cJ<|jy e f,e];simp
.let[o,p,t,x,r]:=l;show [o,p,t,k _ o (λz=>(d _ z).2.1 rfl) x,r]
by_cases O:b=T;{subst O;rw[fI]at e;cases e;show new};rw[cJ O]at e;show(I.bx b u e).qL (λc v a q=>k c v ?_ q) (λc q=>by rw[cJ<|jy q f];show q) λc j q=>by rw[cJ<|jy q f];show q
rcases a with z|z
.rw[z];show g b u e
show g c _ z}
end
section
variable{X:Cx}
theorem F8{c:aw}{pins:List<|aa×Obj}{d:St}{H:Hp}{s:ak}{R:It->Hp->Prop}{J:It}{a:Nat->a8->Prop}{tk:Nat}(I:Inv X pins d H s)(o:Obj)(T:Turn X.prog X.w X.K c J #[↑s] ↑s a)(st:a 0<|s.heap.push o)(q:R J H):Di X pins d c R (.ref ↑s) {s with heap:=s.heap.push o,toks:=tk}:=by show [↑s,#[↑s],a,J,H,(),I.kept λb f e=>dh _ e,T,st,λb O=>?_,q];let e:b=↑s:=(O:);subst e;show I.oS (bD _)<|I.bx.fresh<|bD _
end
def zt(lo c:Int)(n:Nat):It:=[λi _=>i<n,λi H x a=>a=H/\x=.int (lo+(i:Nat)*c),λi _=>n<=i]
theorem ak9{P:bU}{w:bj}{K:aR}{M:aw}(a:aa)(lo c:Int)(n:Nat):Turn P w K M (zt lo c n) #[a] a (λi h=>CP h a (lo+(i:Nat)*c) ((n:Int)-(i:Nat)) c) where
 mem:=by simp
 obj:=λi h st b O=>by let e:b=a:=(O:);subst e;show [_,st,λv z=>nomatch z]
 keep:=λi h g st k=>k a @s_ _ st
 item:=by intro X l m p q i d s G H E I j st r;subst l m p;let[u,x,T,y,C,F]:=j a @s_;let W:=Walks.range (prog:=X.prog) (w:=X.w) (I.ok.hd q) a lo c n;show W.item i s _ _ r st λv g J hv f kk=>?_;let[t,rfl]:=hv;let I1:Inv X d G H {s with heap:=g,toks:=J}:=I.turned (λb o O e=>kk b o (O:) e) u x y C F;show [_,(),wY (s:={s with heap:=g,toks:=J}) (n:="range_iterator") f () rfl @d_ [.int<|lo+(i:Nat)*c,H,I1,[t,()],[(),()],f,λb O=>(j b O).1]]
 done:=by intro X l m p q i d s G H E I j st r;subst l m p;let[u,x,T,y,C,F]:=j a @s_;show Yt (I.ok.hd q) st (by let:n<=i:=r;lia) λg eb=>[(),I.turned (t':=s.toks) (λb o O e=>eb b o O e) u x y C F]
 self:=λA i s Q E st h=>Yq st h
def Dk(i j c:Int)(n:Nat):Prop:=c≠0/\c.natAbs<1073741824/\XH i j c=Y/\y3 i j c=n
def w9(ta:TA):TI:=λa H R=>ta a H λb d=>∃(i j c:Int) (n:Nat),b=#[.int i,.int j,.int c]/\Dk i j c n/\R (zt i c n) d
section
variable{X:Cx}{tg:aw}
theorem aiL{a b c:aw}{ta:TA}{p pos:Pos}(w:Gl X "range")(x:X.mg "range"=Z)(y:PA X #[a,b,c] ta)(z:starEach #[a,b,c] X.env=(ag,eval a X.env)::starEach #[b,c] X.env:=by rfl)(l:(backTo pos<|starEach #[b,c] X.env).any (·.1)=ag:=by rfl):PI X tg (.Call (.Name "range" p) #[a,b,c] [] pos) (w9 ta):=by intro d s v H R I h;show Call_<|uq I w x boot_range<|y2 (bz (y pos d s v H _ I h) λW g ⟨vs,A,C,r1,q1⟩=>?_) z l;let[i,j,k,n,e,[E,F,G,J],q]:=q1;subst e;cases r1 with|cons r f=>cases f with|cons M f=>cases f with|cons m f=>cases f;let[t,rfl]:=r;let[t',rfl]:=M;let[u,rfl]:=m;show call_range_3 E ?_<|.inl<|XD F;show wpAny_pyIter_range (X5 ..) G ?_;let P:Inv X d v A {g with heap:=g.heap.push {cls:=.type "range",data:=.fields (bS #[.int i t,.int j t',.int k u])}}:=C.kept (t':=g.toks) λb o e=>dh _ e;show F8 (tk:=g.toks) P _ (ak9 _ i k n) ?_ q;let Q:i+((0:Nat):Int)*k=i:=@s_;let T:(n:Int)-((0:Nat):Int)=y3 i j k:=(by rw[J];simp);change CP _ _ (i+((0:Nat):Int)*k) ((n:Int)-((0:Nat):Int)) k;rw[Q,T];show f6 _ ()
end
def Kk(x:Str):It:=[λi _=>i<x.cps.size,λi H v a=>a=H/\∃c,x.cps[i]?=B c/\v=.str [(bS #[c])],λi _=>x.cps.size<=i]
theorem V5{P:bU}{w:bj}{K:aR}{tg:aw}(a:aa)(x:Str)(t:Tok)(j:String)(f:j="str_ascii_iterator"\/j="str_iterator"):Turn P w K tg (Kk x) #[a] a (λi h=>h.IsStrIter a j x t i) where
 mem:=by simp
 obj:=λi h st b O=>by let e:b=a:=(O:);subst e;let[o,e,c,d]:=st;show [o,e,λv z=>by rw[d]at z;cases z]
 keep:=λi h l st k=>let⟨o,ho,r⟩:=st;[o,k a @s_ o ho,r]
 item:=by
  intro X J M T m i g s σ H E I p st hg;subst J M T;let[q,y,f2,C,F,G]:=p a @s_;let W:Walks X.prog X.w X.A a #[a] #[a] x.cps.size (SignAt x) λi h=>h.IsStrIter a j x t i:=by
   rcases f with e|e
   .rw[e];show Walks.strAscii (I.ok.hd m) a x t
   .rw[e];show Walks.strWide (I.ok.hd m) a x t
  let hno:#["enumerate","zip","dict_itemiterator","dict_reverseitemiterator","odict_iterator","itertools.zip_longest","itertools.pairwise"].contains j=ag:=by
   rcases f with e|e
   .rw[e];decide
   .rw[e];decide
  show W.item i s _ _ hg st λv l tk hv n kk=>?_;let[c,u,hcx,rfl]:=hv;let I1:Inv X g σ H {s with heap:=l,toks:=tk}:=I.turned (λb o O e=>kk b o (O:) e) q y C F G;let[oi,e,cc,dd]:=id n;show [_,(),wY (s:={s with heap:=l,toks:=tk}) e cc dd hno [.str [(bS #[c])],H,I1,[u,()],[(),c,hcx,()],n,λb O=>(p b O).1]]
 done:=by
  intro X J M T m i g s σ H E I p st hg;subst J M T;let[q,y,f2,C,F,G]:=p a @s_;let hx:x.cps[i]?=Z:=WI hg;rcases f with e|e
  .rw[e]at st;show wpAny_pyNext_ascii_end (I.ok.hd m) st hx λl eb=>[(),I.turned (t':=s.toks) (λb o O e=>eb b o O e) q y C F G]
  .rw[e]at st;show wpAny_pyNext_wide_end (I.ok.hd m) st hx λl eb=>[(),I.turned (t':=s.toks) (λb o O e=>eb b o O e) q y C F G]
 self:=λA i s Q E st h=>by
  rcases f with e|e
  .rw[e]at st;show wpAny_pyIter_striter_ascii st h
  .rw[e]at st;show wpAny_pyIter_striter_wide st h
def Kj(K:aR)(a:aa):It:=[λi H=>∃(b:List V) (x:V),bE K H a b/\b[i]?=B x,λi H v c=>∃T x,v=.ref T/\H T=Z/\c=upd H T (.tup #[.int (i:Nat),x])/\∀b,bE K H a b->b[i]?=B x,λi H=>∃b:List V,bE K H a b/\b.length<=i]
theorem ak6{P:bU}{w:bj}{K:aR}{elts:List aw}{kk:Nat}{l:Pos}(a e d:aa):Turn P w K (.Tuple elts kk l) (Kj K a) #[e,d] e (λi h=>(∃old,IsEnum h e d ((i:Nat):Int) old)/\h.IsListIter d a i/\e≠d) where
 mem:=by simp
 obj:=λi h st b O=>by
  let[[old,f],[o,y,C,hd],_]:=st;let F:b=e\/b=d:=(O:);rcases F with z|z
  .rw[z];show [_,f,λv q=>nomatch q]
  .rw[z];show [o,y,λv q=>by rw[hd]at q;cases q]
 keep:=λi h G st k=>let⟨⟨old,f⟩,hi,c⟩:=st;[[old,k e @s_ _ f],hi.at λo q=>k d @s_ o q,c]
 item:=by
  intro X J M T C i g s σ H E I r st hg;subst J M T;let[[old,f],hit,c]:=st;let[xs,x,t,hx]:=hg;let[h8,rv,p,hz]:=I.list t;let[u,hu,ru]:=rv.get hx;let m:e<↑s:=cv f;let hil:d<↑s:=by let[_,q,_]:=hit;show cv q
  show wpAny_pyNext_enum_item f hit p.isList (x:=u) (hu:) c λG y n hT hsz hk=>?_;show [_,(),wpAny_letOwnedTupleGo_enum (s:={s with heap:=G,toks:=s.toks+1}) y λj he' sb=>?_];let wZ:j.get? ↑s=B {cls:=.type "tuple",data:=.seq<|bS #[.int i s.toks,u]}:=(sb.2 _<|p6 m).trans hT;let new:eL X.prog X.w (upd H ↑s<|.tup #[.int (i:Nat),x]) j ↑s<|.tup #[.int (i:Nat),x]:=
   [by change 2<=sizeLine;decide,#[.int i s.toks,u],.cons [_,()]<|.cons ru .nil,[_,wZ,(),_,()]]
  let I1:Inv X g σ (upd H ↑s<|.tup #[.int (i:Nat),x]) {s with heap:=j,toks:=s.toks+1}:=
   I.Ir (ch:=#[e,d]) (λb ob O q=>(sb.2 b λz=>O<|by simp[z]).trans<|hk b ob (λz=>O<|by simp[z]) (λz=>O<|by simp[z]) q) r (bD _) new
  show [.ref ↑s,_,I1,(),[_,x,(),I.bx.fresh<|bD _,(),λys hy=>by rw[I.xn hy t];show hx],[[u,?_],n.at λo q=>(sb.2 d<|Ne.symm c).trans q,c],λb O=>?_]
  .let e1:((i+1:Nat):Int)=(i:Int)+1:=by lia
   rw[e1];show he'
  .let EJ:b<↑s:=by
    let F:b=e\/b=d:=(O:);rcases F with z|z
    .rw[z];show m
    .rw[z];show hil
   rw[cJ<|fk EJ];show(r b O).1
 done:=by intro X J M T C i g s σ H E I r st hg;subst J M T;let[[old,f],hit,c]:=st;let[xs,t,hx]:=hg;let[h8,rv,p,hz]:=I.list t;let[f0,f1,f2,f3,f4,f5]:=r d @s_;let hl:=rv.length;show wpAny_pyNext_enum_end (I.ok.hd C) f hit p.isList @m_ λG eb=>[(),I.turned (t':=s.toks) (λb o O q=>eb b o O q) f0 f1 f3 f4 f5]
 self:=λA i s Q E st h=>let⟨⟨_,f⟩,_⟩:=st;wpAny_pyIter_enum f h
def i_(K:aR)(ta:TA):TI:=λc H R=>ta c H λd b=>∃a e,d=#[.ref a]/\bE K b a e/\R (Kj K a) b
theorem aiJ{X:Cx}{e:aw}{ta:TA}{p pos f:Pos}{elts:List aw}{m:Nat}(n:Gl X "enumerate")(o:X.mg "enumerate"=Z)(t:PA X #[e] ta)(u:starEach #[e] X.env=#[(ag,eval e X.env)]:=by rfl):PI X (.Tuple elts m f) (.Call (.Name "enumerate" p) #[e] [] pos) (i_ X.K ta):=by intro d s i H R I h;show Call_<|uq I n o boot_enumerate<|y2 (bz (t pos d s i H _ I h) λM c ⟨P,j,g,r1,q1⟩=>?_) u ();let[a,Q,v,w,q]:=q1;subst v;cases r1 with|cons r x=>cases x;cases r;let[y,T,A,W]:=g.list w;show call_enumerate_list A.isList λC l hit E F=>wpAny_pyIter_enum l ?_;let G:Inv X d i j {c with heap:=C}:=g.kept (t':=c.toks) F;show [↑c+1,#[↑c+1,↑c],_,_,j,(),G,ak6 a (↑c+1) ↑c,[[.none,l],hit,Xx _],λb O=>?_,q];let J:b=↑c+1\/b=↑c:=(O:);let hle:↑c<=b:=(by(rcases J with z|z);{rw[z];show ox _ _};rw[z];show bD _);show g.oS hle<|g.bx.fresh hle
def Zg:bootBuiltins "zip"=B (.type "zip"):=by decide+kernel
def Kl(K:aR)(a b:aa):It:=[λi H=>∃(c d:List V) (x y:V),bE K H a c/\bE K H b d/\c[i]?=B x/\d[i]?=B y,λi H v e=>∃T x y,v=.ref T/\H T=Z/\e=upd H T (.tup #[x,y])/\(∀c,bE K H a c->c[i]?=B x)/\∀d,bE K H b d->d[i]?=B y,λi H=>∃c d:List V,bE K H a c/\bE K H b d/\(c.length<=i\/d.length<=i)]
theorem ala{P:bU}{w:bj}{K:aR}{elts:List aw}{kk:Nat}{BY:Pos}{a b z TI TO j m:aa}(d:ZipApart z TI TO j m a b):Turn P w K (.Tuple elts kk BY) (Kl K a b) #[z,TI,TO,j,m] z (λi h=>p8 h z TI TO .none/\gD h TI (.ref j) (.ref m)/\(∃x y,gD h TO x y)/\h.IsListIter j a i/\h.IsListIter m b i) where
 mem:=by simp
 obj:=λi h st c hc=>by
  let[t,e,[x,y,f],[o1,e1,_,d1],[o2,e2,_,d2]]:=st;let e':c=z\/c=TI\/c=TO\/c=j\/c=m:=(hc:);rcases e' with q|q|q|q|q
  .rw[q];show [_,t,λv q=>nomatch q]
  .rw[q];show [_,e,λv q=>nomatch q]
  .rw[q];show [_,f,λv q=>nomatch q]
  .rw[q];show [o1,e1,λv q=>by rw[d1]at q;cases q]
  .rw[q];show [o2,e2,λv q=>by rw[d2]at q;cases q]
 keep:=λi h h' st k=>by let[t,e,[x,y,f],M,T]:=st;show [k z @s_ _ t,k TI @s_ _ e,[x,y,k TO @s_ _ f],M.at λo q=>k j @s_ o q,T.at λo q=>k m @s_ o q]
 item:=by
  intro X hP hw hK hc i C s σ H E I hf st hg;subst hP hw hK;let[t,e,[x0,y0,f],M,T]:=st;let[xs,ys,x,y,n,r,hx,hy]:=hg;let[h8,rv,p,_]:=I.list n;let[F,G,p2,_]:=I.list r;let[u,hu,ru]:=rv.get hx;let[u2,ET,GY]:=G.get hy;let w8:z<↑s:=cv t;show wpAny_pyNext_zip_item d t e f M T p.isList p2.isList (x:=u) (y:=u2) (hu:) (ET:) λh' z' Dn kK EG hT hsz hk=>?_;show [_,(),Yo (s:={s with heap:=h'}) z' λJ IJ sb=>?_];let wZ:J.get? ↑s=B {cls:=.type "tuple",data:=.seq<|bS #[u,u2]}:=(sb.2 _<|p6 w8).trans hT;let new:eL X.prog X.w (upd H ↑s<|.tup #[x,y]) J ↑s<|.tup #[x,y]:=
   [by change 2<=sizeLine;decide,#[u,u2],.cons ru<|.cons GY .nil,[_,wZ,(),_,()]]
  let I1:Inv X C σ (upd H ↑s<|.tup #[x,y]) {s with heap:=J}:=
   I.Ir (t':=s.toks) (ch:=#[z,TI,TO,j,m]) (λc o O q=>(sb.2 c λg=>O<|by simp[g]).trans<|hk c o (λg=>O<|by simp[g]) (λg=>O<|by simp[g]) (λg=>O<|by simp[g]) (λg=>O<|by simp[g]) q) hf (bD _) new
  show [.ref ↑s,_,I1,(),[_,x,y,(),I.bx.fresh<|bD _,(),λl hl=>by rw[I.xn hl n];show hx,λl hl=>by rw[I.xn hl r];show hy],[IJ,?_,[u,u2,?_],?_,?_],λc w4=>?_]
  .show(sb.2 _ d.TIz).trans<|hk _ _ d.TIz d.TITO d.TIi1 d.TIi2 e
  .show(sb.2 _ d.TOz).trans Dn
  .show kK.at λo q=>(sb.2 _ d.i1z).trans q
  .show EG.at λo q=>(sb.2 _ d.i2z).trans q
  .let ma:c<↑s:=by
    let e':c=z\/c=TI\/c=TO\/c=j\/c=m:=(w4:);rcases e' with q|q|q|q|q
    .rw[q];show w8
    .rw[q];show cv e
    .rw[q];show cv f
    .rw[q];let[_,e1,_]:=M;show cv e1
    .rw[q];let[_,e2,_]:=T;show cv e2
   rw[cJ<|fk ma];show(hf c w4).1
 done:=by
  intro X hP hw hK hc i C s σ H E I hf st hg;subst hP hw hK;let[t,e,[x0,y0,f],M,T]:=st;let[xs,ys,n,r,EL]:=hg;let[h8,rv,p,_]:=I.list n;let[F,G,p2,_]:=I.list r;let l1:=rv.length;let l2:=G.length;let he:h8.toArray[i]?=Z\/F.toArray[i]?=Z:=by
   rcases EL with q|q
   .show .inl @m_
   .show .inr @m_
  show wpAny_pyNext_zip_end (I.ok.hd hc) d t e f M T p.isList p2.isList he λh' hk=>[(),I.V6 (t':=s.toks) (ch:=#[z,TI,TO,j,m]) (λc o O q=>hk c o (λg=>O<|by simp[g]) (λg=>O<|by simp[g]) (λg=>O<|by simp[g]) (λg=>O<|by simp[g]) q) hf]
 self:=λA i s Q E st h=>C6 st.1 h
end L2
section
end
section
namespace TL
open PySem PySem.Builtin PySem.Builtin.Str PySem.StrLaws
def pre(S l:List Nat):Bool:=l.take S.length==S
def par(S:List Nat):List Nat->List Nat->Option (List Nat×List Nat)|_,[]=>Z|acc,c::r=>if pre S (c::r)=Y then B (acc,(c::r).drop S.length)else par S (acc++#[c]) r
def Eh:∀d:Nat,d<10->(Nat.digitChar d).toNat=48+d:=by decide
end TL
end
namespace L2
open PySem PySem.Spec PyProof.Rows
def Wj:∀l:List<|Str×Tok,bq ((l.map (·.1)).map V.str) (strValues l)|[]=>.nil|p::r=>.cons [p.2,()]<|Wj r
def Ih:∀{ys:List Str}{us:List ae},bq (ys.map V.str) us->StrsAre us ys|[],_,.nil=>.nil|y::ys,_,.cons r t=>by let[k,rfl]:=r;show .cons y k<|Ih t
def GI(ys:List Str):Hp->VK->Prop:=λH Q=>∀p,H p=Z->Q (.ref p) (upd H p<|.lst<|ys.map V.str)
section
variable{X:Cx}{pins:List<|aa×Obj}{σ:St}{H:Hp}{s:ak}{Q:VK}
def Fe(I:Inv X pins σ H s)(e:l.map (·.1)=ys)(a:ys.length<=sizeLine)(h:GI ys H Q):EP X pins σ Q (.ref ↑s) {s with toks:=k,heap:=s.heap.push {cls:=.type "list",data:=.seq (strValues l).toArray}}:=by let c:=I.bx.fresh<|bD _;show [.ref ↑s,upd H ↑s<|.lst<|ys.map V.str,I.laid (λb u q=>dh _ q) (bD _) [by rw[aP];show a,strValues l,_,?_,f6 _ ()],(),h _ c];rw[<-e];show Wj l
end
section
variable{X:Cx}
def agp:jI X "str.split" λx xs H Q=>∃a b,x=.str a/\xs=#[.str b]/\(b.length==0)=ag/\a.length+2<=sizeLine/\GI (Txt.split a b) H Q:=by intro d s i H x xs v o Q I j f h;let[a,b,rfl,rfl,O,m,h]:=h;let[t,rfl]:=j;cases f with|cons r1 f=>cases f;let[u,rfl]:=r1;let g:(Txt.split a b).length<=sizeLine:=cu (PyProof.Rows.split_le a b) m;let n:(XJ a (JA a b 0 a.length<|a.length+1) b.length).length<=sizeLine:=(by let p:=StrLaws.occ_length_le a b 0 a.length<|a.length+1;rw[length_partsBetween];lia);cases c:(~~~(a.length<b.length)||~~~(XM a<XM b));{cases e:(JA a b 0 a.length (a.length+1)).isEmpty;{show qe CM (tM _ _ _) JH (JG _ _) (meets_str_split_sep a b t u c O e @o_ n) ?_;change EP X d i Q (.ref ↑s) {s with toks:=_,heap:=s.heap.push {cls:=.type "list",data:=.seq (strsFrom s.toks (XJ a (JA a b 0 a.length (a.length+1)) b.length)).toArray}};rw[strsFrom_eq];show Fe (ys:=Txt.split a b) I ((numbered_texts _ _).trans ((aaa<|abH c).trans<|aaa<|abH e).symm) g h};show qe CM (tM _ _ _) JH (JG _ _) (meets_str_split_not_found a b t u c O e) ?_;show Fe (l:=#[(a,t)]) (ys:=Txt.split a b) (k:=s.toks) I ((aaa<|abH c).trans<|aab e).symm g h};show qe CM (tM _ _ _) JH (JG _ _) (meets_str_split_cannot_occur a b t u c) ?_;show Fe (l:=#[(a,t)]) (ys:=Txt.split a b) (k:=s.toks) I (aab c).symm g h
def agn:jI X "str.join" (λx xs H Q=>∃a p,∃ys:List Str,x=.str a/\xs=#[.ref p]/\(bE X.K H p (ys.map V.str)\/cP X.K H p (ys.map V.str))/\(ys.map (·.length)).sum+ys.length*a.length<=16777216/\Q (.str<|vV a ys) H):=by intro e s q H x xs v u Q I g c h;let[a,p,ys,rfl,rfl,hp,f,h]:=h;let[t,rfl]:=g;cases c with|cons r1 c=>(cases c;cases r1;rcases hp with hp|hp);{let[b,r,[o,n,i,j,_,l],_]:=I.list hp;show PyProof.Rows.join_list (items:=b.toArray) [o,i,j,n,l] (by rw[Cs];show Ih r) f λd k=>[.str _,H,I.tok k,[d,()],h]};let[b,r,m,_]:=I.tuple hp;show PyProof.Rows.join_tuple (items:=b.toArray) m (by rw[Cs];show Ih r) f λd k=>[.str _,H,I.tok k,[d,()],h]
theorem mt0{id:String}{C:Str->Prop}{g:Str->V}(rule:∀(a:Str)(t:Tok)(s:ak)(Q:ae->ak->Prop),C a->(∀(u:ae)(k:Nat),RelV (g a) u->Q u {s with toks:=k})->wpAny @c_ X.A (call (.builtin id) #[.str a t]) Q X.xe s):jI X id λx xs H Q=>∃a,x=.str a/\xs=[]/\C a/\Q (g a) H:=by intro b s f H x xs v i Q I c d h;let[a,rfl,rfl,e,h]:=h;let[t,rfl]:=c;cases d;show rule a t s _ e λu k r=>[g a,H,I.tok k,r,h]
theorem agm:jI X "str.isdigit" λx xs H Q=>∃a,x=.str a/\xs=[]/\True/\Q (.bl<|vU a) H:=mt0 (C:=λ_=>True) (g:=λa=>.bl<|vU a) λ_ _ s _ _ h=>PySem.SC.isdigit<|h _ s.toks ()
theorem NQ{id:String}{g:Str->Str->V}(rule:∀(a b:Str)(t u:Tok)(s:ak)(Q:ae->ak->Prop),(∀(v:ae)(k:Nat),RelV (g a b) v->Q v {s with toks:=k})->wpAny @c_ X.A (call (.builtin id) #[.str a t,.str b u]) Q X.xe s):jI X id λx xs H Q=>∃a b,x=.str a/\xs=#[.str b]/\Q (g a b) H:=by intro d s f H x xs v i Q I e c h;let[a,b,rfl,rfl,h]:=h;let[t,rfl]:=e;cases c with|cons r1 c=>cases c;let[u,rfl]:=r1;show rule a b t u s _ λv k r=>[g a b,H,I.tok k,r,h]
theorem agh:jI X "str.endswith" λx xs H Q=>∃a b,x=.str a/\xs=#[.str b]/\Q (.bl<|zb a b) H:=NQ (g:=λa b=>.bl<|zb a b) λ_ _ _ _ s _ h=>PySem.SC.endswith<|h _ s.toks ()
theorem agj:jI X "str.find" λx xs H Q=>∃a b,x=.str a/\xs=#[.str b]/\Q (.int<|vT a b) H:=NQ (g:=λa b=>.int<|vT a b) λ_ _ _ _ s _ h=>PySem.SC.find<|h _ (s.toks+1) [_,()]
def Zt:gE X (.type "int") λxs H Q=>∃a n,xs=#[.str a]/\Ym a=B n/\a.length<=640/\Q (.int n) H:=by intro c s f H xs g Q I b h;let[a,n,rfl,d,e,h]:=h;cases b with|cons r1 b=>cases b;let[t,rfl]:=r1;show PySem.W.KIN.call_text d e [.int n,H,I.tok _,[_,()],h]
end
section
variable{X:Cx}{o e:aw}{to te:TE}
def yl(r:V->List V->Hp->VK->Prop)(to:TE):TE:=λb H Q=>to b H λx c=>(∃a,x=.str a)/\r x [] c Q
def ks(r:V->List V->Hp->VK->Prop)(to te:TE):TE:=λb H Q=>to b H λx c=>(∃a,x=.str a)/\te b c λy d=>r x #[y] d Q
theorem aip{id:String}{name:Str}{apos pos:Pos}{r:V->List V->Hp->VK->Prop}(slot:Slot "str" name id)(g:typeOf (.builtin id)=pure (.type "method_descriptor"))(rule:jI X id r)(i:PE X o to)(c:attributeBase o name X.env (eval o X.env)=eval o X.env:=by rfl)(d:(apos.endLine==pos.line)=Y:=by rfl):PE X (.Call (.Attribute o name apos) [] [] pos)<|yl r to:=by intro b s f H Q I h;show PySem.Call_method0 c d<|bz (i b s f H _ I h) λv j ⟨x,l,m,r1,q1⟩=>?_;let[[a,rfl],q1]:=q1;let[t,rfl]:=_root_.id r1;show ["str",_,F.plainAttrs_str,slot,g,tM _ _ _,(λ_ e=>nomatch e),tL () (Yl<|rule b j f l _ [] _ [] Q m r1 .nil q1)]
theorem aiq{id:String}{name:Str}{apos pos:Pos}{r:V->List V->Hp->VK->Prop}(slot:Slot "str" name id)(g:typeOf (.builtin id)=pure (.type "method_descriptor"))(rule:jI X id r)(i:PE X o to)(j:PE X e te)(l:starEach #[e] X.env=#[(ag,eval e X.env)]:=by rfl)(c:attributeBase o name X.env (eval o X.env)=eval o X.env:=by rfl)(d:(apos.endLine==pos.line)=Y:=by rfl):PE X (.Call (.Attribute o name apos) #[e] [] pos) (ks r to te):=by intro b s f H Q I h;show PySem.Call_method1 c l d<|bz (i b s f H _ I h) λv m ⟨x,n,p,r1,q1⟩=>?_;let[[a,rfl],q1]:=q1;let[t,rfl]:=_root_.id r1;show ["str",_,F.plainAttrs_str,slot,g,tM _ _ _,(λ_ e=>nomatch e),tL () (y4<|CJ ?_)];show bz (j b m f n _ p q1) λu q ⟨y,w,z,r2,q2⟩=>JE<|rule b q f w _ #[y] _ #[u] Q z r1 (.cons r2 .nil) q2
end
def inClass(s:Stmt)(j:Nat):Stmt:=match s with|.ClassDef _ _ _ body _ _ _ _ _ _ _=>body.getD j (.Pass [0,0,0,0])|_=>.Pass [0,0,0,0]
def gY(s:Stmt):List Stmt:=match s with|.FunctionDef _ _ b _ _ _ _ _ _ _=>b|_=>[]
def eZ(s:Stmt):cB:=match s with|.FunctionDef _ _ _ _ _ _ a _ _ _=>a|_=>{kind:=.function,names:=[],isGenerator:=ag,isCoroutine:=ag}
def rY(h:a):if ag=Y then A else a:=by rw[aaa gT];show h
def rZ(h:A):if Y=Y then A else a:=by rw[aab ()];show h
def ba(H a:Hp):Prop:=∀b o,H b=B o->a b=B o
def ba.refl(H:Hp):ba H H:=λ_ _ h=>h
theorem ba.trans{H d e:Hp}(a:ba H d)(b:ba d e):ba H e:=λc o h=>b c o<|a c o h
def ba.free(e:ba H a)(h:a l=Z):H l=Z:=by cases q:H l with|none=>rfl|some o=>rw[e l o q]at h;cases h
theorem ba.seq{K:aR}{H b:Hp}{a:aa}{xs:List V}(e:ba H b)(h:bE K H a xs):bE K b a xs:=by{
rcases h with(h|⟨o,h⟩)|h
.show .inl<|.inl<|e _ _ h
.show .inl<|.inr [o,e _ _ h]
show .inr h}
def BO:∀{l:List Int}{i:Nat}{z:Int},l[i]?=B z->(l.take<|i+1).sum=(l.take i).sum+z
|[],i,z,h=>by simp at h|a::r,0,z,h=>by let e:a=z:=eg h;subst e;change (#[a]:List Int).sum=([]:List Int).sum+a;rw[oh];show Int.add_comm _ _
|a::r,i+1,z,h=>by let b:=BO (l:=r) (i:=i) (z:=z) h;change (a::r.take (i+1)).sum=(a::r.take i).sum+z;rw[oh,oh,b];lia
open PySem
structure m6 (F:aa->Prop) (a:aa) (cls:ae) (h:a8):Prop where
 obj:∃oe vs,h.get? a=B oe/\oe.cls=cls/\oe.data=.fields vs/\
  (vs[1]?=B .none\/∃T oT ts x,vs[1]?=B (.ref T)/\T≠a/\h.get? T=B oT/\oT.data=.fields ts/\ts[3]?=B x/\F T)
 free:F a
structure jr (fr ch:List aa) (h h':a8):Prop where
 keep:∀b o,b∉fr->b∉ch->h.get? b=B o->h'.get? b=B o
 slot:∀b o,b∉ch->h.get? b=B o->∃sl,h'.get? b=B {o with slots:=sl}
 there:∀b o,h.get? b=B o->∃o',h'.get? b=B o'
def jr.refl:jr fr ch h h:=[λ_ _ _ _ e=>e,λ_ o _ e=>[o.slots,e],λ_ o e=>[o,e]]
def jr.trans(a:jr fr ch h g)(b:jr fr ch g i):jr fr ch h i:=[λc o n m e=>b.keep c o n m<|a.keep c o n m e,λc o m e=>by let[p,d]:=a.slot c o m e;let[f,j]:=b.slot c _ m d;show [f,j],λc o e=>by let[l,d]:=a.there c o e;show b.there c l d]
def El(g:h.get? a=B o)(hd:o.data=.fields vs)(f:a∈ch):jr fr ch h (h.update a (j6 (·.setIfInBounds i x))):=by let c:∀b,b≠a->(h.update a (j6 (·.setIfInBounds i x))).get? b=h.get? b:=λb O=>lQ _ _<|Ne.symm O;show [λb d _ m e=>by rw[c b λz=>m<|z▸f];show e,λb d m e=>[d.slots,by rw[c b λz=>m<|z▸f];show e],λb d e=>?_];by_cases z:b=a;{subst z;show [_,oB _ g<|X7<|JN hd _]};show [d,by rw[c b z];show e]
def aaT(o:Obj):jr fr ch h<|h.push o:=[λ_ _ _ _ e=>dh _ e,λ_ a _ e=>[a.slots,dh _ e],λ_ a e=>[a,dh _ e]]
def aaU(x:X4 fr h h'):jr fr ch h h':=[λb o n _ e=>(x.2.1 b n).trans e,λb o _ e=>x.2.2 b o e,λb o e=>let⟨_,q⟩:=x.2.2 b o e;[_,q]]
section
variable{A:Around}{M:Model}{s:ak}{E:ae->ak->Prop}
def abv(d:A.frames=B (b::a))(hl:s.heap.FunFrames c<|b::a)(f:cenv.frame=b.frame)(g:b.frame=B L)(h:∀h',X4 ((b::a).filterMap (·.frame)) s.heap h'->Q (.ref L) {s with heap:=h'}):wpAny M A (frameOf cenv) Q E s:=by let e:J4 cenv=J4 b:=(by unfold J4;rw[f]);rw[e];show wpAny_frameOf_fun d hl g h
def LF(t:A.frames=B (e::d))(hl:s.heap.FunFrames m<|e::d)(u:cenv.frame=e.frame)(J:e.frame=B L)(P:s.heap.get? a=B n)(hd:n.data=.fields vs)(o:1<vs.size)(W:a∈ch)(h:∀h' T j p F G,jr ((e::d).filterMap (·.frame)) ch s.heap h'->h'.get? a=B j->j.cls=n.cls->j.data=.fields p->p[1]?=B (.ref T)->↑s<=T->h'.get? T=B F->F.data=.fields G->G[3]?=B (rawInt L)->Q fo {s with heap:=h'}):wpAny M A (do let X<-frameOf cenv;let q<-entryPlaceOf L f;let b<-XQ g X .none (rawInt L) .none q;setField (.ref a) 1 b) Q E s:=by show aZ<|abv t hl u J λr v=>?_;show aZ<|wpAny_entryPlaceOf λq w=>?_;let[sl,H]:=v.2.2 a n P;let[c,dd,dt,sl0]:=n;let hd:dt=.fields vs:=hd;subst hd;unfold XQ newFields;let I:=w.sizeOk5 g (.ref L) .none (rawInt L) .none;generalize y:(#[g,cY L,Value.none,rawInt L,Value.none]++(if q.isEmpty=Y then yK 6 Value.none else q))=l at I⊢;let h3:l.toArray[3]?=B (rawInt L):=(by rw[<-y];simp);show aZ<|wpAny_newObj_type (hd:=I) ?_;let z:=dh ({cls:=.type "traceback",data:=.fields l.toArray}:Obj) H;let C:a<r.objs.size:=cv H;let hE:jr ((e::d).filterMap (·.frame)) ch s.heap _:=((aaU v).trans<|aaT {cls:=.type "traceback",data:=.fields l.toArray}).trans<|El (i:=1) (x:=.ref r.objs.size) z () W;show oD z () o<|h _ r.objs.size _ (vs.setIfInBounds 1<|.ref r.objs.size) _ l.toArray hE (oB _ z ()) () rfl ?_ (tI v.1.symm) ((lQ _ _<|fk C).trans<|f6 _ ()) () h3;simp[o]
def Yu(a:aa)(h:a8):Prop:=∃b c T,h.get? a=B b/\b.data=.fields c/\c[1]?=B (cY T)
def AN(q:A.frames=B (d::c))(hl:s.heap.FunFrames j<|d::c)(m:cenv.frame=d.frame)(J:d.frame=B L)(e:m6 F a cls s.heap)(hF:∀b,↑s<=b->F b)(h:∀h' ch,(∀b∈ch,F b/\∃o vs,s.heap.get? b=B o/\o.data=.fields vs)->jr ((d::c).filterMap (·.frame)) ch s.heap h'->m6 F a cls h'->Yu a h'->Q fo {s with heap:=h'}):wpAny M A (noteFrame (.ref a) cenv) Q E s:=by{
let[C,vs,i,l,n,hh]:=e.obj;let P:cenv.frame=B L:=m.trans J;unfold noteFrame;simp only[P];rcases hh with p|⟨T,W,G,x,p,X,r,t,h3,EI⟩
.show aZ<|j7 i n p ?_;rw[aaa @d_];show LF (ch:=#[a]) q hl m J i n (yB.mp p).1 @s_ λh' T f g W G ef u e2 v w H e6 e7 e8=>?_;show h h' #[a] (λb O=>?_) ef [[f,g,u,e2.trans l,v,.inr [T,W,G,_,w,?_,e6,e7,e8,hF T H]],e.free] [f,g,T,u,v,w];{let:b=a:=(O:);subst this;show [e.free,C,vs,i,n]};show p6<|gV (cv i) H
show aZ<|j7 i n p ?_;rw[aab (by simp:(cY T !=Value.none)=Y)];show aZ<|j7 r t h3 ?_;by_cases hx:(x==rawInt L)=Y;{rw[aab hx];show cZ<|h s.heap [] (λb O=>by simp at O) .refl e [C,vs,T,i,n,p]};rw[aaa hx];show aZ<|oD r t (yB.mp h3).1 ?_;let Aa:jr ((d::c).filterMap (·.frame)) #[a,T] s.heap (s.heap.update T (j6 (·.setIfInBounds 3 Value.none))):=El r t @s_;let he2:(s.heap.update T (j6 (·.setIfInBounds 3 Value.none))).get? a=B C:=(lQ _ _ X).trans i;let hl2:(s.heap.update T (j6 (·.setIfInBounds 3 Value.none))).FunFrames j<|d::c:=hl.of_keeps λb o O nf=>[o,by rw[lQ _ _ λz=>by subst z;rw[r]at O;injection O with O;subst O;show nf G t];show O,()];show LF (s:={s with heap:=s.heap.update T (j6 (·.setIfInBounds 3 Value.none))}) (ch:=#[a,T]) q hl2 m J he2 n (yB.mp p).1 @s_ λh' I f g oT' ts' ef u e2 v w H e6 e7 e8=>?_;let y:↑s<=I:=by let z:(s.heap.update T (j6 (·.setIfInBounds 3 Value.none))).objs.size=↑s:=Heap.size_after_update ..;rw[<-z];show H
show h h' #[a,T] (λb O=>?_) (Aa.trans ef) [[f,g,u,e2.trans l,v,.inr [I,oT',ts',_,w,?_,e6,e7,e8,hF I y]],e.free] [f,g,I,u,v,w]
.let:b=a\/b=T:=(O:);rcases this with z|z<;>subst z
 {show [e.free,C,vs,i,n]};show [EI,W,G,r,t]
show p6<|gV (cv i) y}
def wU(c:m6 F a cls s.heap)(h:∀h' ch,(∀b∈ch,F b/\∃o vs,s.heap.get? b=B o/\o.data=.fields vs)->jr fr ch s.heap h'->m6 F a cls h'->Q fo {s with heap:=h'}):wpAny M A (setFlight (.ref a) f) Q E s:=by(let[q,vs,m,d,n,r]:=c.obj;unfold setFlight;rcases r with j|⟨T,t,u,x,j,e,l,g,p,i⟩);{show aZ<|j7 m n j ?_;rw[aaa @d_];show cZ<|h s.heap [] (λb O=>by simp at O) .refl c};show aZ<|j7 m n j ?_;rw[aab (by simp:(cY T !=Value.none)=Y)];show oD l g (yB.mp p).1<|h _ #[T] (λb O=>?_) (El l g @s_) [[q,vs,(lQ _ _ e).trans m,d,n,.inr [T,_,_,_,j,e,oB _ l<|X7<|JN g _,JN g _,by rw[Array.getElem?_setIfInBounds,aab (),aab (yB.mp p).1],i]],c.free];let:b=T:=(O:);subst this;show [i,t,u,l,g]
end
section
variable{X:Cx}{pins:List<|aa×Obj}{σ:List<|Option V}{H H':Hp}{s:ak}{h':a8}
theorem Inv.akz{g':Array y6}{t':Nat}{d':Drawn}{ch:List aa}(I:Inv X pins σ H s)(a:∀b∈ch,(b∈X.ex\/X.f_.heap.get? b=Z)/\b≠X.env.locals/\(∀x c,X.env.cells.lookup x=B c->c≠b)/\∀p∈X.pn++pins,p.1≠b)(keep:∀b o,b≠X.env.locals->b∉X.fs->b∉ch->s.heap.get? b=B o->H b=Z->h'.get? b=B o)(slot:∀b o,b≠X.env.locals->b∈X.fs->b∉ch->s.heap.get? b=B o->H b=Z->∃C,h'.get? b=B {o with slots:=C})(free:∀b o,b∉ch->s.heap.get? b=B o->H b=Z->H' b=Z)(there:∀b o,b∉ch->s.heap.get? b=B o->∃t,h'.get? b=B t)(mL:∀b xs,H b=B (.tup xs)->H' b=B (.tup xs))(acp:∀b o u,H b=B (.gK o u)->H' b=B (.gK o u))(mH:∀b ps,H b=B (.n8 ps)->∃more,H' b=B (.n8<|ps++more))(ns:∀m,s.heap.Ns X.env.locals m->h'.Ns X.env.locals m)(E:dO X.prog X.w H' h')(T:AllBare g'):Inv X pins σ H' {s with heap:=h',gens:=g',drawn:=d',toks:=t'}:=by{
let y:∀b o,X.f_.heap.get? b=B o->b≠X.env.locals:=λb o e=>fk<|gV (cv e) I.ok.above;let g:∀b o,X.f_.heap.get? b=B o->b∉X.ex->b∉ch:=λb o e hx O=>by(rcases(a b O).1 with z|z);{show hx z};rw[z]at e;cases e
let cellK:∀x c,X.env.cells.lookup x=B c->∀v,s.heap.IsCell c v->h'.IsCell c v:=λx c e v ⟨o,j,F⟩=>by let f:c∉ch:=λz=>(a c z).2.2.1 x c e ();by_cases J:c∈X.fs;{let[C,q]:=slot c o (I.oN x c e) J f j<|I.jw x c e;show [_,q,F]};show [o,keep c o (I.oN x c e) J f j<|I.jw x c e,F]
show [I.ok,I.os,T,[λb o e n O hx=>?_,λb o e n O hx=>?_,λb o e n hx=>?_,λb o e hx=>?_,λb xs e=>mL b xs<|I.base.mL b xs e,λb o xs e=>acp b o xs<|I.base.acp b o xs e,λb ps e=>?_],?_,λx c e=>?_,?_,λx c e=>?_,λp M=>?_,E,I.len];{show keep b o (y b o e) O (g b o e hx) (I.base.keep b o e n O hx)<|I.base.free b o e n hx};{let[C,h]:=I.base.slot b o e n O hx;let[G,A]:=slot b _ (y b o e) O (g b o e hx) h<|I.base.free b o e n hx;show [G,A]};{let[t,h]:=I.base.there b o e hx;show free b t (g b o e hx) h<|I.base.free b o e n hx};{let[t,h]:=I.base.there b o e hx;show there b t (g b o e hx) h};{let[W,h]:=I.base.mH b ps e;let[m2,A]:=mH b _ h;show [W++m2,by rw[A,WG]]}
.let[m,hn,hl]:=I.loc;show [m,ns m hn,λi x v h A e3=>?_];let[u,r,l]:=hl i x v h A e3;show [u,r,?_];rcases l with l|⟨k,c,e,z⟩
 {show .inl l};show .inr [k,c,e,cellK x c e _ z]
.let[v,z]:=I.cell x c e;show [v,cellK x c e v z]
.let[m,[o,_,_,j,_],_]:=I.loc;show free _ o (λz=>(a _ z).2.1 rfl) j I.free
.let[v,o,j,F]:=I.cell x c e;show free c o (λz=>(a c z).2.2.1 x c e ()) j<|I.jw x c e
let[e,n,P,Q,d]:=I.pin p M;let f:p.1∉ch:=λz=>(a p.1 z).2.2.2 p M ();show [keep p.1 p.2 P Q f e n,free p.1 p.2 f e n,P,Q,d]}
end
theorem eL.there{P:bU}{w:bj}{H:Hp}{h:a8}{a:aa}{o:HO}(x:eL P w H h a o):∃u,h.get? a=B u:=by cases o with|lst c=>let[_,_,_,_,e]:=x;show [_,e]|tup c=>let[_,_,_,u,e,_]:=x;show [_,e]|dK b=>let[_,_,_,_,o,_,_,e,_]:=x;show [_,e]|dT b=>let[_,_,_,_,o,_,_,e,_]:=x;show [_,e]|set S n=>let[o,_,_,_,e,_]:=x;show [_,e]|ins C d fs=>let[_,_,_,e,_]:=x;show [_,e]|own y=>show x|xd fs=>let[_,[_,_,_,e,_],_]:=x;show [_,e]|Bn lo g=>let[_,_,_,e]:=x;show [_,e]|gK i u=>let[e,_]:=x;show [_,e]|n8 j=>show [_,(show h.get? a=B _ from x)]|met f y=>show [_,(show h.get? a=B _ from x)]|ext l=>let[_,e,_]:=x;show e
def m7(X:Cx)(H:Hp)(b:aa):Prop:=H b=Z/\(b∈X.ex\/X.f_.heap.get? b=Z)
section
variable{X:Cx}{σ:St}{H:Hp}{s:ak}{h':a8}
def Inv.AL(I:Inv X pins σ H s):Inv X [] σ H s:=I.F9 λp a=>absurd a @s_
def Inv.so(I:Inv X pins σ H s)(h:s.heap.get? b=Z):m7 X H b:=by show [?_,?_];{cases q:H b with|none=>rfl|some u=>exfalso;let[o,a]:=(I.bx b u q).there;rw[h]at a;cases a};by_cases z:b∈X.ex;{show .inl z};show .inr ?_;cases q:X.f_.heap.get? b with|none=>rfl|some o=>let[c,e]:=I.base.there b o q z;rw[h]at e;cases e
theorem Inv.oP{ch:List aa}(I:Inv X [] σ H s)(i:jr (g6 X.stack) ch s.heap h')(G:X.pn=[])(a:∀b∈ch,m7 X H b/\∃o vs,s.heap.get? b=B o/\o.data=.fields vs):Inv X [] σ H {s with heap:=h'}:=by{
let g:∀b∈ch,b≠X.env.locals:=λb O z=>by let[_,o,vs,j,t]:=a b O;let[m,[J,E,F,d,f,_],_]:=I.loc;rw[z,d]at j;cases j;rw[f]at t;cases t
let h:∀b∈ch,∀x c,X.env.cells.lookup x=B c->c≠b:=λb O x c e z=>by let[_,o,vs,j,t]:=a b O;let[v,J,d,f]:=I.cell x c e;rw[z,j]at d;cases d;rw[t]at f;cases f
let M:X.env.locals∉ch:=λz=>g _ z ();let w:∀b o,s.heap.get? b=B o->b≠X.env.locals->b∉X.fs->b∉g6 X.stack:=λb o _ y A z=>(bh.mp<|I.BM b z).elim y A;let pN:∀b u,H b=B u->b∉g6 X.stack/\b∉ch:=λb u e=>[λz=>(by rw[I.Ic b z]at e;cases e),λz=>(by rw[(a b z).1.1]at e;cases e)];show I.akz (g':=s.gens) (d':=s.drawn) (t':=s.toks) (ch:=ch) (λb O=>[(a b O).1.2,g b O,h b O,λp l=>?_])
 (λb o y A C e _=>i.keep b o (w b o e y A) C e) (λb o _ _ C e _=>i.slot b o C e) (λ_ _ _ _ n=>n) (λb o _ e=>i.there b o e)
 (λ_ _ e=>e) (λ_ _ _ e=>e) (λb T e=>[#[],by rw[e];simp]) (λm P=>?_) (λb u e=>?_) I.bare
.rw[G]at l;show absurd l @s_
.let[o,E,F,j,r]:=P;let[W,q]:=i.slot _ o M j;show [_,E,F,q,r]
show(I.bx b u e).qL (λc v Q q=>?_) (λ_ q=>q) λ_ _ q=>q;rcases Q with z|z
.subst z;show i.keep _ v (pN _ u e).1 (pN _ u e).2 q
show i.keep c v (pN c _ z).1 (pN c _ z).2 q}
end
def jq(P:bU)(w:bj):iI:=λc H s E e d=>∃a C f,e=.ref a/\d.os=s.os/\AllBare d.gens/\Un (g6 c) [] H f s.heap d.heap/\dO P w f d.heap/\m6 (λb=>f b=Z/\s.heap.get? b=Z) a (.ref C) d.heap/\E (.ref C) Z f
structure eG (X:Cx) (E:XK):Prop where
 top:∃e0 o0 L,X.stack=e0::o0/\X.env.frame=e0.frame/\e0.frame=B L
 pn:X.pn=[]
 xe:∀(σ:St)(H:Hp)(s:ak)(a C:aa),Inv X [] σ H s->m6 (m7 X H) a (.ref C) s.heap->E (.ref C) Z H->X.xe (.ref a) s
def m6.imp(x:m6 F a cls h)(k:∀b,F b->G b):m6 G a cls h:=by(let[[i,j,l,m,n,o],f]:=x;show [[i,j,l,m,n,?_],k _ f];rcases o with c|⟨T,p,q,x,c,d,r,e,s,g⟩);{show .inl c};show .inr [T,p,q,x,c,d,r,e,s,k _ g]
def eG.pass(x:eG X E):lb (jq X.prog X.w) X E:=λf g H s e i I h=>by let[a,C,j,rfl,os,bare,un,c,d,q]:=h;let l:Inv X [] g j i:=I.AL.DU (ch:=[]) os un c bare λb z=>absurd z @s_;show x.xe g j i a C l (d.imp λb h=>[h.1,(I.so h.2).2]) q
theorem Ep{P:bU}{w:bj}{K:aR}{mg:Str->Option ae}{base:a8}{N:List Str}{d:Str}{c:cB}{f:aa}{cd:ae}{A:Around}{e:List Env}{s:ak}{H:Hp}{E:XK}:eG (lX (jq P w) P w K mg base N d c f cd A e s H E) E:=by{
show [[_,_,_,(),(),()],(),λσ n o a C I p q=>?_];change wpAny (model P w) (A.deeper<|envOfC d c ↑s f cd) (leaving (envOfC d c ↑s f cd)<|.ref a) (λ_ h=>jq P w e H s E (.ref a) h) (λe' h=>jq P w e H s E e' h) o;generalize m:lX (jq P w) P w K mg base N d c f cd A e s H E=X at I p;let r:X.stack=envOfC d c ↑s f cd::e:=by rw[<-m];rfl
let i:X.f_=s:=by rw[<-m];rfl
let j:=I.ok.frames;let g:=I.stack;let J:=I.sz;rw[r]at j g;let hA:X.A=A.deeper (envOfC d c ↑s f cd):=by rw[<-m];rfl
rw[hA]at j;rw[i]at J;let t:X.pn=[]:=by rw[<-m];rfl
unfold leaving;show aZ<|AN (F:=m7 X n) (cenv:=envOfC d c ↑s f cd) j g () rfl p (λb O=>I.so<|vO O) λM ch Q ef u _=>?_;let I2:Inv X [] σ n {o with heap:=M}:=I.oP (ch:=ch) (by rw[r];show ef) t Q;show wU (s:={o with heap:=M}) (fr:=g6 X.stack) u λT ZF v sr l=>?_;let x:Inv X [] σ n {o with heap:=T}:=Inv.oP (s:={o with heap:=M}) (ch:=ZF) I2 sr t v;let b3:=x.base;let o3:=x.os;let z3:=x.sz;let g3:=x.bare;let k3:=x.bx;rw[i]at b3 o3 z3;let hex:X.ex=[]:=by rw[<-m];rfl
let y:=l.imp (G:=λb=>n b=Z/\s.heap.get? b=Z) λb O=>[O.1,by(rcases O.2 with z|z);{rw[hex]at z;cases z};rw[i]at z;show z];subst m;show [a,C,n,(),o3,g3,b3,k3,y,q]}
def ai2(l:eG X E)(a:OwnCls x C #[.type "Exception",.type "BaseException",.type "object"] "Exception.__new__" X.mg X.base)(m:X.calm=Y)(n:Gl X x)(hd:(x==("__debug__":Str))=ag:=by decide):PS X (.Raise (B<|.Call (.Name x j) [] [] c) Z pos) λ_ _ H=>E (.ref C) Z H:=by{
intro f s g H b I h;let[o,p,r,u,l1,v,l2,l3,w,y,z,A,G,o2,o3,J,mN,hC,M,d,T]:=a.obj;show wpAny_Raise_call_subT (nm:=r) (q:=u) (C:=C) (N:=p) (bm:=o) (bs:=l1) (hdct:=v) (sn:=l2) (sub:=l3) (ab:=w) (col:=y) (dd:=z) (k0:=A) (k1:=G) (k2:=o2) (k3:=o3) (k5:=J)
 JI (mN:=mN) (T.hasType JI.hasBase) (I.ok.hd m) () d (sg I n a.bound [(),?_] hd)
show evalArgs_empty [(),iH _,I.bk _ _ hC,M.keeps I.bk,T.keeps I.bk,λi e made=>?_];let P:Inv X [] g H {s with heap:=i}:=I.AL.kept (t':=s.toks) made.keeps;let[t,Q,_,_]:=made.there;show l.xe g H {s with heap:=i} e C P [[_,_,Q,(),(),.inl ()],I.so made.new] h}
section
variable{X:Cx}
def Nu(hc:X.calm=Y)(hN:X.N.Nodup)(I:Inv X pins σ H s)(hi:PI X tg iter wi)(ok:vY X.N X.env.scope scope own)(ex:eG X E)(hg:∀(s:ak)(H:Hp)(C:aa)(cl:List<|Str×aa)(l:List aa)(Ew:ae->ak->Prop),eG ((X.cx s H scope @n_ l).cm Ew) E->PG ((X.cx s H scope @n_ l).cm Ew) tg g)(ht:∀(s:ak)(H:Hp)(C:aa)(cl:List<|Str×aa)(l:List aa)(Ew:ae->ak->Prop),eG ((X.cx s H scope @n_ l).cm Ew) E->rA ((X.cx s H scope @n_ l).cm Ew) ifs tt)(he:∀(s:ak)(H:Hp)(C:aa)(cl:List<|Str×aa)(l:List aa)(Ew:ae->ak->Prop),eG ((X.cx s H scope @n_ l).cm Ew) E->PE ((X.cx s H scope @n_ l).cm Ew) elt te)(hs:∀x,foldedSetIterable iter X.env x=pure x)(h:cH wi g tt te (own.map (·.2)) σ H Q)(hRR:∀d C M m G,Inv X pins σ G M->Q (.ref d) G->M.heap.Ns C m->la X pins G C->compPost @c_ X.A X.xe use Qf (.ref d) C (.ok .next) M):wpAny @c_ X.A (comprehension (.ListComp elt #[[tg,iter,ifs,0]] scope pos) scope X.env pos' (newList []) ag (eval iter X.env) use) Qf X.xe s:=by{
let acf:∀y∈scope.names,y.2=.free->∃c,X.env.cells.lookup y.1=B c:=λy hy e=>by(rcases ok.free y hy e with k|k);{show I.ok.has _<|.inl k};show I.ok.has _<|.inr k
show wpAny_comprehension_free (use:=use) () hs (ZQ acf) ok.kind (λy hy e=>by rw[ok.uniq y hy,e])
 (bz (hi pins s σ H _ I h) λxv s1 hx=>bz hx λitv s2 h2=>?_)
let[it,l,tn,J,H2,e,I2,T,BL,f2,q]:=h2;subst e;show wpAny_newObj_type (agz ?_) (by change 0<=sizeLine;decide);generalize hD:↑s2=d;let hDn:H2 d=Z:=I2.bx.fresh<|tI hD;let[W,[m0,w0],turn]:=q d hDn;generalize My:({s2 with heap:=s2.heap.push {cls:=.type "list",data:=.seq ([]:List ae).toArray}}:ak)=t;let I3:Inv X pins σ (upd H2 d<|.lst []) t:=by rw[<-My];show I2.laid (t':=s2.toks) (λb o e=>dh _ e) (tI hD) [iH _,[],0,.nil,?_];rw[<-hD];show f6 _ ()
let h3:t.heap=s2.heap.push {cls:=.type "list",data:=.seq ([]:List ae).toArray}:=by rw[<-My]
let sz:∀b∈l,b<↑s2:=λb O=>by let[o,e,_]:=T.obj _ _ BL b O;show cv e
let f3:∀b∈l,la X pins (upd H2 d<|.lst []) b/\b<↑t:=λb O=>by let ma:=sz b O;show [[?_,(f2 b O).2],by rw[h3,i1];show Jt ma];rw[cJ<|by rw[<-hD];show fk ma];show(f2 b O).1
let st3:tn 0 t.heap:=T.keep _ _ _ BL λb _ o e=>by rw[h3];show dh _ e
let I4:=Zb I3 ok hN f3;change codeAny _ _ (.compStart (.ListComp elt #[[tg,iter,ifs,0]] scope pos) 0 (.ref it) (.ref d)<|compEnvC scope (cellsFrom (↑t+1) scope.names<|iL X.env.cells scope.names []) ↑t X.env) (compPost @c_ X.A X.xe use Qf (.ref d) ↑t) {t with heap:=pushCells (t.heap.push {cls:=.type "dict",data:=.dict #[]}) scope.names};let NV:∀b∈l,(upd H2 d<|.lst []) b=Z:=λb O=>(f3 b O).1.1;generalize w1:compEnvC scope (cellsFrom (↑t+1) scope.names<|iL X.env.cells scope.names []) ↑t X.env=P at I4⊢;let cL:P.locals=↑t:=by subst w1;rfl
generalize hH3:upd H2 d (.lst [])=H3 at I3 I4 w0 NV f3;generalize hs4:({t with heap:=pushCells (t.heap.push {cls:=.type "dict",data:=.dict #[]}) scope.names}:ak)=s4 at I4⊢;let R9:tn 0 s4.heap:=T.keep _ _ _ st3 λb _ o e=>by rw[<-hs4];show CZ _ _ _ _<|dh _ e
let Ia:∀{σ':St}{G:Hp}{M:ak},Inv @a__ [] σ' G M->(∀b∈l,G b=Z)->∀b∈l,la @a__ [] G b:=λ{σ' G M} I' hn b O=>[hn b O,(I'.ok.wN b O).1,I'.ok.ua b O,.inl O,λx c e=>(I'.ok.wN b O).2 x c e,λp hp=>absurd (show p∈([]:List<|aa×Obj)++[]from hp) @s_];generalize Ag:notedBy @c_ X.A P (λe M=>compPost @c_ X.A X.xe use Qf (.ref d) ↑t (.error e) M)=Ew;let Eo:eG ((X.cx t H3 scope P l).cm Ew) E:=by{
let[e0,o0,L,t1,t2,t3]:=ex.top;let cf:P.frame=X.env.frame:=by rw[<-w1];rfl
show [[e0,o0,L,t1,cf.trans t2,t3],(),λσ' G M a Ca Ib Ds q=>?_];let Ib:Inv @a__ [] σ' G M:=Ib.jC;change Ew (.ref a) M;rw[<-Ag];change wpAny @c_ X.A (noteFrame (.ref a) P) _ _ M;let ES:X.stack=e0::o0:=t1;let hfr:X.A.frames=B X.stack:=Ib.ok.frames;let Mz:M.heap.FunFrames X.base X.stack:=Ib.stack;show AN (F:=m7 @a__ G) (cenv:=P) (hfr.trans<|by rw[ES]) (by rw[<-ES];show Mz) (cf.trans t2) t3 Ds (λb O=>Ib.so<|vO O) λh1 ch EK ef YJ abV=>?_;let I1:Inv @a__ [] σ' G {M with heap:=h1}:=Ib.oP (ch:=ch) (by change jr (g6 X.stack) _ _ _;rw[ES];show ef) () EK;let[m,hn,_]:=I1.loc;let hn:h1.Ns P.locals m:=hn;rw[cL]at hn;let Ma:∀b,m7 @a__ G b->m7 X G b:=λb O=>[O.1,by(rcases O.2 with z|z);{(rcases(f3 b z).1.2.2.2.1 with y|y);{show .inl y};show .inr<|vO y};show(I3.so z).2];let IX:Inv X [] σ G {M with heap:=h1}:=(I3.DU (ch:=l) I1.os I1.base I1.bx I1.bare λb O=>[(f3 b O).1.2.2.2.1,(f3 b O).1.2.1,(f3 b O).1.2.2.2.2.1,(f3 b O).1.2.2.2.2.2]).AL;let nC:G ↑t=Z:=by let z:G P.locals=Z:=I1.free;rw[cL]at z;show z
show [m,hn,λh2 sb cenv hcl=>?_];let[g0,g1,g2,g3,g4,g5]:=(I3.AL).oS (bD _) nC;let YA:Inv X [] σ G {M with heap:=h2}:=Inv.turned (s:={M with heap:=h1}) (t':=M.toks) IX (λb o O e=>(sb.2 b O).trans e) g0 g1 g3 g4 g5;let Fw:∀b o vs,h1.get? b=B o->o.data=.fields vs->b≠↑t:=λb o vs e hd z=>by let[oc,es,ep,ho,hdc,_]:=hn;rw[z,ho]at e;cases e;rw[hdc]at hd;cases hd
let YK:m6 (m7 X G) a (.ref Ca) h2:=by(let[[oe,vs,he,hc',hd,hh],f]:=YJ;show [[oe,vs,(sb.2 a<|Fw a oe vs he hd).trans he,hc',hd,?_],Ma _ f];rcases hh with kK|⟨T',oT,ts,x,kK,hTa,hT,Ml,h3',EI⟩);{show .inl kK};show .inr [T',oT,ts,x,kK,hTa,(sb.2 T'<|Fw T' oT ts hT Ml).trans hT,Ml,h3',Ma _ EI]
let[oe,vs,T',he,hd,kK]:=abV;unfold PySem.passOn;show aZ<|j7 (s:={M with heap:=h2}) ((sb.2 a<|Fw a oe vs he hd).trans he) hd kK ?_;rw[aaa (show¬((cY T'==Value.none)=Y)by simp)];show aZ<|wU (s:={M with heap:=h2}) (fr:=g6 X.stack) YK λh4 ZI abY ef4 YL=>wpAny_throw ?_;show ex.xe σ G {M with heap:=h4} a Ca (Inv.oP (s:={M with heap:=h2}) (ch:=ZI) YA ef4 ex.pn abY) YL q}
let pg:PG ((X.cx t H3 scope P l).cm Ew) tg g:=by subst w1;show hg _ _ _ _ _ _ Eo
let pt:rA ((X.cx t H3 scope P l).cm Ew) ifs tt:=by subst w1;show ht _ _ _ _ _ _ Eo
let pe:PE ((X.cx t H3 scope P l).cm Ew) elt te:=by subst w1;show he _ _ _ _ _ _ Eo
let loop:codeAny @c_ X.A (.compLoop (.ListComp elt #[[tg,iter,ifs,0]] scope pos) 0 (.ref it) (.ref d) P) (compPost @c_ X.A X.xe use Qf (.ref d) ↑t) s4:=by{
show ZS (λn M=>∃i G,Inv @a__ [] (wipe σ (own.map (·.2))) G M/\tn i M.heap/\(∀b∈l,G b=Z)/\W i n G) ?_ m0 [0,H3,I4,R9,NV,w0];rintro n s5 ⟨i,H5,I5,R_,n5,w5⟩;rcases turn i n H5 w5 with⟨stop,qq⟩|⟨go,Nx,hNx,step⟩
.let td:=T.done (X.cx t H3 scope P l) () rfl rfl hc i [] s5 _ H5 (λ_ _=>False) I5 (Ia I5 n5) R_ stop;show Io td λr s6 ⟨hr,I6⟩=>?_;subst hr;let I7:Inv X pins σ H5 s6:=I3.DU (ch:=l) I6.os I6.base I6.bx I6.bare λb O=>[(f3 b O).1.2.2.2.1,(f3 b O).1.2.1,(f3 b O).1.2.2.2.2.1,(f3 b O).1.2.2.2.2.2];let nC:H5 ↑t=Z:=by let z:H5 P.locals=Z:=I6.free;rw[cL]at z;show z
 let[m,hn,_]:=I6.loc;let hn:s6.heap.Ns P.locals m:=hn;rw[cL]at hn;show hRR d ↑t s6 m H5 I7 qq hn<|I3.oS (bD _) nC
let ti:=T.item @a__ () rfl rfl hc i [] s5 _ H5 (λ_ _=>False) I5 (Ia I5 n5) R_ go;show Io ti λr s6 ⟨u,hr,h6⟩=>?_;subst hr;show Io h6 λ_ s7 ⟨x,H7,I7,r7,y7,H_,n7⟩=>?_;let Yz:=I7.pinned (Ia I7 n7)<|T.obj _ _ H_;rw[Ag];show bz (pg _ s7 _ H7 x u _ (Yz.cm Ew) r7<|step x H7 y7) λ_ s8 ⟨σ8,H8,I8,MA,q8⟩=>?_;show bz (pt _ s8 σ8 H8 _ I8 q8) λb s9 ⟨H9,I9,q9⟩=>?_;let fin:∀{M:ak}{G:Hp},Inv @a__ ([]++xI l s7.heap) σ8 G M->Nx G->∃m,m<n/\∃i G,Inv @a__ [] (wipe σ (own.map (·.2))) G M/\tn i M.heap/\(∀b∈l,G b=Z)/\W i m G:=λ{M G} I' nx=>by{
let[m',hm,w']:=hNx G nx;let OF:∀b∈l,∀o,s7.heap.get? b=B o->M.heap.get? b=B o/\G b=Z:=λb O o e=>
 let z:=I'.pin (b,o) (pV _<|pV _<|Fo O e)
 [z.1,z.2.1]
let hl:(wipe σ (own.map (·.2))).length=σ8.length:=by rw[<-MA,vk]
show [m',hm,i+1,G,(I'.B1 (pins:=[])).weak hl λj v e=>?_,T.keep _ _ _ H_ λb O o e=>(OF b O o e).1,λb O=>?_,w'];{rw[<-MA]at e;show(II e).1};let[o,e,_]:=T.obj _ _ H_ b O;show(OF b O o e).2}
cases b with|false=>simp only[WL,abG]at q9⊢;show fin I9.jC q9|true=>simp only[abu]at q9⊢;show bz (pe _ s9 σ8 H9 _ I9 q9) λz s10 ⟨yv,H10,Yv,r10,acc,abI,acE,nx⟩=>?_;show YQ (X:=X.cx t H3 scope P l) Yv.jC abI acE r10 λs11 Yw=>fin Yw nx}
show codeAny_compStart_list loop<|T.self X.A 0 _ _ _ R9 loop}
def aio(n:X.calm=Y)(p:X.N.Nodup)(r:PI X j iter wi)(ok:vY X.N X.env.scope scope own)(t:eG X E)(u:∀(s:ak)(H:Hp)(C:aa)(cl:List<|Str×aa)(c:List aa)(d:ae->ak->Prop),eG ((X.cx s H scope @n_ c).cm d) E->PG ((X.cx s H scope @n_ c).cm d) j g)(v:∀(s:ak)(H:Hp)(C:aa)(cl:List<|Str×aa)(c:List aa)(d:ae->ak->Prop),eG ((X.cx s H scope @n_ c).cm d) E->rA ((X.cx s H scope @n_ c).cm d) ifs tt)(w:∀(s:ak)(H:Hp)(C:aa)(cl:List<|Str×aa)(c:List aa)(d:ae->ak->Prop),eG ((X.cx s H scope @n_ c).cm d) E->PE ((X.cx s H scope @n_ c).cm d) i te)(y:∀x,foldedSetIterable iter X.env x=pure x:=by intro _;rfl):PE X (.ListComp i #[[j,iter,ifs,0]] scope pos) (cH wi g tt te (own.map (·.2))):=by intro l s σ H Q I h;rw[eval_ListComp];show Nu n p I r ok t u v w y h λa C z m A F q G f=>[m,G,λJ M=>?_];let[P,T,f2,W,f4,f5]:=f;show [.ref a,A,F.turned (t':=z.toks) (λb o O e=>(M.2 b O).trans e) P T W f4 f5,(),q]
def ai4(W:X.calm=Y)(M:X.N.Nodup)(hy:X.N[i]?=B y)(r:X.env.scope.names.lookup y=B .local)(w:swapsWith (.ListComp d #[[p,iter,ifs,0]] scope pos) (B<|.Name y u) j.line X.env=pure Y)(hi:PI X p iter wi)(ok:vY X.N X.env.scope scope own)(ex:eG X E)(hg:∀(s:ak)(H:Hp)(C:aa)(cl:List<|Str×aa)(l:List aa)(n:ae->ak->Prop),eG ((X.cx s H scope @n_ l).cm n) E->PG ((X.cx s H scope @n_ l).cm n) p g)(ht:∀(s:ak)(H:Hp)(C:aa)(cl:List<|Str×aa)(l:List aa)(n:ae->ak->Prop),eG ((X.cx s H scope @n_ l).cm n) E->rA ((X.cx s H scope @n_ l).cm n) ifs tt)(he:∀(s:ak)(H:Hp)(C:aa)(cl:List<|Str×aa)(l:List aa)(n:ae->ak->Prop),eG ((X.cx s H scope @n_ l).cm n) E->PE ((X.cx s H scope @n_ l).cm n) d te)(hs:∀x,foldedSetIterable iter X.env x=pure x:=by intro _;rfl):PS X (.Assign #[.Name y u] (.ListComp d #[[p,iter,ifs,0]] scope pos) j) (b_ (cH wi g tt te (own.map (·.2)))<|aY i):=by intro t s P H c I h;rw[exec_Assign_Name_used _ _ _ _ w];show aZ<|Kb<|aZ ?_;change wpAny _ X.A (do let _<-comprehension (.ListComp d #[[p,iter,ifs,0]] scope pos) scope X.env (firstIterPos #[[p,iter,ifs,0]] pos) (newList []) ag (eval iter X.env)<|B<|assign (.Name y u) X.env) _ _ s;let h:cH wi g tt te (own.map (·.2)) P H λx H1=>aY i x P H1 c.nx:=h;show aZ<|bz (Nu (Qf:=λ_ F=>SP X t c .next F) W M I hi ok ex hg ht he hs h λL C F m H' I' q hn f=>?_) λ_ F hq=>cZ<|cZ hq;change wpAny _ _ (assign (.Name y u) X.env<|.ref L) _ _ _;show wpAny_assign_Name<|Si (v:=V.ref L) I' M hy (.inl r) () (λs2 I2 ⟨a,sb,ha⟩=>?_)<|.inr r;let[f0,Q,f2,f3,T,f5]:=f;let G:C≠a:=(by(rcases ha with z|z);{rw[z];show Q};show λe=>T y a z e.symm);show [m,hn.sameBut sb G,λh3 J=>?_];show [_,H',I2.turned (t':=s2.toks) (λb o O e=>(J.2 b O).trans e) f0 Q f3 T f5,q]
end
structure kH (k:Nat) (A:Around):Prop where
 dp:A.depth+3*k+5<recursionLimit
 un:A.units+16*k+200<cLine
theorem kH.deeper{k:Nat}{A:Around}(r:kH (k+1) A)(a:Env):kH k<|A.deeper a:=[by let:=r.dp;change A.depth+1+3*k+5<_;lia,by let:=r.un;change A.units+3+16*k+200<_;lia]
theorem kH.depth{k:Nat}{A:Around}(r:kH k A):A.depth<recursionLimit:=by let:=r.dp;lia
def kH.mono(r:kH k A)(h:j<=k):kH j A:=[by let:=r.dp;lia,by let:=r.un;lia]
structure zq (P:bU) (w:bj) (K:aR) (mg:Str->Option ae) (base:a8) (CX:iI) (k:Nat) (f:aa) (fd:FuncData) (ps:List Str) (sp:Sp):Prop where
 len:∀vs H Q E,sp vs H Q E->vs.length=ps.length
 run:∀(A:Around)(outer:List Env)(s:ak)(H:Hp)(args:Args)(us:List ae)(vs:List V)(Q:VK)(E:XK),kH k A->oF P w K mg base A outer s H->BindsTo s fd args (ps.zip us)->bq vs us->sp vs H Q E->
  codeAny (model P w) A (.call (.ref f) args) (CR CX outer P w H s Q E) s
def wD(CX:iI)(P:bU)(w:bj)(K:aR)(mg:Str->Option ae)(c:a8)(N:List Str)(d:Str)(a:cB)(f:aa)(cd:ae)(A:Around)(b:List Env)(s:ak)(H:Hp)(E:XK):Cx:={lX CX P w K mg c N d a f cd A b s H E with calm:=ag}
theorem acP{CX:iI}{P:bU}{w:bj}{K:aR}{mg:Str->Option ae}{m:a8}{N ps:List Str}{j:Str}{d:cB}{f:aa}{cd:ae}{A:Around}{g:List Env}{s J:ak}{H:Hp}{E:XK}{us:List ae}{vs:List V}(S:qi N ps d)(o:oF P w K mg m A g s H)(hl:vs.length=ps.length)(r:bq vs us)(x:InCallC s ↑s (bindL (envOfC j d ↑s f cd).kindOf (ps.zip us) λ_=>Z) (cellsFrom (↑s+1) d.names []) (bindC (envOfC j d ↑s f cd).kindOf (ps.zip us) λ_=>Z) J):Inv (wD CX P w K mg m N j d f cd A g s H E) [] (start N vs) H J:=by{
let T:ps.length<=N.length:=by let:=aad U S.pre;rw[gj]at this;lia
let[G,tk,rfl,M]:=x.done;let t:∀b:aa,b∉(wD CX P w K mg m N j d f cd A g s H E).ex:=λb z=>absurd (show b∈([]:List aa)from z) @s_;show [[o.mod,S.kind,(),(),bD _,λy z c G l=>?_,λy hy=>?_,λy c _ h=>?_,(λz=>nomatch z),XE o.frames,.inr [(),()],λb z=>absurd z<|t b,o.bs,o.lW,λb _ _=>t b,λb z=>absurd z<|t b,o.kj,o.oU],rfl,o.bare,Un.kept M,[_,x.toInCall.ns,λi y v G l h3=>?_],λy c h=>[_,x.cell y c h],o.bx.fresh<|bD _,λy c h=>?_,λp C=>absurd (show p∈([]:List<|aa×Obj)from C) @s_,o.bx.kept M,?_];{show name_of_addr x.apart (ik G)<|ik l}
.let hy:d.names.lookup y=B .cell\/d.names.lookup y=B .free:=hy;rcases hy with hy|hy
 {show zH hy};show absurd () (S.NX _<|ik hy)
.show rd<|x.above y c<|ik h
.let I:i<vs.length:=by unfold start at l;by_cases I:i<vs.length;{show I};rw[WY (I:)]at l;rw[IW]at l;split at l<;>cases l
 let X:vs[i]?=B v:=by unfold start at l;rw[WX (I:),du]at l;cases e:vs[i]? with|none=>rw[e]at l;cases l|some a=>rw[e]at l;cases l;rfl
 let[u,Q,rv]:=r.get X;let C:ps[i]?=B y:=by rw[<-S.pre,Ck @o_];show G
 let F:ps.Nodup:=by rw[<-S.pre];show S.nd.sublist<|Xm _ _
 show [u,rv,?_];rcases S.par y (bY C)with k|k
 {show .inl [k,DN F C Q k]};let[c,e]:=zH (n:=↑s+1) k;show .inr [.inl k,c,e,?_];let q:=x.cell y c e;rw[DM F C Q (by change d.names.lookup y≠_;rw[k];decide)]at q;show q
.show o.bx.fresh<|rd<|x.above y c<|ik h
unfold start;change _=N.length;rw[cA,aP,Co];lia}
theorem abd{CX:iI}{P:bU}{w:bj}{K:aR}{mg:Str->Option ae}{base:a8}{k:Nat}{f:aa}{name d:Str}{params:Arguments}{body:List Stmt}{a:cB}{T kV doc X g ct oc:ae}{an od:Option aa}{C:Array<|Option ae}{N ps:List Str}{sp:Sp}(lk:K.lookup f=B [oc,od,.func<|rk name d params body a T kV doc X an g ct,C])(F:CU K g d=Y)(S:qi N ps a)(len:∀vs H Q E,sp vs H Q E->vs.length=ps.length)(j:∀(A:Around)(c:List Env)(s:ak)(H:Hp)(vs:List V)(Q:VK)(E:XK),kH k (A.deeper<|envOfC d a ↑s f g)->sp vs H Q E->∃t,gF (wD CX P w K mg base N d a f g A c s H E) body t/\t {nx:=λ_ i=>Q .aC i,rt:=Q} (start N vs) H):zq P w K mg base CX (k+1) f (rk name d params body a T kV doc X an g ct) ps sp:=by(show [len,λA c s H args us vs Q E hr p O r z=>?_];let hl:=len _ _ _ _ z;let KX:K.In s.heap:=p.mod.o4.keeps λb o e=>(p.bs b o e).1;let lim:s.heap.NoLimit:=p.mod.nolimit.keeps λb o e=>(p.bs b o e).1;let l:∀y∈ps.zip us,a.names.lookup y.1=B .local\/(a.names.lookup y.1=B .cell/\((cellsFrom (↑s+1) a.names []).lookup y.1).isSome=Y):=λ⟨n,v⟩ hy=>by(rcases S.par n (pX hy).1 with q|q);{show .inl q};show .inr [q,CT _ _ _<|.inl q]);show J2 hr.depth (KX _ _ lk) () S.co S.gen () (JV KX F)<|O _ _ _ _ ?_;show J_ S.kind l λenv he s1 x=>?_;subst he;show [lim.keeps x.toInCall.keep,J3 ?_];let[t,ht,hq]:=j A c s H vs Q E (hr.deeper _) z;let I:Inv (wD CX P w K mg base N d a f g A c s H E) [] (start N vs) H s1:=acP S p hl r x;show kE (ht [] s1 (start N vs) H _ I hq) (λfl G m=>?_) λe G m=>m;let fin:∀{h:St}{i:Hp}{v:V}{u:ae},Inv (wD CX P w K mg base N d a f g A c s H E) [] h i G->RelV v u->Q v i->CE c P w H s Q u G:=λ{h i v u} J M q=>[v,i,J.os,J.bare,J.base,J.bx,M,q];cases fl with|ret u=>let[v,h,i,J,M,q]:=m;show fin J M q|next=>let[h,i,J,q]:=m;show fin (v:=V.aC) (u:=Value.none) J () q|brk=>let[_,_,_,q]:=m;show gA q|cont=>let[_,_,_,q]:=m;show gA q
section
variable{X:Cx}{CX:iI}{k:Nat}{f C:aa}{fd:FuncData}{ps:List Str}{sp:Sp}{eQ:List V}{ds:List ae}{E:XK}{x m:Str}{p pos apos:Pos}{e o:aw}{es:List aw}{ta:TE}{t:TA}
def aj6(F:zq X.prog X.w X.K X.mg X.base CX k f fd ps sp)(c:kH k X.A)(O:Binds X.K fd ps ds)(hd:bq eQ ds)(hx:lb CX X E)(I:Inv X pins b H s)(r:bq vs us)(h:sp (vs++eQ) H Q E):wpAny @c_ X.A (call (.ref f) us) (EP X pins b Q) X.xe s:=by let r2:bq (vs++eQ)<|us++ds:=r.append hd;let d:(us++ds).length=ps.length:=(by rw[<-r2.length];show F.len _ _ _ _ h);show wpAny_call<|zf (F.run X.A X.stack s H [us,[]] (us++ds) (vs++eQ) Q E c I.lZ (O s us I.iw d) r2 h) λr g a=>?_;cases r with|error e=>show hx pins b H s e g I a|ok i=>cases i with|ret u=>show I.after a|next=>show gA a|brk=>show gA a|cont=>show gA a
def aie(F:zq X.prog X.w X.K X.mg X.base CX k f fd ps sp)(g:kH k X.A)(i:Gl X x)(j:X.mg x=B (.ref f))(l:qd X.K (.ref f)=Y)(O:Binds X.K fd ps ds)(hd:bq eQ ds)(hx:lb CX X E)(n:PA X (e::es) t)(b:(x==("__debug__":Str))=ag:=by decide)(u:starEach (e::es) X.env=(ag,eval e X.env)::starEach es X.env:=by rfl)(c:(backTo pos<|starEach es X.env).any (·.1)=ag:=by rfl):PE X (.Call (.Name x p) (e::es) [] pos) (dq sp eQ E t):=by intro a s v H Q I h;show rm<|sg I i j ?_ b;show ze (h₀:=X.base) I.ok.mod.o4 l (bz (n pos a s v H _ I h) λy z ⟨G,J,d,r,q⟩=>[d.iw,?_]) u c;show aj6 F g O hd hx d r q
end
def Kn(X:Cx)(st:Stmt)(t:TS):Prop:=∀(s:ak)(b:St)(H:Hp)(a:Ends),Inv X [] b H s->t a b H->wpAny @c_ X.A (exec st X.env) (SP X [] a) X.xe s
def zx(X:Cx)(st:List Stmt)(t:TS):Prop:=∀(s:ak)(b:St)(H:Hp)(a:Ends),Inv X [] b H s->t a b H->wpAny @c_ X.A (execs st X.env) (SP X [] a) X.xe s
theorem abc{CX:iI}{P:bU}{w:bj}{K:aR}{mg:Str->Option ae}{base:a8}{k:Nat}{f:aa}{name d:Str}{params:Arguments}{body:List Stmt}{a:cB}{X kV doc pm g ct oc:ae}{an od:Option aa}{C:Array<|Option ae}{N ps:List Str}{sp:Sp}(lk:K.lookup f=B [oc,od,.func<|rk name d params body a X kV doc pm an g ct,C])(F:CU K g d=Y)(S:qi N ps a)(len:∀vs H Q E,sp vs H Q E->vs.length=ps.length)(j:∀(A:Around)(c:List Env)(s:ak)(H:Hp)(vs:List V)(Q:VK)(E:XK),eP k (A.deeper<|envOfC d a ↑s f g)->sp vs H Q E->∃t,zx @u_ body t/\t {nx:=λ_ i=>Q .aC i,rt:=Q} (start N vs) H):gW P w K mg base CX (k+1) f (rk name d params body a X kV doc pm an g ct) ps sp:=by(show [len,λA c s H args us vs Q E G p O r z=>?_];let hl:=len _ _ _ _ z;let KX:K.In s.heap:=p.mod.o4.keeps λb o e=>(p.bs b o e).1;let lim:s.heap.NoLimit:=p.mod.nolimit.keeps λb o e=>(p.bs b o e).1;let l:∀y∈ps.zip us,a.names.lookup y.1=B .local\/(a.names.lookup y.1=B .cell/\((cellsFrom (↑s+1) a.names []).lookup y.1).isSome=Y):=λ⟨n,v⟩ hy=>by(rcases S.par n (pX hy).1 with q|q);{show .inl q};show .inr [q,CT _ _ _<|.inl q]);show J2 G.depth (KX _ _ lk) () S.co S.gen () (JV KX F)<|O _ _ _ _ ?_;show J_ S.kind l λenv he s1 x=>?_;subst he;show [lim.keeps x.toInCall.keep,J3 ?_];let[t,ht,hq]:=j A c s H vs Q E (G.deeper _) z;let I:Inv @u_ [] (start N vs) H s1:=MI S G.hd p hl r x;show kE (ht s1 (start N vs) H _ I hq) (λfl M m=>?_) λe M m=>m;let fin:∀{h:St}{i:Hp}{v:V}{u:ae},Inv @u_ [] h i M->RelV v u->Q v i->CE c P w H s Q u M:=λ{h i v u} J T q=>[v,i,J.os,J.bare,J.base,J.bx,T,q];cases fl with|ret u=>let[v,h,i,J,T,q]:=m;show fin J T q|next=>let[h,i,J,q]:=m;show fin (v:=V.aC) (u:=Value.none) J () q|brk=>let[_,_,_,q]:=m;show gA q|cont=>let[_,_,_,q]:=m;show gA q
abbrev Cx.mark(X:Cx)(e:aa):Cx:={X with A:=X.A.mark (B (.ref e)),calm:=ag,xe:=λ_ _=>False}
def Inv.mark(I:Inv X pins a H s)(e:aa):Inv (X.mark e) pins a H s:=[[I.ok.mod,I.ok.kind,I.ok.glob,I.ok.blt,I.ok.above,I.ok.inj,I.ok.has,I.ok.tY,(λz=>nomatch z),I.ok.frames,I.ok.a0,I.ok.wN,I.ok.bs,I.ok.lW,I.ok.ux,I.ok.ua,I.ok.kj,I.ok.oU],I.os,I.bare,I.base,I.loc,I.cell,I.free,I.jw,I.pin,I.bx,I.len]
def Inv.unmark(f:Inv X pins a c d)(I:Inv (X.mark e) pins b H s):Inv X pins b H s:=[f.ok,I.os,I.bare,I.base,I.loc,I.cell,I.free,I.jw,I.pin,I.bx,I.len]
def SP.unmark(d:Inv X pins g j l)(h:SP (X.mark e) pins a f i):SP X pins a f i:=by cases f with|next=>let[b,c,I,q]:=h;show [b,c,d.unmark I,q]|brk=>let[b,c,I,q]:=h;show [b,c,d.unmark I,q]|cont=>let[b,c,I,q]:=h;show [b,c,d.unmark I,q]|ret u=>let[v,b,c,I,r,q]:=h;show [v,b,c,d.unmark I,r,q]
theorem ai5{X:Cx}{x:Str}{C:aa}{body j:List Stmt}{b0:Stmt}{np o pos:Pos}{tb:XK->TS}{th:TS}(top:∃E o0 L,X.stack=E::o0/\X.env.frame=E.frame/\E.frame=B L)(n:X.pn=[])(d:OwnClsQ x C #[.type "Exception",.type "BaseException",.type "object"] "Exception.__new__" X.mg X.base)(hg:Gl X x)(O:∀(t:ae->ak->Prop)(G:XK),eG (X.cm t) G->gF (X.cm t) body (tb G))(hs:∀e,gF (X.mark e) (b0::j) th)(hd:(x==("__debug__":Str))=ag:=by decide):Kn X (.Try body #[.ExceptHandler (B<|.Name x np) Z (b0::j) o] [] [] pos) (λg v H=>tb (λc _ l=>c=.ref C/\∀i:St,i.length=v.length->th g i l) g v H):=by intro s v H g I h;show wpAny_Try_except ?_;generalize hE:(λ(c:ae) (_:Option aa) (l:Hp)=>c=cY C/\∀i:St,i.length=v.length->th g i l)=G at h;generalize Ag:(λ(e:ae) (J:ak)=>wpAny @c_ X.A (noteFrame e X.env) (λ_ M=>wpAny @c_ X.A (setFlight e Z) (λ_ P=>wpAny @c_ X.A (handleBy e X.env #[.ExceptHandler (B<|.Name x np) Z (b0::j) o]) (SP X [] g) X.xe P) X.xe M) X.xe J)=t;let ex:eG (X.cm t) G:=(by let[E,o0,L,t1,t2,t3]:=top;show [[E,o0,L,t1,t2,t3],n,λi l m a Ca Iw Ds q=>?_];let Ib:Inv X [] i l m:=Iw.jC;rw[<-hE]at q;let[qc,q]:=q;cases qc;change t (.ref a) m;rw[<-Ag];change wpAny @c_ X.A (noteFrame (.ref a) X.env) _ _ m;show AN (F:=m7 X l) (cenv:=X.env) (Ib.ok.frames.trans<|by rw[t1]) (by rw[<-t1];show Ib.stack) t2 t3 Ds (λb O=>Ib.so<|vO O) λh1 ch EK ef Q _=>?_;let I1:Inv X [] i l {m with heap:=h1}:=Ib.oP (ch:=ch) (by rw[t1];show ef) n EK;show wU (s:={m with heap:=h1}) (fr:=g6 X.stack) Q λh2 ZG T ef2 p=>?_;let y:Inv X [] i l {m with heap:=h2}:=Inv.oP (s:={m with heap:=h1}) (ch:=ZG) I1 ef2 n T;show handleBy_own (x:=x) (C:=C) (newId:="Exception.__new__") (mg:=X.mg) JI.hasBase ?_;show JC y.ok.kind hg (XN (by rw[y.ok.glob];show y.mod.glob.keeps y.bk) d.bound [(),d.keeps y.bk,?_,?_]) hd;{let[[oe,vs,he,hc,Mj,_],_]:=p;show [oe,he,hc]};show wU (s:={m with heap:=h2}) (fr:=g6 X.stack) p λh3 ZH W ef3 al8=>?_;let I3:Inv X [] i l {m with heap:=h3}:=Inv.oP (s:={m with heap:=h2}) (ch:=ZH) y ef3 n W;let hl:i.length=v.length:=(by rw[I3.len,I.len]);show kE (hs a [] _ i l g (I3.mark a)<|q i hl) (λf s4 r=>r.unmark I3) λ_ _ z=>gA z);show kE (O t G ex [] s v H g (I.cm t) h) (λf s1 r=>?_) λe s1 he=>he;let r:=r.jC;cases f with|next=>let[i,l,I',q]:=r;change wpAny _ _ (execs [] X.env) _ _ _;show zg [i,l,I',q]|brk=>show r|cont=>show r|ret u=>show r
abbrev Cx.back(X:Cx):ae->ak->Prop:=notedBy @c_ X.A X.env<|cameBackBy @c_ X.A X.env X.xe
def LO(c:eG X E):eG (X.cm X.back) E:=by let[t,u,L,h,p,r]:=c.top;show [[t,u,L,h,p,r],c.pn,λj H s a C v l q=>?_];let I:Inv X [] j H s:=v.jC;change wpAny @c_ X.A (noteFrame (.ref a) X.env) _ _ s;show AN (F:=m7 X H) (cenv:=X.env) (I.ok.frames.trans<|by rw[h]) (by rw[<-h];show I.stack) p r l (λb O=>I.so<|vO O) λi ch m x d e=>?_;let y:Inv X [] j H {s with heap:=i}:=I.oP (ch:=ch) (by rw[h];show x) c.pn m;let[P,Q,T,z,G,J]:=e;unfold cameBackBy;show aZ<|j7 (s:={s with heap:=i}) z G J ?_;rw[aaa (show¬((cY T==Value.none)=Y)by simp)];show wU (s:={s with heap:=i}) (fr:=g6 X.stack) d λM n f o g=>c.xe j H {s with heap:=M} a C (Inv.oP (s:={s with heap:=i}) (ch:=n) y o c.pn f) g q
section
variable{X:Cx}{E:XK}{pos:Pos}
def ai6(A:eG X E)(C:∀i,eG (X.cm i) E->PT (X.cm i) c r)(O:∀i,eG (X.cm i) E->gF (X.cm i) body tb):PS X (.While c body [] pos)<|mG r tb:=by{
let t:=LO A;intro d s F H a I h;let[W,[G,J],turn]:=h;show wpAny_While<|codeAny_whileLoop (λn M=>∃j u,Inv X d j u M/\W n j u) ?_ G [F,H,I,J];rintro n P ⟨g,w,Q,T⟩;show bz (C _ t d P g w _ (Q.cm _)<|turn n g w T) λb s2 ⟨x,y,q2⟩=>?_;cases b with
|true=>let[N,z,q2]:=q2;rw[aab ()];show bz (O _ t d s2 g x _ y q2) λf s3 q3=>?_;let q3:=q3.jC;cases f with|next=>let[e,l,m,et]:=q3;let[o,p,q]:=z e l et;show [o,p,e,l,m,q]|cont=>let[e,l,m,et]:=q3;let[o,p,q]:=z e l et;show [o,p,e,l,m,q]|brk=>show q3|ret v=>show q3
|false=>rw[aaa gT];show zg [g,x,y.jC,q2]}
def aiZ(ex:eG X E)(hc:X.calm=Y)(hi:PI X Q iter wi)(hg:∀A,eG (X.cm A) E->PG (X.cm A) Q g)(O:∀A,eG (X.cm A) E->gF (X.cm A) body tb)(hs:∀x,foldedSetIterable iter X.env x=pure x:=by intro _;rfl):PS X (.For Q iter body [] pos)<|fH wi g tb:=by{
let xb:=LO ex;intro c s σ H a I h;show wpAny_For (bz (hi c s σ H _ I h) λv s1 h1=>bz h1 λitv s2 h2=>?_) hs;let[it,C,tn,J,H2,e,I2,T,BL,f2,W,[m0,w0],turn]:=h2;subst e;let l:∀{y:Hp},(∀b∈C,y b=Z)->∀b∈C,la X c y b:=λhn b O=>[hn b O,(f2 b O).2];show codeAny_forLoop_any (λn s'=>∃i p y,Inv X c p y s'/\tn i s'.heap/\(∀b∈C,y b=Z)/\W i n p y) ?_ m0 [0,σ,H2,I2,BL,λb O=>(f2 b O).1,w0];rintro n s3 ⟨i,q,P,I3,F,G,w3⟩;rcases turn i n q P w3 with⟨stop,qn⟩|⟨go,N,hN,step⟩
.show bz (T.done X () rfl rfl hc i c s3 q P _ I3 (l G) F stop) λr s4 ⟨hr,I4⟩=>?_;subst hr;show zg [q,P,I4,qn]
show bz (T.item X () rfl rfl hc i c s3 q P _ I3 (l G) F go) λr s4 ⟨u,hr,h4⟩=>?_;subst hr;show bz h4 λ_ s5 ⟨x,H5,I5,r5,y5,z,fr5⟩=>?_;let Yx:=I5.pinned (l fr5)<|T.obj _ _ z;show bz (hg _ xb _ s5 q H5 x u _ (Yx.cm _) r5<|step x H5 y5) λ_ s6 ⟨σ6,H6,I6,q6⟩=>?_;show bz (O _ xb _ s6 σ6 H6 _ I6 q6) λf s7 q7=>?_;let q7:=q7.jC;let again:∀{j:St}{t:Hp},Inv X (c++xI C s5.heap) j t s7->N j t->∃m,m<n/\∃i p y,Inv X c p y s7/\tn i s7.heap/\(∀b∈C,y b=Z)/\W i m p y:=λ{j t} w M=>by let[m',hm,w7]:=hN j t M;show [m',hm,i+1,j,t,w.B1,T.keep _ _ _ z λb O o e=>(w.pin (b,o)<|pV _<|pV _<|Fo O e).1,λb O=>?_,w7];let[o,e,d]:=T.obj _ _ z b O;show(w.pin (b,o)<|pV _<|pV _<|Fo O e).2.1
cases f with|next=>let[j,t,w,M]:=q7;show again w M|cont=>let[j,t,w,M]:=q7;show again w M|brk=>let[j,t,w,q7]:=q7;show [j,t,w.B1,q7]|ret v=>let[x7,j,t,w,r7,q7]:=q7;show [x7,j,t,w.B1,r7,q7]}
end
structure aH where
 K:aR
 ad:Str->aa
 dk:List<|aa×List (Key×V)
def xR:R2:=iC λi j=>.int<|i-j
def kR:R2:=rI v7 λi j=>.int<|i*j
def Bc:R2:=rI C_ λi j=>.int<|i/j
def xO:R2:=rI (λ_ j=>0<j) λi j=>.int<|i % j
def GK:R2:=rI Dc λi j=>.int<|i*2^j.toNat
def Bj:R2:=rI (λ_ j=>0<=j) λi j=>.int<|i/2^j.toNat
def A_:R2:=iC λi j=>.int<|JB i j
def fS:R2:=iC λi j=>.bl<|~~~(i<j)
def df:R2:=iC λi j=>.bl<|~~~(i<=j)
def ek:R2:=iC λi j=>.bl<|~~~(j<i)
def fG:R2:=iC λi j=>.bl<|~~~(j<=i)
def nO:R2:=λx y H Q=>y=.aC/\Q (.bl<|~~~(x=.aC)) H
def fT:R2:=λx y H Q=>y=.aC/\Q (.bl<|!~~~(x=.aC)) H
def jc:V->Hp->VK->Prop:=rU λi=>.int<|-i
def ajs:R2:=λx y H Q=>∃i j,x=.str i/\y=.str j/\i.length+j.length<=sizeLine/\Q (.str<|i++j) H
def ib(K:aR):R2:=λx y H Q=>iC (λi j=>.int<|i+j) x y H Q\/ajs x y H Q\/OZ x y H Q\/O0 K x y H Q
def ic(K:aR):R2:=λx y H Q=>O3 x y H Q\/O4 K x y H Q
def eE(K:aR):R2:=λx y H Q=>Pn x y H Q\/Po K x y H Q
def v8(G:aH)(H:Hp)(a:aa)(y:V)(r:Option V):Prop:=k9 H a y r\/∃b k,(a,b)∈G.dk/\y=kV k/\r=eF b k
def dy(G:aH)(neg:Bool):R2:=λx y H Q=>GF G.K neg x y H Q\/∃a o,y=.ref a/\v8 G H a x o/\Q (.bl (if neg then !o.isSome else o.isSome)) H
def fg(G:aH):R2:=λx y H Q=>Pd G.K x y H Q\/∃a v,x=.ref a/\v8 G H a y (B v)/\Q v H
def nP:zy:=λo i v H Q=>(∃a b,o=.ref a/\v9 H a i v b/\Q b)\/Pt o i v H Q
def gP(K:aR):List V->Hp->VK->Prop:=λb H Q=>(∃p a,b=#[.ref p]/\(bE K H p a\/cP K H p a)/\Q (.int a.length) H)\/∃z,b=#[.str z]/\z.length<=sizeLine/\Q (.int z.length) H
def xQ:List V->Hp->VK->Prop:=λa H Q=>∃x,a=#[.str x]/\x.length=1/\Q (.int (x.cps.getD 0 0:Nat)) H
def GG:List V->Hp->VK->Prop:=λb H Q=>∃a n,b=#[.str a]/\Ym a=B n/\a.length<=640/\Q (.int n) H
def sD:List V->Hp->VK->Prop:=λa H Q=>∃i,a=#[.int i]/\i.natAbs.log2<1920/\Q (.str<|toString i) H
def GH(K:aR):List V->Hp->VK->Prop:=λb H Q=>∃p a,b=#[.ref p]/\(bE K H p a\/cP K H p a)/\∀l,H l=Z->Q (.ref l) (upd H l<|.lst a)
def Bb(K:aR):List V->Hp->VK->Prop:=λe H Q=>∃(a:aa) (c:List aa) (b:List<|Key×V),e=#[.ref a]/\bE K H a (c.map V.ref)/\Paired (λp d=>cP K H p #[kV d.1,d.2]) c b/\∀p,H p=Z->Q (.ref p) (upd H p<|.dK<|kN [] b)
def sC:List V->Hp->VK->Prop:=λe H Q=>(∃i j,e=#[.int i,.int j]/\Q (.int (if j>i then j else i)) H)\/∃(a b c d m:Int),e=#[.int a,.int b,.int c,.int d]/\m=max (max (max a b) c) d/\Q (.int m) H
def Bk:V->List V->Hp->VK->Prop:=λx c H Q=>∃a b,x=.str a/\c=#[.str b]/\(b.length==0)=ag/\a.length+2<=sizeLine/\GI (Txt.split a b) H Q
def rJoin(K:aR):V->List V->Hp->VK->Prop:=λx c H Q=>∃a p,∃b:List Str,x=.str a/\c=#[.ref p]/\(bE K H p (b.map V.str)\/cP K H p (b.map V.str))/\(b.map (·.length)).sum+b.length*a.length<=16777216/\Q (.str<|vV a b) H
def GA:V->List V->Hp->VK->Prop:=λx c H Q=>∃a b,x=.str a/\c=#[.str b]/\Q (.bl<|zb a b) H
def GB:V->List V->Hp->VK->Prop:=λx c H Q=>∃a b,x=.str a/\c=#[.str b]/\Q (.int<|vT a b) H
def Bd:V->List V->Hp->VK->Prop:=λx b H Q=>∃a,x=.str a/\b=[]/\True/\Q (.bl<|vU a) H
def bC(tab:List<|aa×Sp)(m:Str)(E:XK)(ta:TE)(t:TA):TE:=λb H Q=>ta b H λx c=>∃a C d e fs,x=.ref a/\(C,d)∈tab/\c a=B (.ins C e fs)/\fs.lookup m=Z/\t b c λf g=>d (x::f) g Q E
def BR(tab:List<|aa×Sp)(E:XK)(d:TE)(t:TA):TE:=λb H Q=>d b H λx e=>∃a c,x=.ref a/\(a,c)∈tab/\t b e λf g=>c f g Q E
def Pa(K:aR):V->List V->Hp->VK->Prop:=λx d H Q=>∃(a:aa) (b:List V) (y:V) (j:Nat) (z:V),x=V.ref a/\d=#[y]/\cP K H a b/\fM y=Y/\b.all fM=Y/\b[j]?=B z/\hW z y=Y/\(∀(m:Nat)(c:V),m<j->b[m]?=B c->hW c y=ag)/\Q (.int (j:Nat)) H
def vd(K:aR)(to:TE)(t:TA):TE:=λb H Q=>to b H λx a=>(yp K "list" x a/\t b a λc d=>acy K x c d Q)\/(yp K "tuple" x a/\t b a λc d=>Pa K x c d Q)
def BS(G:aH)(d e f:TE):TE:=λc H Q=>d c H λx g=>∃a b,x=.ref a/\(a,b)∈G.dk/\e c g λy h=>f c h λz i=>∃k,y=kV k/\Q ((eF b k).getD z) i
def dB(C:aa)(E:XK):TS:=λ_ _ H=>E (.ref C) Z H
def sR(C:aa)(body:XK->TS)(h:TS):TS:=λa d H=>body (λc _ e=>c=.ref C/\∀b:St,b.length=d.length->h a b e) a d H
def f7(K:aR)(d:TE):TI:=λe H R=>d e H λx b=>(∃a,x=.ref a/\(∃c,bE K b a c)/\R (Dd K a) b)\/(∃a,x=.ref a/\(∃c,cP K b a c)/\R (De K a) b)\/∃z,x=.str z/\R (Kk z) b
def Km(K:aR)(a b:aa):It:=[λi H=>∃(c d:List V) (x y:V),bE K H a c/\cP K H b d/\c[i]?=B x/\d[i]?=B y,λi H v e=>∃T x y,v=.ref T/\H T=Z/\e=upd H T (.tup #[x,y])/\(∀c,bE K H a c->c[i]?=B x)/\∀d,cP K H b d->d[i]?=B y,λi H=>∃c d:List V,bE K H a c/\cP K H b d/\(c.length<=i\/d.length<=i)]
def rV(K:aR)(ta:TA):TI:=λe H R=>ta e H λf c=>∃a b g d,f=#[.ref a,.ref b]/\bE K c a g/\((bE K c b d/\R (Kl K a b) c)\/(cP K c b d/\R (Km K a b) c))
abbrev mK(k n:Nat)(t:XK->TS):Sp:=λa H Q E=>a.length=n/\t E {nx:=λ_ b=>Q .aC b,rt:=Q} (a.map B++yK (k-a.length) Z) H
abbrev mS(N:List Str)(n:Nat)(t:XK->TS):Sp:=mK N.length n t
@[irreducible] def qS(i k n:Nat)(t:aH->XK->TS)(G:aH):Sp:=mK k n<|t G
def sy(i k n:Nat)(t:aH->XK->TS)(G:aH):qS i k n t G=mK k n (t G):=by unfold qS;rfl
def TopD(X:Cx)(G:aH):Prop:=∀a b,(a,b)∈G.dk->(a==sysModules)=ag/\∃c,KV b c/\X.base.DictOf (fQ X.prog X.w) a c
section
variable{X:Cx}{G:aH}{pins:List<|aa×Obj}{σ:St}{H:Hp}{s:ak}{a:aa}{y v d:V}{u r:ae}{o:Option V}{A:Around}{E:ae->ak->Prop}
def TopD.at_(b:TopD X G)(I:Inv X pins σ H s)(h:(a,kvs)∈G.dk):(a==sysModules)=ag/\∃vs,KV kvs vs/\s.heap.DictOf (fQ X.prog X.w) a vs:=by let[c,vs,rel,e]:=b a kvs h;let[o,f,g,i,j]:=e;show [c,vs,rel,o,f,g,I.bk _ _ i,j]
def abA(b:TopD X G)(m:A.units+1<cLine)(I:Inv X pins σ H s)(g:v8 G H a y<|B v)(f:RelV y u)(h:∀c i,Inv X pins σ H i->RelV v c->Q c i):s.TypeIs (.ref a) "dict"/\wpAny @c_ A (getItem (.ref a) u) Q E s:=by(rcases g with g|⟨n,k,p,rfl,l⟩);{show [aaA I g,aao m I g f h]};let[x,q,rel,j]:=b.at_ I p;let[c,t,e]:=il.some_of (v:=v) (o:=valueAt q k) (by rw[l];show rel.val k);show [j.typeIs,wpAny_getItem_of (nE f) j.mapOf t<|h c _ (I.tok _) e]
def abB(b:TopD X G)(f:A.units+1<cLine)(I:Inv X pins σ H s)(g:v8 G H a y o)(c:RelV y u)(h:∀e,Inv X pins σ H e->Q (.bool o.isSome) e):wpAny @c_ A (compareOp .In u<|.ref a) Q E s:=by(rcases g with g|⟨i,k,j,rfl,l⟩);{show aap f I g c h};let[m,p,rel,n]:=b.at_ I j;show wpAny_in_of (nE c) m n.mapOf ?_;rw[<-(rel.val k).rX,<-l];show h _<|I.tok _
def abC(b:TopD X G)(f:A.units+1<cLine)(I:Inv X pins σ H s)(g:v8 G H a y o)(c:RelV y u)(h:∀e,Inv X pins σ H e->Q (.bool<|!o.isSome) e):wpAny @c_ A (compareOp .NotIn u<|.ref a) Q E s:=by(rcases g with g|⟨i,k,j,rfl,l⟩);{show aat f I g c h};let[m,p,rel,n]:=b.at_ I j;show wpAny_notIn_of (nE c) m n.mapOf ?_;rw[<-(rel.val k).rX,<-l];show h _<|I.tok _
end
section
variable{X:Cx}{G:aH}
def ahM:cE X (binaryOp .Add)<|ib X.K:=ahl.or<|ahm.or<|aho.or ahp
def ahN(a:X.A.units+64<cLine):cE X (compareOp .Eq)<|ic X.K:=ahq.or<|ahr a
def ahP(a:X.A.units+64<cLine):cE X (compareOp .NotEq)<|eE X.K:=ahC.or<|ahD a
def ahO(b:TopD X G)(d:X.K=G.K)(e:X.A.units+1<cLine):cE X (compareOp .In)<|dy G ag:=by show cE.or (d▸ahw) λc s l H x y v u Q I f i h=>?_;let[a,o,rfl,g,q]:=h;cases(show u=cY a from i);show abB b e I g f λm j=>[.bl o.isSome,H,j,(),q]
def ahQ(b:TopD X G)(d:X.K=G.K)(e:X.A.units+1<cLine):cE X (compareOp .NotIn)<|dy G Y:=by show cE.or (d▸ahE) λc s l H x y v u Q I f i h=>?_;let[a,o,rfl,g,q]:=h;cases(show u=cY a from i);show abC b e I g f λm j=>[.bl<|!o.isSome,H,j,(),q]
def EY(b:TopD X G)(l:X.K=G.K)(m:X.A.units+1<cLine):lS X<|fg G:=by{
show lS.or (l▸acX) λvalue slice c s i H x y v u Q I n o h p=>?_;let[a,w,rfl,g,q]:=h;cases(show v=cY a from n);let[j,e]:=abA (E:=X.xe) (Q:=EP X c i Q) b m I g o λC J t z=>[w,H,t,z,q];unfold subscriptTail;show aZ ?_;rw[getitemInPython_of_ne j.not_modules];show aZ<|wpAny_specialOf j PySem.F.slot_dict_getitem.lookup ?_;let fin:wpAny @c_ X.A (subscripted slice ag (.ref a) u) (λr d=>wpAny @c_ X.A (letTemporaryGo value (.ref a) r>>=λ_=>pure r) (EP X c i Q) X.xe d) X.xe s:=by rw[p];show wpAny_operating (kE e (λr d f=>aZ<|wpAny_letTemporaryGo<|cZ f) λ_ _ x=>x)
first
 |show cZ (aZ fin)
 |show aZ (cZ<|aZ fin)
 |show aZ fin}
def akD(j:X.A.units+1<cLine):Dj X nP:=by(intro b s l H o i v c m u Q I d e f h;rcases h with⟨a,n,rfl,g,q⟩|h);{cases(show c=cY a from d);show aau j I g e f λr p=>[n,p,q]};show set_list b s l H o i v c m u Q I d e f h
def ZY:gE X (.builtin "len")<|gP X.K:=Zu.or Zv
end
theorem DJ{f:Nat->Int}{i:Nat}{p q:Int}(a:f (argBest (λi j=>~~~(f i>f j)) i)=p)(b:f (i+1)=q):f (argBest (λi j=>~~~(f i>f j))<|i+1)=max p q:=by change f (if ~~~(f (i+1)>f (argBest (λi j=>~~~(f i>f j)) i))then i+1 else argBest (λi j=>~~~(f i>f j)) i)=max p q;rw[a,b];by_cases z:q>p;{rw[aab<|aae z,b];lia};rw[aaa (z:),a];lia
def four(a b c d:Int):Nat->Int
|0=>a|1=>b
|2=>c|_=>d
def af9(G:A.handled=Z)(fin:∀h' n k,(∀l o,s.heap.get? l=B o->h'.get? l=B o)->Q (.int (max (max (max a b) c) d) k) {s with heap:=h',toks:=n}):wpAny @l_ A (call (.builtin "max") #[.int a t,.int b u,.int c v,.int d x]) Q E s:=by
 let[g,H,I,J,os]:=s;let tup:Heap.IsTuple (JP [g.push {cls:=.type "tuple",data:=.seq<|bS #[.int a t,.int b u,.int c v,.int d x]},H,I,J,os]) g.objs.size<|bS #[.int a t,.int b u,.int c v,.int d x]:=[_,f6 _ (),(),0,()];show call_function_tree F.kind_max F.plain_max F.entry_max (by unfold argsOk;kernel_rfl) ?_
 wp_walk using Ka tup
 generalize z:((bS #[.int a t,.int b u,.int c v,.int d x]):Array ae)=h at tup⊢;let num:∀(i:Nat)(y:ae),h[i]?=B y->∃k,y=.int (four a b c d i) k:=by intro i y f;rw[<-z]at f;match i,f with|0,f=>show [t,(eg f).symm]|1,f=>show [u,(eg f).symm]|2,f=>show [v,(eg f).symm]|3,f=>show [x,(eg f).symm]|n+4,f=>simp at f
 let gO:h.size=4:=by rw[<-z];rfl
 generalize C:g.push {cls:=.type "tuple",data:=.seq h}=m at tup⊢;let r:m.objs.size=g.objs.size+1:=by rw[<-C];show i1 ..
 let p:∀l o,g.get? l=B o->m.get? l=B o:=λl o e=>by rw[<-C];show dh _ e
 show [CY F.plain_max_loop _,?_];let M:(m.push {cls:=.type "tuple_iterator",data:=.fields<|bS #[.ref g.objs.size,.int 0 0]}).objs.size=g.objs.size+2:=by rw[i1,r]
 show codeAny_max_loop_first (Walks.tuple (A:=A.in1) G m.objs.size g.objs.size (by rw[r];show fk<|vI _) h) _ (CmpOf.ints_gt (four a b c d) num) _ (λq=>?_) (by rw[gO];decide) [[_,dh _<|f6 _ (),(),()],(tup.push _).push _] (f6 _ ()) λy h' n f keep=>?_
 .let:(m.push {cls:=.type "tuple_iterator",data:=.fields<|bS #[.ref g.objs.size,.int 0 0]}).objs.size=m.objs.size\/(m.push {cls:=.type "tuple_iterator",data:=.fields<|bS #[.ref g.objs.size,.int 0 0]}).objs.size=g.objs.size:=(q:);lia
 .let[k,rfl]:=num _ _ f;let best:four a b c d (argBest (λi j=>~~~(four a b c d i>four a b c d j)) 3)=max (max (max a b) c) d:=DJ (DJ (DJ () rfl) ()) ();rw[gO];change Q (.int (four a b c d<|argBest (λi j=>~~~(four a b c d i>four a b c d j)) 3) k) _;rw[best];show fin h' n k λl o e=>keep l o (λq=>?_) (λq=>?_)<|dh _<|dh _<|p l o e;{let lt:=cv e;let:l=m.objs.size:=(q:);rw[this,r]at lt;show absurd lt<|Nat.not_lt.mpr<|p5 _};let lt':l<g.objs.size:=cv e;let:l=_:=q;rw[M]at this;rw[this]at lt';show absurd lt'<|Nat.not_lt.mpr<|ox _ _
section
variable{X:Cx}
def ZZ(e:X.calm=Y):gE X (.builtin "max") sC:=by show(Zx e).or λf s g H i j Q I r h=>?_;let[a,b,c,d,m,rfl,rfl,q]:=h;cases r with|cons r1 r=>cases r with|cons r2 r=>cases r with|cons r3 r=>cases r with|cons r4 r=>cases r;let[l,rfl]:=r1;let[n,rfl]:=r2;let[o,rfl]:=r3;let[p,rfl]:=r4;show af9 (I.ok.hd e) λt u k old=>[.int _,H,I.kept old,[k,()],q]
end
def ak5(l:aa)(p:Obj)(items:Array ae)(n:Nat)(z:p.cls=.type "tuple")(o:p.data=.seq items n)(x:ae)(e:ae->Bool)(j:Nat)(C:j<items.size)(hit:e items[j]=Y)(q:∀m (Q:m<items.size),m<j->e items[m]=ag):Meets (Builtin.«tuple.index» [#[.ref l,x],[]])
  (λA R s=>s.heap.get? l=B p/\(∀y,y∈items->JO A.in1 s y x (e y))/\R (.ok<|.ret<|.int j s.toks) {s with toks:=s.toks+1}):=by
 intro a w A R s h;let[F,g,d,t,os]:=s;let[H,G,h]:=h;unfold Builtin.«tuple.index»
 wp_walk using wpAny_loadPart' H
 rw[o]
 wp_walk
 change wpAny _ _ (forIn [:min items.size items.size] ((Z:Option Fin),fo) (λ(i:Nat) (_:Option Fin×Unit)=>match items[i]? with
  |some y=>do
   let b<-eqBool y x
   if b=Y then do
    let r<-retInt (i:Nat)
    pure (ForInStep.done (B r,fo))
    else pure (qP (Z,fo))
  |_=>pure<|qP (Z,fo))) _ _ _
 rw[al4];let sz:[:min items.size items.size].size=items.size:=by simp[al5]
 rw[sz];generalize u:(λ(i:Nat) (_:Option Fin×Unit)=>(match items[i]? with
  |some y=>do
   let b<-eqBool y x
   if b=Y then do
    let r<-retInt (i:Nat)
    pure (ForInStep.done (B r,fo))
    else pure (qP (Z,fo))
  |_=>pure (qP (Z,fo)):Sem<|ForInStep<|Option Fin×Unit))=f
 let loop:∀(k i:Nat)(P:Option Fin×Unit->ak->Prop)(E:ae->ak->Prop),j-i=k->i<=j->P (B<|.done<|.ret<|.int j t,fo) [F,g,d,t+1,os]->wpAny (model a w) A.in1 (forIn (List.range' i (items.size-i) 1) ((Z:Option Fin),fo) f) P E [F,g,d,t,os]:=by
  intro k;induction k with
  |zero=>
   intro i P E I J v;let:i=j:=by lia
   subst this;rw[show items.size-i=(items.size-i-1)+1 by lia,Xg,tm];show aZ ?_;rw[<-u];change wpAny _ _ (match items[i]? with|some y=>_|_=>_) _ _ _;rw[WH C];show aZ<|G _ (WK C) a w _ _ ?_;rw[hit,aab ()]
   wp_walk
   show v
  |succ k M=>
   intro i P E I J v;let c:i<items.size:=by lia
   rw[show items.size-i=(items.size-(i+1))+1 by lia,Xg,tm];show aZ ?_;rw[<-u];change wpAny _ _ (match items[i]? with|some y=>_|_=>_) _ _ _;rw[WH c];show aZ<|G _ (WK c) a w _ _ ?_;rw[q i c @o_,aaa @d_];show cZ ?_;rw[u];show M (i+1) P E @o_ @o_ v
 show loop _ 0 _ _ () (iH _) ?_
 wp_walk
 show h
def agl:jI X "tuple.index"<|Pa X.K:=by{
intro J s σ H x xs v us Q I W f h;let[a,g,y,j,z,rfl,rfl,hs,fy,c,M,i,l,q]:=h;cases W;cases f with|cons ry rt=>
rename_i uy ut;cases rt;let[b,e,ht,hlen]:=I.tuple hs;let[ob,P,T,n,hd]:=ht;let[u,hu,ru]:=e.get M;let[o,p]:=el.mp hu;let hvl:=e.length;let hj:j<b.toArray.size:=(o:);show qe X2 [_,P,T] PySem.F.entry_tuple_index (PySem.F.args_tuple_index_2 _ _)
 (ak5 a ob b.toArray n T hd uy (i9 y) j hj ?_ ?_) [P,λu' r=>sm ry fy e c u' (r:),?_]
.let t:b.toArray[j]=u:=(p:);rw[t,t8 ru<|Af c M];show i
.intro m hm w;let hml:m<b.length:=(hm:);let A:m<g.length:=by lia
 let d:g[m]?=B g[m]:=bF A;let[u2,C,E]:=e.get d;let[_,G]:=el.mp C;let t:b.toArray[m]=u2:=(G:);rw[t,t8 E<|Af c d];show l m _ w d
show [.int (j:Nat),H,I.tok _,[_,()],q]}
section
variable{X:Cx}{G:aH}{o e e2:aw}{es:List aw}{to td ty tx:TE}{t:TA}{apos fB:Pos}
def aia(C:PE X o to)(w:PA X (e::es) t)(c:attributeBase o "index" X.env (eval o X.env)=eval o X.env)(f:((backTo fB<|starEach (e::es) X.env).all (λx=>!x.1)&&(backToKw fB<|keywordEach [] X.env).all (λx=>x.1.isSome)
  &&~~~((e::es).length+([]:List Keyword).length+(if([]:List Keyword).isEmpty then 0 else 1)<30))=Y)
 (d:(apos.endLine==fB.line)=Y)(y:starEach (e::es) X.env=(ag,eval e X.env)::starEach es X.env)(b:(backTo fB<|starEach es X.env).any (·.1)=ag):
 PE X (.Call (.Attribute o "index" apos) (e::es) [] fB) (vd X.K to t):=by
 intro a s g H Q I h;show Yn c f d () (bz (C a s g H _ I h) λv z ⟨x,A,l,r1,i⟩=>?_);rcases i with⟨ty,q1⟩|⟨ty,q1⟩
 .let[i,m]:=BZ l r1 ty;show ["list","list.index",JJ,X0,PySem.F.type_list_index,i,m,?_];let j:=w fB a z g A _ l q1;rw[y]at j⊢;show tL (by change (ag||(backTo fB<|starEach es X.env).any (·.1))=ag;rw[b]<;>rfl)<|y4 ?_;show bz j λn p ⟨q,r,u,r2,q2⟩=>agk a p g r x q v n Q u r1 r2 q2
 .let[i,m]:=BZ l r1 ty;show ["tuple","tuple.index",PySem.F.plainAttrs_tuple,X2,PySem.F.type_tuple_index,i,m,?_];let j:=w fB a z g A _ l q1;rw[y]at j⊢;show tL (by change (ag||(backTo fB<|starEach es X.env).any (·.1))=ag;rw[b]<;>rfl)<|y4 ?_;show bz j λn p ⟨q,r,u,r2,q2⟩=>agl a p g r x q v n Q u r1 r2 q2
def aim(c:TopD X G)(v:PE X o td)(A:PE X e ty)(C:PE X e2 tx)(m:M2 X o "get" apos e e2 fB):PE X (.Call (.Attribute o "get" apos) #[e,e2] [] fB)<|BS G td ty tx:=by intro d s i H Q I h;show wpAny_Call_method m.base m.few m.line PySem.F.plainAttrs_dict XX PySem.F.type_dict_get<|bz (v d s i H _ I h) λu E ⟨x,J,l,M,a,P,T,n,q1⟩=>?_;subst T;obtain rfl:u=cY a:=M;let[hd,vs,rel,p]:=c.at_ l n;show [p.typeIs,λb q=>?_,?_];{cases q;let[W,_,_,h1,h2,_]:=p;show [W,h1,h2.2.1]};rw[m.trees];show tL () (y4 (CJ (bz (A d E i J _ l q1) λiv s2 ⟨y,H2,I2,ry,q2⟩=>CJ (bz (C d s2 i H2 _ I2 q2) λfv s3 ⟨z,H3,r,rz,k,ey,q3⟩=>JE ?_))));subst ey;let[j,vs3,f,g]:=c.at_ r n;show call_meetsIn XX g.typeIs PySem.F.entry_dict_get (PySem.F.args_dict_get_3 _ _ _) (meets_dict_get_default (fQ X.prog X.w) a (nE ry) j fv) [_,g.mapOf,?_];show [_,H3,r.tok _,(f.val k).getD rz,q3]
end
section
variable{X:Cx}{tg:aw}
def aiI(hl:PE X l j):PI X tg l<|f7 X.K j:=by{
intro f s r H R I h;show bz (hl f s r H _ I h) λv c ⟨x,m,d,r1,q1⟩=>?_;rcases q1 with⟨a,e,⟨u,i⟩,q⟩|⟨a,e,⟨u,i⟩,q⟩|⟨z,e,q⟩
.subst e;cases r1;let[g,w,p,y]:=d.list i;show C5 p.isList ?_;show [↑c,#[↑c],_,_,m,(),d.kept (t':=c.toks) λb o e=>dh _ e,ak7 a _,[_,f6 _ (),(),()],λb O=>?_,q];let e:b=↑c:=(O:);subst e;show d.oS (bD _)<|d.bx.fresh<|bD _
.subst e;cases r1;let[g,w,p,y]:=d.tuple i;show Ka (show c.heap.IsTuple a g.toArray from p) ?_;show [↑c,#[↑c],_,_,m,(),d.kept (t':=c.toks) λb o e=>dh _ e,ak_ a _,[_,f6 _ (),(),()],λb O=>?_,q];let e:b=↑c:=(O:);subst e;show d.oS (bD _)<|d.bx.fresh<|bD _
subst e;let[t,rfl]:=r1;cases n:z.cps.all (· <128);{show wpAny_pyIter_wide n<|F8 (tk:=c.toks) d _ (V5 _ z t "str_iterator"<|.inr ()) [_,f6 _ (),(),()] q};show wpAny_pyIter_ascii n<|F8 (tk:=c.toks) d _ (V5 _ z t "str_ascii_iterator"<|.inl ()) [_,f6 _ (),(),()] q}
end
def FnAt(X:Cx)(k:Nat)(f:aa)(sp:Sp):Prop:=qd X.K (.ref f)=Y/\∃a b,Binds X.K a b []/\gW X.prog X.w X.K X.mg X.base (jq X.prog X.w) k f a b sp
section
variable{X:Cx}{E:XK}{k:Nat}{e o:aw}{es:List aw}{tf ta:TE}{t:TA}{x m:Str}{p pos apos:Pos}{tab:List<|aa×Sp}
def aih(g:∀q∈tab,FnAt X k q.1 q.2)(i:eP k X.A)(hx:lb (jq X.prog X.w) X E)(j:PE X (.Name x p) tf)(l:PA X (e::es) t)(n:starEach (e::es) X.env=(ag,eval e X.env)::starEach es X.env)(c:(backTo pos<|starEach es X.env).any (·.1)=ag):PE X (.Call (.Name x p) (e::es) [] pos) (BR tab E tf t):=by intro b s d H Q I h;show rm<|bz (j b s d H _ I h) λv u ⟨y,z,C,r1,a,P,G,J,q1⟩=>?_;subst G;obtain rfl:v=cY a:=r1;let[M,T,ps,O,F]:=g _ J;show ze (h₀:=X.base) I.ok.mod.o4 M (bz (l pos b u d z _ C q1) λus s2 ⟨vs,H2,f,r,q⟩=>[f.iw,?_]) n c;show xX (eQ:=[]) F i O .nil hx f r<|by rw[j3];show q
def Dg(X:Cx)(k:Nat)(m:Str)(C:aa)(sp:Sp):Prop:=jG X.K C/\∃f a b,zv X.K C m f/\Binds X.K a b []/\gW X.prog X.w X.K X.mg X.base (jq X.prog X.w) k f a b sp
def aiu(z:∀q∈tab,Dg X k m q.1 q.2)(G:eP k X.A)(hx:lb (jq X.prog X.w) X E)(J:PE X o ta)(M:PA X (e::es) t)(d:starEach (e::es) X.env=(ag,eval e X.env)::starEach es X.env)(g:(backTo pos<|starEach es X.env).any (·.1)=ag)(P:eval (.Call (.Attribute o m apos) (e::es) [] pos) X.env=(do
  let i<-eval o X.env
  standAt apos.atName
  let(f,first)<-holding #[i] (getMethod i m pl)
  callWith pos f first (backTo pos<|starEach (e::es) X.env) (backToKw pos<|keywordEach [] X.env))):
 PE X (.Call (.Attribute o m apos) (e::es) [] pos) (bC tab m E ta t):=by
 intro b s j H Q I h;show Yj (pl:=pl) (bz (J b s j H _ I h) λu T ⟨y,H1,n,rx,a,C,sp,dx,fs,ex,hm,ea,l,q⟩=>?_) P;subst ex;obtain rfl:u=cY a:=rx;let[c,f,fd,ps,mt,O,F]:=z _ hm;show Md n ea c mt l ?_;show ze (first:=#[.ref a]) (h₀:=X.base) I.ok.mod.o4 mt.kp (bz (M pos b T j H1 _ n q) λus s2 ⟨vs,H2,v,r,q2⟩=>[v.iw,?_]) d g;show xX (eQ:=[]) (us:=.ref a::us) (vs:=.ref a::vs) F G O .nil hx v (.cons () r)<|by rw[j3];show q2
def aiv(i:∀q∈tab,Dg X k m q.1 q.2)(j:eP k X.A)(hx:lb (jq X.prog X.w) X E)(n:PE X o ta)(r:eval (.Call (.Attribute o m apos) [] [] pos) X.env=(do
  let g<-eval o X.env
  standAt apos.atName
  let(f,first)<-holding #[g] (getMethod g m pl)
  callWith pos f first (backTo pos<|starEach [] X.env) (backToKw pos<|keywordEach [] X.env))):
 PE X (.Call (.Attribute o m apos) [] [] pos) (bC tab m E ta aX):=by
 intro b s v H Q I h;show Yj (pl:=pl) (bz (n b s v H _ I h) λu P ⟨y,T,d,z,a,C,sp,dx,fs,G,J,M,l,q⟩=>?_) r;subst G;obtain rfl:u=cY a:=z;let[c,f,fd,ps,mt,O,F]:=i _ J;show Md d M c mt l ?_;show JU (first:=#[.ref a]) d.iw mt.kp<|xX (eQ:=[]) (us:=#[.ref a]) (vs:=#[.ref a]) F j O .nil hx d (.cons () .nil)<|by rw[j3];show q
end
def noStar:aw->Bool|.Starred .. =>ag|_=>Y
def iT(h:noStar e=Y):starEach (e::b) a=(ag,eval e a)::starEach b a:=by cases e<;>first|rfl|cases h
def mF:∀{b:List aw},b.all noStar=Y->(backTo pos<|starEach b a).any (·.1)=ag|[],_=>rfl|e::b,h=>by rw[sX,a6]at h;rw[iT h.1];change (ag||(backTo pos<|starEach b a).any (·.1))=ag;rw[mF h.2];rfl
def Sb:∀{b:List aw},b.all noStar=Y->(backTo pos<|starEach b a).all (λx=>!x.1)=Y|[],_=>rfl|e::b,h=>by rw[sX,a6]at h;rw[iT h.1];change (Y&&(backTo pos<|starEach b a).all (λx=>!x.1))=Y;rw[Sb h.2];rfl
def Ac(h:b.all noStar=Y)(hl:b.length<30):((backTo pos<|starEach b a).all (λx=>!x.1)&&(backToKw pos<|keywordEach [] a).all (λx=>x.1.isSome)
   &&~~~(b.length+([]:List Keyword).length+(if([]:List Keyword).isEmpty then 0 else 1)<30))=Y:=by
 rw[Sb h];change (Y&&Y&&~~~(b.length+0+0<30))=Y;simp[hl]
def A7:aw->Bool|.Call (.Name _ _) [] [] _=>ag|_=>Y
def qp(h:A7 o=Y):attributeBase o f a w=w:=by{
cases o with
|Call c args b pos=>
 cases c with
 |Name id p=>
  cases args with
  |nil=>cases b with|nil=>cases h|cons=>rfl
  |cons=>rfl
 |_=>rfl
|_=>rfl}
def OL:aw->Bool
|.UnaryOp .Not _ _=>ag|.BoolOp .. =>ag
|.IfExp .. =>ag|.Compare .. =>ag
|_=>Y
def akQ(h:OL e=Y):isTrue e a w=(do let v<-w;standAt e.pos;holding #[v] (truthy v)):=by{
cases e with
|UnaryOp b x pos=>cases b<;>first|rfl|cases h
|BoolOp=>cases h|IfExp=>cases h
|Compare=>cases h|_=>rfl}
def AK:aw->Bool|.Slice .. =>ag|_=>Y
def EZ(h:AK b=Y):Ko b:=by intro o i;cases b<;>first|rfl|cases h
def sq:aw->Bool|.Set .. =>ag|_=>Y
def NM(h:sq b=Y):behindInMarks a b=ag:=by cases b<;>first|rfl|cases h
def afj(h:sq c=Y):lastMarks #[d,a] #[b,c]=ag:=NM h
def Ex(h:sq iter=Y)(x:ae):foldedSetIterable iter a x=pure x:=by cases iter<;>first|rfl|cases h
def Fx:aw->Bool
|.ListComp .. =>ag|.SetComp .. =>ag
|.DictComp .. =>ag|_=>Y
def Sn(h:Fx e=Y):swapsWith e t l a=pure ag:=by cases e<;>first|rfl|cases h
def kr:a8->List Obj->a8|h,[]=>h|h,o::r=>kr (h.push o) r
def OQ:∀(l:List Obj)(h:a8),(kr h l).objs.size=h.objs.size+l.length|[],_=>rfl|o::r,h=>by rw[kr,OQ r,i1,bR];lia
def Gr:∀(l:List Obj){h:a8},h.get? c=B u->(kr h l).get? c=B u|[],_,e=>e|o::r,h,e=>Gr r<|dh o e
def OP(a:u.isFreed=ag):∀(l:List Obj){h:a8}(i:Nat),l[i]?=B u->(kr h l).get? (h.objs.size+i)=B u
|[],_,i,e=>by simp at e|o::r,h,0,e=>by let e:o=u:=(e:);subst e;show Gr r (f6 h a)
|o::r,h,i+1,e=>by let:=OP a r (h:=h.push o) i (e:);rw[i1]at this;rw[show h.objs.size+(i+1)=h.objs.size+1+i by lia];show this
def yz(n l1 l2:Nat):List Obj:=#[{cls:=.type "list_iterator",data:=.fields<|bS #[.ref l1,.int 0 0]},{cls:=.type "tuple_iterator",data:=.fields<|bS #[.ref l2,.int 0 0]},{cls:=.type "tuple",data:=.seq<|bS #[.ref n,.ref<|n+1]},{cls:=.type "tuple",data:=.seq<|bS #[.none,.none]},{cls:=.type "zip",data:=.fields<|bS #[.none,.bool ag,.bool ag,.ref<|n+2,.ref<|n+3]}]
section
variable{A:Around}{s:ak}{prog:bU}{w:bj}{E:ae->ak->Prop}
def al2(l1 l2:aa)(xs ys:Array ae):Meets (Builtin.«zip.__new__» [#[.type "zip",.ref l1,.ref l2],[]]) λ_ R s=>s.heap.IsList l1 xs/\s.heap.IsTuple l2 ys/\R (.ok<|.ret<|.ref<|↑s+4) {s with heap:=kr s.heap (yz ↑s l1 l2)}:=
 .of_wp λprog w A R s ⟨g,h,a⟩=>by
  let[b,c,d,f,os]:=s;let k:=PySem.sub_zip;let i:Heap.IsList (JP [b,c,d,f,os]) l1 xs:=g;let j:Heap.IsTuple (JP [b.push {cls:=.type "list_iterator",data:=.fields<|bS #[.ref l1,.int 0 0]},c,d,f,os]) l2 ys:=let⟨o,e,r⟩:=h;[o,dh _ e,r]
  wp_walk using C5 i,Ka j
  let a:R _ [kr b<|yz b.objs.size l1 l2,c,d,f,os]:=a;unfold yz kr kr kr kr kr kr at a;simp only[i1];show [_,(),a]
def ZA(q1:s.heap.IsList l1 xs)(q2:s.heap.IsTuple l2 ys)(h:∀h',p8 h' (↑s+4) (↑s+2) (↑s+3) .none->gD h' (↑s+2) (.ref ↑s) (.ref<|↑s+1)->gD h' (↑s+3) .none .none->h'.IsListIter ↑s l1 0->h'.IsTupleIter (↑s+1) l2 0->h'.objs.size=↑s+5->(∀c o,s.heap.get? c=B o->h'.get? c=B o)->Q (.ref<|↑s+4) {s with heap:=h'}):wpAny @l_ A (call (.type "zip") #[.ref l1,.ref l2]) Q E s:=by
 let at_:∀(i:Nat)(u:Obj),(yz ↑s l1 l2)[i]?=B u->u.isFreed=ag->(kr s.heap<|yz ↑s l1 l2).get? (↑s+i)=B u:=λi u e f=>OP f _ i e;show callType_new F.called_zip @d_ (F.typeCall_zip_2 _ _) (F.newCall_zip_2 _ _) (λo=>F.args_object_init_3 o _ _) F.entry_zip_new (al2 l1 l2 xs ys)
  [q1,q2,[_,at_ 4 _ () rfl,()],h _ (at_ 4 _ () rfl) (at_ 2 _ () rfl) (at_ 3 _ () rfl) [_,at_ 0 _ () rfl,(),()] [_,at_ 1 _ () rfl,(),()] (OQ _ _) λc o e=>Gr _ e]
theorem agA{a l2:aa}{k:Nat}{ys:Array ae}{y:ae}{Q:ae->ak->Prop}(i:s.heap.IsTupleIter a l2 k)(q2:s.heap.IsTuple l2 ys)(n:ys[k]?=B y)(p:∀h',h'.IsTupleIter a l2 (k+1)->vN a s.heap h'->Q y {s with heap:=h'}):wpAny @l_ A (mW<|.ref a) Q E s:=by
 let[x,z,C,G,os]:=s;let j:=i.typeIs;let[o,l,b,c]:=i;let[u,H,d,m,e]:=q2;let[q,I,f,r]:=o;let[t,J,g,v]:=u;let b:q=_:=b;let c:f=_:=c;let d:t=_:=d;let e:g=_:=e;subst b c d e;let h:ys[((k:Int)).toNat]?=B y:=by rw[sW];show n
 unfold mW;show aZ (C3 (name:=dj "__next__") j CN<|C4 CN j XW ?_<|XS _)
 wp_walk
 rw[h];show aZ<|oD l () (vI 1)<|cZ [_,(),cZ<|p _ [_,oB _ l (),(),()]<|y8 _ _ _]
theorem agB{a l2:aa}{k:Nat}{ys:Array ae}{Q:ae->ak->Prop}(p:A.handled=Z)(l:s.heap.IsTupleIter a l2 k)(q2:s.heap.IsTuple l2 ys)(q:ys[k]?=Z)(r:∀h' e,JL a s.heap h'->(∃o,h'.get? e=B o/\o.cls=.type "StopIteration")->E (.ref e) {s with heap:=h'}):wpAny @l_ A (mW<|.ref a) Q E s:=by
 let[z,C,G,H,os]:=s;let n:=l.typeIs;let[[t,I,c,u],v,d,f]:=l;let[[x,J,g,y],M,h,m,i]:=q2;let d:t=_:=d;let f:c=_:=f;let h:x=_:=h;let i:g=_:=i;subst d f h i;let j:ys[((k:Int)).toNat]?=Z:=by rw[sW];show q
 unfold mW;show aZ (C3 (name:=dj "__next__") n CN<|C4 CN n XW ?_<|XS _)
 wp_walk
 rw[j];show aZ<|C7 ?_;show aZ (oD v () (vK 1) ?_)
 wp_walk
 show wpAny_raiseNew_none (show A.in1.handled=Z from p)<|r _ _ (λb o O e=>dh _<|dh _<|(lQ _ _<|Ne.symm O).trans e) [_,f6 _ (),()]
def Draws(prog:bU)(w:bj)(i:aa)(C:a8->Prop)(x:ae)(b:a8->Prop):Prop:=∀(A:Around)(s:ak)(Q:ae->ak->Prop)(E:ae->ak->Prop),C s.heap->(∀a,b a->vN i s.heap a->Q x {s with heap:=a})->wpAny @l_ A (mW<|.ref i) Q E s
theorem al1{z TI TO f d:aa}{C1 r C2 t:a8->Prop}{x y a b:ae}{Q:ae->ak->Prop}(dz:z≠TI/\z≠TO/\z≠f/\z≠d/\TO≠f/\TO≠d/\f≠d)(m:p8 s.heap z TI TO .none)(pI:gD s.heap TI (.ref f)<|.ref d)(pO:gD s.heap TO a b)(d1:Draws prog w f C1 x r)(d2:Draws prog w d C2 y t)(c1:∀h,(∀c,c≠z->h.get? c=s.heap.get? c)->C1 h)(c2:∀h,(∀c,c≠z->c≠TO->c≠f->h.get? c=s.heap.get? c)->C2 h)(hQ:∀h' u p,r u->t p->(∀c o,c≠z->c≠TO->c≠d->u.get? c=B o->h'.get? c=B o)->(∀c o,c≠z->c≠TO->p.get? c=B o->h'.get? c=B o)->p8 h' z TI TO (rawInt ↑s)->gD h' TO x y->gD h' ↑s x y->h'.objs.size=↑s+1->(∀c o,c≠z->c≠TO->c≠f->c≠d->s.heap.get? c=B o->h'.get? c=B o)->Q (.ref ↑s) {s with heap:=h'}):wpAny @l_ A (Builtin.«zip.__next__» [#[.ref z],[]]) (λfin s'=>∃v,fin=.done (.ret v)/\Q v s') E s:=by let[n,gn,dr,tk,os]:=s;let[zTI,i,P,T,W,X,i12]:=dz;change wpAny _ _ (field (.ref z) 2>>=_) _ _ _;show aZ<|j7 m () (x:=.bool ag) () (aZ<|j7 m () (x:=.ref TI) () (aZ<|tN pI () ?_));change wpAny _ _ (XI (.ref z)>>=_) _ _ _;show aZ (show wpAny _ _ (field (.ref z) 0>>=λ_=>_) _ _ _ from aZ<|j7 m () (x:=.none) () (cZ ?_));show(aab ():_=_)▸aZ (C7<|aZ<|j7 m () (x:=.ref TO) () (aZ<|oD m () (vK 4) ?_));let z0:=oB (j6 (·.setIfInBounds 0 vW)) m ();let q:=y8 n z (j6 (·.setIfInBounds 0 vW));generalize n.update z (j6 (·.setIfInBounds 0 vW))=h0 at z0 q⊢;rw[show((bS #[cY f,cY d]).toList.zipIdx)=#[(cY f,0),(cY d,1)]from(),tm];show aZ<|aZ<|aZ<|zi (show wpAny _ _ (mW (.ref f)>>=λv=>pure<|B v) _ _ _ from aZ<|d1 A [h0,gn,dr,tk,os] _ _ (c1 h0 λc J=>q.2 c J) λu e1 C=>cZ ?_);let t1:gD u TO a b:=(C.2 TO W).trans<|(q.2 TO<|Ne.symm i).trans pO;show aZ<|tN t1 () (aZ<|Kc t1 λp t2 F=>aZ<|J9<|cZ ?_);let t2:gD p TO x b:=t2;change wpAny _ _ (forIn #[(cY d,1)] _ _) _ _ _;rw[tm];show aZ<|aZ<|zi (show wpAny _ _ (mW (.ref d)>>=λv=>pure<|B v) _ _ _ from aZ<|d2 A [p,gn,dr,tk,os] _ _ (c2 p λc hz hO kK=>(F.2 c hO).trans<|(C.2 c kK).trans<|q.2 c hz) λh3 e3 G=>cZ ?_);let t3:gD h3 TO x b:=(G.2 TO X).trans t2;show aZ<|tN t3 () (aZ<|Kc t3 λg M H=>aZ<|J9<|cZ ?_);let M:gD g TO x y:=M;change wpAny _ _ (forIn ([]:List<|ae×Nat) _ _) _ _ _;rw[IU];show cZ ?_;change wpAny _ _ (seqItems? (.ref TO)>>=_) _ _ _;show aZ<|tN M () (aZ<|wpAny_newTuple ?_ (hsz:=by change 2<=sizeLine;decide));let g4:∀c,c≠z->c≠TO->c≠f->c≠d->g.get? c=n.get? c:=λc l j I a4=>(H.2 c j).trans<|(G.2 c a4).trans<|(F.2 c j).trans<|(C.2 c I).trans<|q.2 c l;let z4:g.get? z=h0.get? z:=(H.2 z i).trans<|(G.2 z T).trans<|(F.2 z i).trans<|C.2 z P;let gO:g.objs.size=n.objs.size:=H.1.trans<|G.1.trans<|F.1.trans<|C.1.trans q.1;let z5:(g.push {cls:=.type "tuple",data:=.seq<|bS #[x,y]}).get? z=B {cls:=.type "zip",data:=.fields<|bS #[.ellipsis,.bool ag,.bool ag,.ref TI,.ref TO]}:=dh _<|z4.trans z0;let zl:z<n.objs.size:=cv m;let n5:(g.push {cls:=.type "tuple",data:=.seq<|bS #[x,y]}).get? n.objs.size=B {cls:=.type "tuple",data:=.seq<|bS #[x,y]}:=(by rw[<-gO];show f6 _ ());show aZ (show wpAny _ _ (setField (.ref z) 0 (rawInt g.objs.size)>>=λ_=>setField (.ref z) 1<|.bool ag) _ _ _ from aZ<|oD z5 () (vK 4)<|oD (oB _ z5 ()) () (Nat.succ_lt_succ<|vK 3)<|cZ [_,(),?_]);change Q (.ref g.objs.size) _;rw[gO];let up:∀{c:aa}{o:Obj},c≠z->(g.push {cls:=.type "tuple",data:=.seq<|bS #[x,y]}).get? c=B o->(((g.push {cls:=.type "tuple",data:=.seq<|bS #[x,y]}).update z (j6 (·.setIfInBounds 0 (rawInt (n.objs.size:Nat))))).update z (j6 (·.setIfInBounds 1 (.bool ag)))).get? c=B o:=λJ e=>(lQ _ _<|Ne.symm J).trans<|(lQ _ _<|Ne.symm J).trans e;show hQ _ u h3 e1 e3 (λc o l j I e=>up l<|dh _<|(H.2 c j).trans<|(G.2 c I).trans<|(F.2 c j).trans e) (λc o l j e=>up l<|dh _<|(H.2 c j).trans e) ?_ (up (Ne.symm i)<|dh _ M) (up (p6 zl) n5) ?_ λc o l j I a4 e=>up l<|dh _<|(g4 c l j I a4).trans e;{show oB _ (oB _ z5 ()) ()};show((y8 _ z _).1.trans (y8 _ z _).1).trans<|(i1 ..).trans<|by rw[gO]
def zo(prog:bU)(w:bj)(i:aa)(C:a8->Prop):Prop:=∀(A:Around)(s:ak)(Q:ae->ak->Prop)(E:ae->ak->Prop),A.handled=Z->C s.heap->(∀a e,JL i s.heap a->(∃o,a.get? e=B o/\o.cls=.type "StopIteration")->E (.ref e) {s with heap:=a})->wpAny @l_ A (mW<|.ref i) Q E s
theorem WE{z TI TO i e:aa}{h h':a8}{f:Array y6}{j:Drawn}{tk:Nat}{os:fx}(l:z≠i)(m:h.get? z=B {cls:=.type "zip",data:=.fields<|bS #[.ellipsis,.bool ag,.bool ag,.ref TI,.ref TO]})(hx:JL i h h')(n:∃o,h'.get? e=B o/\o.cls=.type "StopIteration")(p:∀d,(∀c o,c≠z->c≠i->h.get? c=B o->d.get? c=B o)->(∃o,d.get? e=B o/\o.cls=.type "StopIteration")->E (.ref e) [d,f,j,tk,os]):wpAny @l_ A (setField (.ref z) 0 .none) (λ_ r=>E (.ref e) r) E [h',f,j,tk,os]:=by(let a:=hx z _ l m;show oD a () (vK 4)<|p _ (λc o t u g=>(lQ _ _<|Ne.symm t).trans<|hx c o u g) ?_;let[o,g,b]:=n;show [o,(lQ _ _ λq=>?_).trans g,b];subst q;rw[a]at g;cases g;let b:p_ "zip"=p_ "StopIteration":=b;injection b with q);show absurd q @d_
theorem al0{z TI TO f i:aa}{y C C2:a8->Prop}{a b:ae}{Q:Fin->ak->Prop}(nh:A.handled=Z)(dz:z≠TI/\z≠TO/\z≠f/\z≠i/\TO≠f/\TO≠i/\f≠i)(l:p8 s.heap z TI TO .none)(pI:gD s.heap TI (.ref f)<|.ref i)(pO:gD s.heap TO a b)(c1:∀h,(∀c,c≠z->h.get? c=s.heap.get? c)->y h)(c2:∀h,(∀c,c≠z->c≠TO->c≠f->h.get? c=s.heap.get? c)->C2 h)(d:zo prog w f y\/((∃x,Draws prog w f y x C)/\zo prog w i C2))(hE:∀h' e,(∀c o,c≠z->c≠TO->c≠f->c≠i->s.heap.get? c=B o->h'.get? c=B o)->(∃o,h'.get? e=B o/\o.cls=.type "StopIteration")->E (.ref e) {s with heap:=h'}):wpAny @l_ A (Builtin.«zip.__next__» [#[.ref z],[]]) Q E s:=by(let[hp,F,G,H,os]:=s;let[zTI,m,n,I,J,Oi2,i12]:=dz;change wpAny _ _ (field (.ref z) 2>>=_) _ _ _;show aZ<|j7 l () (x:=.bool ag) () (aZ<|j7 l () (x:=.ref TI) () (aZ<|tN pI () ?_));change wpAny _ _ (XI (.ref z)>>=_) _ _ _;show aZ (show wpAny _ _ (field (.ref z) 0>>=λ_=>_) _ _ _ from aZ<|j7 l () (x:=.none) () (cZ ?_));show(aab ():_=_)▸aZ (C7<|aZ<|j7 l () (x:=.ref TO) () (aZ<|oD l () (vK 4) ?_));let M:=oB (j6 (·.setIfInBounds 0 vW)) l ();let j:=y8 hp z (j6 (·.setIfInBounds 0 vW));generalize hp.update z (j6 (·.setIfInBounds 0 vW))=q at M j⊢;rw[show((bS #[cY f,cY i]).toList.zipIdx)=#[(cY f,0),(cY i,1)]from(),tm];rcases d with d|⟨⟨x,d1⟩,d⟩);{show aZ<|aZ<|aZ<|zi (show wpAny _ _ (mW (.ref f)>>=λv=>pure<|B v) _ _ _ from aZ<|d A [q,F,G,H,os] _ _ nh (c1 q λc P=>j.2 c P) λh1 e hx T=>WE n M hx T λt k r=>hE t e (λc o p _ W _ g=>k c o p W<|(j.2 c p).trans g) r)};show aZ<|aZ<|aZ<|zi (show wpAny _ _ (mW (.ref f)>>=λv=>pure<|B v) _ _ _ from aZ<|d1 A [q,F,G,H,os] _ _ (c1 q λc P=>j.2 c P) λh1 e1 u=>cZ ?_);let t1:gD h1 TO a b:=(u.2 TO J).trans<|(j.2 TO<|Ne.symm m).trans pO;show aZ<|tN t1 () (aZ<|Kc t1 λt t2 X=>aZ<|J9<|cZ ?_);change wpAny _ _ (forIn #[(cY i,1)] _ _) _ _ _;rw[tm];let z2:=(X.2 z m).trans<|(u.2 z n).trans M;show aZ<|aZ<|zi (show wpAny _ _ (mW (.ref i)>>=λv=>pure<|B v) _ _ _ from aZ<|d A [t,F,G,H,os] _ _ nh (c2 t λc hz hO kK=>(X.2 c hO).trans<|(u.2 c kK).trans<|j.2 c hz) λh3 e hx T=>WE I z2 hx T λh4 k r=>hE h4 e (λc o p a2 W a4 g=>k c o p a4<|(X.2 c a2).trans<|(u.2 c W).trans<|(j.2 c p).trans g) r)
theorem alY{z TI TO f g l1 l2:aa}{k1 k2:Nat}{xs ys:Array ae}{x y a b:ae}{Q:Option ae->ak->Prop}(d:ZipApart z TI TO f g l1 l2)(l:p8 s.heap z TI TO .none)(n:gD s.heap TI (.ref f)<|.ref g)(pO:gD s.heap TO a b)(p:s.heap.IsListIter f l1 k1)(q:s.heap.IsTupleIter g l2 k2)(q1:s.heap.IsList l1 xs)(q2:s.heap.IsTuple l2 ys)(t:xs[k1]?=B x)(u:ys[k2]?=B y)(v:∀h',p8 h' z TI TO (rawInt ↑s)->gD h' TO x y->h'.IsListIter f l1 (k1+1)->h'.IsTupleIter g l2 (k2+1)->gD h' ↑s x y->h'.objs.size=↑s+1->(∀c o,c≠z->c≠TO->c≠f->c≠g->s.heap.get? c=B o->h'.get? c=B o)->Q (B<|.ref ↑s) {s with heap:=h'}):wpAny @l_ A (pyNext<|.ref z) Q E s:=by let m:s.TypeIs (.ref z) "zip":=[_,l,()];let C:z≠TI/\z≠TO/\z≠f/\z≠g/\TO≠f/\TO≠g/\f≠g:=[d.TIz.symm,d.TOz.symm,d.i1z.symm,d.i2z.symm,d.TOi1,d.TOi2,d.i12];let G:Draws prog w f (λh=>h.IsListIter f l1 k1/\h.IsList l1 xs) x λh=>h.IsListIter f l1<|k1+1:=λA s Q E c k=>Yp c.1 c.2 t k;let H:Draws prog w g (λh=>h.IsTupleIter g l2 k2/\h.IsTuple l2 ys) y λh=>h.IsTupleIter g l2<|k2+1:=λA s Q E c k=>agA c.1 c.2 u k;let I:∀h:a8,(∀c,c≠z->h.get? c=s.heap.get? c)->h.IsListIter f l1 k1/\h.IsList l1 xs:=λh k=>[let⟨o,e,r⟩:=p;[o,(k f d.i1z).trans e,r],let⟨o,e,r⟩:=q1;[o,(k l1 d.l1z).trans e,r]];let J:∀h:a8,(∀c,c≠z->c≠TO->c≠f->h.get? c=s.heap.get? c)->h.IsTupleIter g l2 k2/\h.IsTuple l2 ys:=λh k=>[let⟨o,e,r⟩:=q;[o,(k g d.i2z d.TOi2.symm d.i12.symm).trans e,r],let⟨o,e,r⟩:=q2;[o,(k l2 d.l2z d.l2TO d.l2i1).trans e,r]];unfold pyNext;show aZ<|wpAny_attempt<|C3 (name:=dj "__next__") m CO<|C4 CO m F.entry_zip_next (al1 C l n pO G H I J λh' h1 h2 M P i j T W X g4 g5=>cZ<|v h' T W (let⟨o,e,r⟩:=M;[o,i f o d.i1z d.TOi1.symm d.i12 e,r]) (let⟨o,e,r⟩:=P;[o,j g o d.i2z d.TOi2.symm e,r]) X g4 g5)<|XT _
theorem alZ{z TI TO i j l1 l2:aa}{k1 k2:Nat}{xs ys:Array ae}{a b:ae}{Q:Option ae->ak->Prop}(l:A.handled=Z)(f:ZipApart z TI TO i j l1 l2)(p:p8 s.heap z TI TO .none)(u:gD s.heap TI (.ref i)<|.ref j)(pO:gD s.heap TO a b)(v:s.heap.IsListIter i l1 k1)(y:s.heap.IsTupleIter j l2 k2)(q1:s.heap.IsList l1 xs)(q2:s.heap.IsTuple l2 ys)(m:xs[k1]?=Z\/ys[k2]?=Z)(C:∀h',(∀c o,c≠z->c≠TO->c≠i->c≠j->s.heap.get? c=B o->h'.get? c=B o)->Q Z {s with heap:=h'}):wpAny @l_ A (pyNext<|.ref z) Q E s:=by let t:s.TypeIs (.ref z) "zip":=[_,p,()];let G:z≠TI/\z≠TO/\z≠i/\z≠j/\TO≠i/\TO≠j/\i≠j:=[f.TIz.symm,f.TOz.symm,f.i1z.symm,f.i2z.symm,f.TOi1,f.TOi2,f.i12];let H:∀h:a8,(∀c,c≠z->h.get? c=s.heap.get? c)->h.IsListIter i l1 k1/\h.IsList l1 xs:=λh k=>[let⟨o,e,r⟩:=v;[o,(k i f.i1z).trans e,r],let⟨o,e,r⟩:=q1;[o,(k l1 f.l1z).trans e,r]];let I:∀h:a8,(∀c,c≠z->c≠TO->c≠i->h.get? c=s.heap.get? c)->h.IsTupleIter j l2 k2/\h.IsTuple l2 ys:=λh k=>[let⟨o,e,r⟩:=y;[o,(k j f.i2z f.TOi2.symm f.i12.symm).trans e,r],let⟨o,e,r⟩:=q2;[o,(k l2 f.l2z f.l2TO f.l2i1).trans e,r]];let d:zo prog w i (λh=>h.IsListIter i l1 k1/\h.IsList l1 xs)\/((∃x,Draws prog w i (λh=>h.IsListIter i l1 k1/\h.IsList l1 xs) x λh=>h.IsListIter i l1<|k1+1)/\zo prog w j (λh=>h.IsTupleIter j l2 k2/\h.IsTuple l2 ys)):=(by cases n:xs[k1]? with|none=>show .inl λA s Q E l c k=>wpAny_nextOf_list_end l c.1 c.2 n k|some x=>(rcases m with q|q);{rw[n]at q;cases q};show .inr [[x,λA s Q E c k=>Yp c.1 c.2 n k],λA s Q E l c k=>agB l c.1 c.2 q k]);unfold pyNext;show aZ<|wpAny_attempt<|C3 (name:=dj "__next__") t CO<|C4 CO t F.entry_zip_next (al0 (by first|show l|rfl) G p u pO H I d λh' e g J=>?_)<|XT _;let[o,M,P]:=J;show aZ<|wpAny_isInstance (T:="StopIteration") (b:=Y) [o,M,P] isSubtype_stop<|cZ<|C h' g
end
theorem alb{P:bU}{w:bj}{K:aR}{elts:List aw}{kk:Nat}{BY:Pos}{a b z TI TO m n:aa}(d:ZipApart z TI TO m n a b):Turn P w K (.Tuple elts kk BY) (Km K a b) #[z,TI,TO,m,n] z (λi h=>p8 h z TI TO .none/\gD h TI (.ref m) (.ref n)/\(∃x y,gD h TO x y)/\h.IsListIter m a i/\h.IsTupleIter n b i) where
 mem:=by simp
 obj:=λi h st c hc=>by
  let[C,e,[x,y,f],[o1,e1,_,d1],[o2,e2,_,d2]]:=st;let e':c=z\/c=TI\/c=TO\/c=m\/c=n:=(hc:);rcases e' with q|q|q|q|q
  .rw[q];show [_,C,λv q=>nomatch q]
  .rw[q];show [_,e,λv q=>nomatch q]
  .rw[q];show [_,f,λv q=>nomatch q]
  .rw[q];show [o1,e1,λv q=>by rw[d1]at q;cases q]
  .rw[q];show [o2,e2,λv q=>by rw[d2]at q;cases q]
 keep:=λi h h' st k=>by let[C,e,[x,y,f],M,T]:=st;show [k z @s_ _ C,k TI @s_ _ e,[x,y,k TO @s_ _ f],M.at λo q=>k m @s_ o q,T.at λo q=>k n @s_ o q]
 item:=by
  intro X hP hw hK hc i F s σ H E I hf st hg;subst hP hw hK;let[C,e,[x0,y0,f],M,T]:=st;let[xs,ys,x,y,r,t,hx,hy]:=hg;let[h8,rv,p,_]:=I.list r;let[j,G,p2,_]:=I.tuple t;let[u,hu,ru]:=rv.get hx;let[u2,ET,GY]:=G.get hy;let w8:z<↑s:=cv C;show alY d C e f M T p.isList (show s.heap.IsTuple b j.toArray from p2) (x:=u) (y:=u2) (hu:) (ET:) λh' z' Dn kK EG hT hsz hk=>?_;show [_,(),Yo (s:={s with heap:=h'}) z' λJ IJ sb=>?_];let wZ:J.get? ↑s=B {cls:=.type "tuple",data:=.seq<|bS #[u,u2]}:=(sb.2 _<|p6 w8).trans hT;let new:eL X.prog X.w (upd H ↑s<|.tup #[x,y]) J ↑s<|.tup #[x,y]:=
   [by change 2<=sizeLine;decide,#[u,u2],.cons ru<|.cons GY .nil,[_,wZ,(),_,()]]
  let I1:Inv X F σ (upd H ↑s<|.tup #[x,y]) {s with heap:=J}:=
   I.Ir (t':=s.toks) (ch:=#[z,TI,TO,m,n]) (λc o O q=>(sb.2 c λg=>O<|by simp[g]).trans<|hk c o (λg=>O<|by simp[g]) (λg=>O<|by simp[g]) (λg=>O<|by simp[g]) (λg=>O<|by simp[g]) q) hf (bD _) new
  show [.ref ↑s,_,I1,(),[_,x,y,(),I.bx.fresh<|bD _,(),λl hl=>by rw[I.xn hl r];show hx,λl hl=>by rw[I.V4 hl t];show hy],[IJ,?_,[u,u2,?_],?_,?_],λc w4=>?_]
  .show(sb.2 _ d.TIz).trans<|hk _ _ d.TIz d.TITO d.TIi1 d.TIi2 e
  .show(sb.2 _ d.TOz).trans Dn
  .show kK.at λo q=>(sb.2 _ d.i1z).trans q
  .show EG.at λo q=>(sb.2 _ d.i2z).trans q
  .let ma:c<↑s:=by
    let e':c=z\/c=TI\/c=TO\/c=m\/c=n:=(w4:);rcases e' with q|q|q|q|q
    .rw[q];show w8
    .rw[q];show cv e
    .rw[q];show cv f
    .rw[q];let[_,e1,_]:=M;show cv e1
    .rw[q];let[_,e2,_]:=T;show cv e2
   rw[cJ<|fk ma];show(hf c w4).1
 done:=by
  intro X hP hw hK hc i F s σ H E I hf st hg;subst hP hw hK;let[C,e,[x0,y0,f],M,T]:=st;let[xs,ys,r,t,EL]:=hg;let[h8,rv,p,_]:=I.list r;let[j,G,p2,_]:=I.tuple t;let l1:=rv.length;let l2:=G.length;let he:h8.toArray[i]?=Z\/j.toArray[i]?=Z:=by
   rcases EL with q|q
   .show .inl @m_
   .show .inr @m_
  show alZ (I.ok.hd hc) d C e f M T p.isList (show s.heap.IsTuple b j.toArray from p2) he λh' hk=>[(),I.V6 (t':=s.toks) (ch:=#[z,TI,TO,m,n]) (λc o O q=>hk c o (λg=>O<|by simp[g]) (λg=>O<|by simp[g]) (λg=>O<|by simp[g]) (λg=>O<|by simp[g]) q) hf]
 self:=λA i s Q E st h=>C6 st.1 h
theorem aiM(hg:Gl X "zip")(hm:X.mg "zip"=Z)(ha:PA X #[e,t] ta)(hs:starEach #[e,t] X.env=(ag,eval e X.env)::starEach #[t] X.env:=by rfl)(C:(backTo pos<|starEach #[t] X.env).any (·.1)=ag:=by rfl):PI X (.Tuple elts kk u) (.Call (.Name "zip" p) #[e,t] [] pos) (rV X.K ta):=by{
intro f s E H R I h;show Call_<|uq I hg hm Zg<|y2 (bz (ha pos f s E H _ I h) λus d ⟨vs,A,g,r1,q1⟩=>?_) hs C;let[a,b,xs,ys,ex,v,hq]:=q1;rcases hq with⟨j,q⟩|⟨j,q⟩
.subst ex;cases r1 with|cons r l=>
 cases l with|cons F l=>
 cases l;cases r;cases F;let[G,rv,w,_]:=g.list v;let[i,J,x,_]:=g.list j;let M:a<↑d:=w.lt;let P:b<↑d:=x.lt;show call_zip_2 w.isList x.isList λQ y m n T h2 hsz hk=>C6 y ?_;let I2:Inv X f E A {d with heap:=Q}:=g.kept (t':=d.toks) hk;show [↑d+4,#[↑d+4,↑d+2,↑d+3,↑d,↑d+1],_,_,A,(),I2,ala<|Yg ↑d a b M P,[y,m,[_,_,n],T,h2],λc o=>?_,q];let e':c=↑d+4\/c=↑d+2\/c=↑d+3\/c=↑d\/c=↑d+1:=(o:);let hle:↑d<=c:=by{
rcases e' with z|z|z|z|z
.rw[z];show ox _ _
.rw[z];show ox _ _
.rw[z];show ox _ _
.rw[z];show bD _
rw[z];show ox _ _};show g.oS hle<|g.bx.fresh hle
subst ex;cases r1 with|cons r l=>
cases l with|cons F l=>
cases l;cases r;cases F;let[G,rv,w,_]:=g.list v;let[i,J,x,_]:=g.tuple j;let M:a<↑d:=w.lt;let P:b<↑d:=x.lt;show ZA w.isList (show d.heap.IsTuple b i.toArray from x) λQ y m n T h2 hsz hk=>C6 y ?_;let I2:Inv X f E A {d with heap:=Q}:=g.kept (t':=d.toks) hk;show [↑d+4,#[↑d+4,↑d+2,↑d+3,↑d,↑d+1],_,_,A,(),I2,alb<|Yg ↑d a b M P,[y,m,[_,_,n],T,h2],λc o=>?_,q];let e':c=↑d+4\/c=↑d+2\/c=↑d+3\/c=↑d\/c=↑d+1:=(o:);let hle:↑d<=c:=by{
rcases e' with z|z|z|z|z
.rw[z];show ox _ _
.rw[z];show ox _ _
.rw[z];show ox _ _
.rw[z];show bD _
rw[z];show ox _ _}
show g.oS hle<|g.bx.fresh hle}
structure Gm where
 G:aH
 E:XK
 N:List Str
 sc:cB
 top:Bool
 cons:List (Str×V)
 fns:List (Str×aa×Sp)
 cls:List (Str×aa×aa×Sp)
 o7:List (Str×List (aa×Sp))
 vals:List (aa×Sp)
 iN:List<|Str×aa
def wz:List Str:=#["len","sum","all","any","max","min","ord","int","str","list","dict","range","enumerate","zip"]
structure Ctx (X:Cx) (g:Gm) (k:Nat):Prop where
 K:X.K=g.G.K
 N:X.N=g.N
 sc:X.env.scope=g.sc
 nd:g.N.Nodup
 nn:∀x∈g.N,(x==("__debug__":Str))=ag/\(x==("__classdict__":Str))=ag
 fn:g.top=Y->∀x,X.fn x=Y
 calm:X.calm=Y
 ex:eG X g.E
 dk:TopD X g.G
 room:eP (k+1) X.A
 fns:∀q∈g.fns,FnAt X k q.2.1 q.2.2/\X.mg q.1=B (.ref q.2.1)/\(q.1==("__debug__":Str))=ag
 cls:∀q∈g.cls,iK X.K q.2.1 q.2.2.1/\(∃fd ps,Binds X.K fd ps []/\gW X.prog X.w X.K X.mg X.base (jq X.prog X.w) k q.2.2.1 fd ps q.2.2.2)/\X.mg q.1=B (.ref q.2.1)/\(q.1==("__debug__":Str))=ag
 o7:∀q∈g.o7,∀p∈q.2,Dg X k q.1 p.1 p.2
 vals:∀q∈g.vals,FnAt X k q.1 q.2
 cons:∀q∈g.cons,(q.1==("__debug__":Str))=ag/\∃u,X.mg q.1=B u/\RelV q.2 u
 blt:∀x∈wz,X.mg x=Z
 iN:∀q∈g.iN,OwnClsQ q.1 q.2 #[.type "Exception",.type "BaseException",.type "object"] "Exception.__new__" X.mg X.base/\(q.1==("__debug__":Str))=ag
structure eh where
 e:Gm->aw->Option TE
 t:Gm->aw->Option TT
 a:Gm->List aw->Option TA
 i:Gm->aw->aw->Option TI
structure fK (r:eh):Prop where
 e:∀{X g k e t},Ctx X g k->r.e g e=B t->PE X e t
 t:∀{X g k e t},Ctx X g k->r.t g e=B t->PT X e t
 a:∀{X g k es t},Ctx X g k->r.a g es=B t->PA X es t
 i:∀{X g k tg e t},Ctx X g k->r.i g tg e=B t->PI X tg e t
def mf(g:Gm)(x:Str):Bool:= ~~~(g.sc.names.lookup x=B .globalImplicit)
section
variable{X:Cx}{g:Gm}{k:Nat}
def Ctx.gl(c:Ctx X g k)(h:mf g x=Y):Gl X x:=by change X.env.scope.names.lookup x=B .globalImplicit;rw[c.sc];show aaL h
def Ctx.u1(c:Ctx X g k):X.A.units+1<cLine:=by let:=c.room.units;lia
def Ctx.V9(c:Ctx X g k):X.A.units+64<cLine:=c.room.units
def look{α:Type}(l:List<|Str×α)(x:Str):Option α:=match l with|[]=>Z|(y,v)::r=>if x=y then B v else look r x
theorem lA{α:Type}{x:Str}{v:α}:∀{l:List<|Str×α},look l x=B v->(x,v)∈l|[],h=>by cases h|(y,w)::r,h=>by unfold look at h;split at h;{rename_i e;cases h;subst e;show gU};show dv _<|lA h
def mj(l:List Str)(x:Str):Option Nat:=match l with|[]=>Z|y::r=>if x=y then B 0 else(mj r x).map (· +1)
def uj:∀{l:List Str}{i:Nat},mj l x=B i->l[i]?=B x|[],_,h=>by cases h|y::r,i,h=>by unfold mj at h;split at h;{rename_i e;cases h;subst e;rfl};cases q:mj r x with|none=>rw[q]at h;cases h|some j=>rw[q]at h;cases h;show(WZ).trans<|uj q
def ID(g:Gm)(x:Str):Bool:=match g.sc.names.lookup x with|some .local=>Y|some .cell=>Y|some .free=>Y|_=>ag
def Ctx.vis(c:Ctx X g k)(h:ID g x=Y):tT X.env.scope x:=by unfold ID at h;unfold tT;rw[c.sc];split at h;{rename_i e;show .inl e};{rename_i e;show .inr<|.inl e};{rename_i e;show .inr<|.inr e};cases h
def xP(g:Gm)(x:Str):Option TE:=if ID g x then(mj g.N x).map ay else if mf g x then(look g.cons x).map tC else Z
theorem Bg(c:Ctx X g k)(h:xP g x=B t):PE X (.Name x p) t:=by unfold xP at h;split at h;{rename_i b;cases q:mj g.N x with|none=>rw[q]at h;cases h|some i=>rw[q]at h;let e:ay i=t:=eg h;rw[<-e];let a:=uj q;let nn:=c.nn x<|bY a;show F6 (by rw[c.N];show a) (c.vis b) nn.1 nn.2};split at h;{rename_i d;cases q:look g.cons x with|none=>rw[q]at h;cases h|some v=>rw[q]at h;let e:tC v=t:=eg h;rw[<-e];let[f,u,j,r]:=c.cons _<|lA q;show Oz (c.gl d) j r f};cases h
def KN(K:aR):Operator->Option R2
|.Add=>B (ib K)|.Sub=>B xR
|.Mult=>B kR|.FloorDiv=>B Bc
|.Mod=>B xO|.LShift=>B GK
|.RShift=>B Bj|.BitAnd=>B A_
|_=>Z
def Zh(c:Ctx X g k)(h:KN g.G.K a=B r):cE X (binaryOp a) r:=by rw[<-c.K]at h;cases a<;>first|(cases h;done)|(cases h;first|show ahM|show ahI|show ahB|show ahs|show ahA|show ahG|show ahH|show ahn)
def zN(G:aH):oA->Option R2
|.Eq=>B (ic G.K)|.NotEq=>B (eE G.K)
|.Lt=>B fS|.LtE=>B df
|.Gt=>B ek|.GtE=>B fG
|.Is=>B nO|.IsNot=>B fT
|.In=>B (dy G ag)|.NotIn=>B<|dy G Y
def D7(c:Ctx X g k)(h:zN g.G a=B r):cE X (compareOp a) r:=by cases a<;>cases h;{show c.K▸ahN c.V9};{show c.K▸ahP c.V9};{show ahz};{show ahy};{show ahv};{show ahu};{show ahx};{show ahF};{show ahO c.dk c.K c.u1};show ahQ c.dk c.K c.u1
end
abbrev R1:=List V->Hp->VK->Prop
def DK(K:aR):List<|Str×String×R1:=#[("len","len",gP K),("sum","sum",mz K),("all","all",pB K),("any","any",uK K),("max","max",sC),("min","min",Bf K),("ord","ord",xQ)]
def DS(K:aR):List<|Str×String×R1:=#[("int","int",GG),("str","str",sD),("list","list",GH K),("dict","dict",Bb K)]
theorem Y_{X:Cx}(a:X.calm=Y):∀q∈DK X.K,gE X (.builtin q.2.1) q.2.2/\bootBuiltins q.1=B (.builtin q.2.1)/\q.1∈wz/\q.1≠"__name__"/\(q.1==("__debug__":Str))=ag:=by{
intro q b;simp only[DK,bh,fZ,aaO]at b;rcases b with rfl|rfl|rfl|rfl|rfl|rfl|rfl
.show [ZY,?_,?_,?_,?_]<;>dsimp only<;>decide+kernel
.show [ZW a,?_,?_,?_,?_]<;>dsimp only<;>decide+kernel
.show [ZT a,?_,?_,?_,?_]<;>dsimp only<;>decide+kernel
.show [ZU a,?_,?_,?_,?_]<;>dsimp only<;>decide+kernel
.show [ZZ a,?_,?_,?_,?_]<;>dsimp only<;>decide+kernel
.show [ZV a,?_,?_,?_,?_]<;>dsimp only<;>decide+kernel
show [Zy,?_,?_,?_,?_]<;>dsimp only<;>decide+kernel}
theorem Zi{X:Cx}(b:X.calm=Y):∀q∈DS X.K,gE X (.type q.2.1) q.2.2/\bootBuiltins q.1=B (.type q.2.1)/\q.1∈wz/\q.1≠"__name__"/\(q.1==("__debug__":Str))=ag:=by{
intro q a;simp only[DS,bh,fZ,aaO]at a;rcases a with rfl|rfl|rfl|rfl
.show [Zt,?_,?_,?_,?_]<;>dsimp only<;>decide+kernel
.show [Zz,?_,?_,?_,?_]<;>dsimp only<;>decide+kernel
.show [Zw,?_,?_,?_,?_]<;>dsimp only<;>decide+kernel
show [Zr b,?_,?_,?_,?_]<;>dsimp only<;>decide+kernel}
section
variable{X:Cx}{g:Gm}{k:Nat}{r:eh}
def Gy(r:eh)(g:Gm)(x:Str)(args:List aw):Option TE:=
 if args.all noStar then
  if mf g x then match look g.fns x with
   |some (_,b)=>(match args with|[]=>B aX|_=>r.a g args).map (dq b [] g.E)
   |none=>match look g.cls x with
    |some (C,_,b)=>(match args with|[]=>B aX|_=>r.a g args).map (dN C b [] g.E)
    |none=>match args with
     |[]=>Z
     |_=>match look (DK g.G.K) x with
      |some (_,c)=>(r.a g args).map (cz c)
      |none=>match look (DS g.G.K) x with
       |some (_,c)=>(r.a g args).map (cz c)
       |none=>Z
  else match args with
   |[]=>Z
   |_=>match xP g x with
    |some d=>(r.a g args).map (BR g.vals g.E d)
    |none=>Z
 else Z
theorem map_some{α c:Type}{f:α->c}{o:Option α}{b:c}(h:o.map f=B b):∃a,o=B a/\f a=b:=by cases o with|none=>cases h|some a=>show [a,(),eg h]
theorem ka{e:aw}{a:List aw}(h:(e::a).all noStar=Y):noStar e=Y/\a.all noStar=Y:=by rw[sX,a6]at h;show h
theorem aju(S:fK r)(c:Ctx X g k){x:Str}{p pos:Pos}{args:List aw}{t:TE}(h:Gy r g x args=B t):PE X (.Call (.Name x p) args [] pos) t:=by unfold Gy at h;split at h;{rename_i b;split at h;{rename_i z;let i:=c.gl z;split at h;{rename_i f A q;let[m,d,rfl]:=map_some h;let[[y,E,G,O,F],j,l]:=c.fns _<|lA q;cases args with|nil=>cases d;show aic F (c.room.mono<|p5 _) i j y O .nil c.ex.pass l|cons e n=>show aib F (c.room.mono<|p5 _) i j y O .nil c.ex.pass (S.a c d) l (iT (ka b).1)<|mF (ka b).2};split at h;{rename_i C f A q;let[m,d,rfl]:=map_some h;let[M,[E,G,O,F],j,l]:=c.cls _<|lA q;cases args with|nil=>cases d;show ait M F c.room i j O .nil c.ex.pass l|cons e n=>show ais M F c.room i j O .nil c.ex.pass (S.a c d) l (iT (ka b).1)<|mF (ka b).2};cases args with|nil=>cases h|cons e n=>dsimp only at h;split at h;{rename_i id H q;let[m,d,rfl]:=map_some h;let[o,s,u,v,w]:=Y_ c.calm _ (by rw[c.K];show lA q);show aid o i (c.blt _ u) s (S.a c d) v w (iT (ka b).1)<|mF (ka b).2};split at h;{rename_i id H q;let[m,d,rfl]:=map_some h;let[o,s,u,v,w]:=Zi c.calm _ (by rw[c.K];show lA q);show aif o i (c.blt _ u) s (S.a c d) v w (iT (ka b).1)<|mF (ka b).2};cases h};cases args with|nil=>cases h|cons e n=>dsimp only at h;split at h;{rename_i I q;let[m,d,rfl]:=map_some h;show aih c.vals (c.room.mono<|p5 _) c.ex.pass (Bg c q) (S.a c d) (iT (ka b).1)<|mF (ka b).2};cases h};cases h
end
section
variable{X:Cx}{g:Gm}{k:Nat}{r:eh}
def NN(O:A7 o=Y)(d:args.all noStar=Y)(hl:args.length<30)(b:(apos.endLine==pos.line)=Y):eval (.Call (.Attribute o m apos) args [] pos) a=(do
  let c<-eval o a
  standAt apos.atName
  let(f,first)<-holding #[c] (getMethod c m (do return (<-importBound o a).getD Y))
  callWith pos f first (backTo pos<|starEach args a) (backToKw pos<|keywordEach [] a)):=by
 let e:eval (.Call (.Attribute o m apos) args [] pos) a=(do
  let c<-attributeBase o m a (eval o a)
  standAt apos.atName
  methodCall o m apos pos a c (args.length+([]:List Keyword).length) (backTo pos<|starEach args a) (backToKw pos<|keywordEach [] a)):=()
 rw[e,qp O];let few:methodCallForm (args.length+([]:List Keyword).length) (backTo pos<|starEach args a) (backToKw pos<|keywordEach [] a)=Y:=Ac d hl;unfold methodCall;simp only[few,calleeOf,methodCallPos,b];rfl
def uL(r:eh)(g:Gm)(x:Str)(m:Str)(apos pos:Pos)(args:List aw):Option TE:=
 if args.all noStar&&~~~(args.length<30)&&(apos.endLine==pos.line)then match look g.o7 m with
  |some tab=>match xP g x with|some b=>(match args with|[]=>B aX|_=>r.a g args).map (bC tab m g.E b)|none=>Z
  |none=>Z
 else Z
def ajB(S:fK r)(c:Ctx X g k)(h:uL r g x m apos pos args=B t):PE X (.Call (.Attribute (.Name x p) m apos) args [] pos) t:=by unfold uL at h;split at h;{rename_i b;rw[a6,a6]at b;let[[b,hlen],d]:=b;let hlen:=aaL hlen;split at h;{rename_i tab q;split at h;{rename_i l f;let[n,i,rfl]:=map_some h;let j:=c.o7 _<|lA q;cases args with|nil=>cases i;show aiv j (c.room.mono<|p5 _) c.ex.pass (Bg c f) (NN () b hlen d)|cons e o=>show aiu j (c.room.mono<|p5 _) c.ex.pass (Bg c f) (S.a c i) (iT (ka b).1) (mF (ka b).2)<|NN () b hlen d};cases h};cases h};cases h
abbrev RM:=V->List V->Hp->VK->Prop
def G0(K:aR):List<|Str×String×RM:=#[("split","str.split",Bk),("join","str.join",rJoin K),("endswith","str.endswith",GA),("find","str.find",GB)]
def aj7:∀q∈G0 X.K,Slot "str" q.1 q.2.1/\typeOf (.builtin q.2.1)=pure (.type "method_descriptor")/\jI X q.2.1 q.2.2:=by{
intro q a;simp only[G0,bh,fZ,aaO]at a;rcases a with rfl|rfl|rfl|rfl
.show [CM,F.type_str_split,agp]
.show [F.slot_str_join,F.type_str_join,agn]
.show [F.slot_str_endswith,F.type_str_endswith,agh]
show [F.slot_str_find,F.type_str_find,agj]}
def Fd:List<|Str×String×RM:=#[("append","list.append",pC),("extend","list.extend",jb)]
def aff:∀q∈Fd,Slot "list" q.1 q.2.1/\typeOf (.builtin q.2.1)=pure (.type "method_descriptor")/\jI X q.2.1 q.2.2:=by(intro q a;simp only[Fd,bh,fZ,aaO]at a;rcases a with rfl|rfl);{show [XY,F.type_list_append,agg]};show [XZ,F.type_list_extend,agi]
def uM(r:eh)(g:Gm)(o:aw)(m:Str)(apos pos:Pos)(args:List aw):Option TE:=
 if A7 o&&(apos.endLine==pos.line)&&args.all noStar then match r.e g o with
  |some b=>match args with
   |[]=>if m="pop" then B (BQ g.G.K "list" Bi b)else if m="isdigit" then B (yl Bd b)else Z
   | #[e]=>match look Fd m with|some (_,c)=>(r.a g #[e]).map (gi g.G.K "list" c b)|none=>match look (G0 g.G.K) m with|some (_,c)=>(r.e g e).map (ks c b)|none=>if m="index" then(r.a g #[e]).map (vd g.G.K b)else Z
   | #[e,d]=>if m="get" then match r.e g e with
    |some f=>(r.e g d).map (BS g.G b f)
    |none=>Z
     else Z
   |_=>Z
  |none=>Z
 else Z
def Pl(S:fK r)(c:Ctx X g k)(h:uM r g o m apos pos args=B t):PE X (.Call (.Attribute o m apos) args [] pos) t:=by unfold uM at h;split at h;{rename_i u;rw[a6,a6]at u;let[[O,f],b]:=u;split at h;{rename_i A v;let i:=S.e c v;cases args with|nil=>dsimp only at h;split at h;{rename_i d;subst d;cases h;rw[<-c.K];show ah_ JJ F.slot_list_pop F.type_list_pop ago i (qp O) f};split at h;{rename_i d;subst d;cases h;show aip F.slot_str_isdigit F.type_str_isdigit agm i (qp O) f};cases h|cons e j=>let st:=ka b;cases j with|nil=>dsimp only at h;split at h;{rename_i id w q;let[x,l,rfl]:=map_some h;let[n,p,s]:=aff (X:=X) _<|lA q;rw[<-c.K];show ah9 JJ n p s i (S.a c l) (qp O) (Ac b @s_) f (iT st.1)<|mF st.2};split at h;{rename_i id w q;let[C,y,rfl]:=map_some h;let[n,p,s]:=aj7 (X:=X) _ (by rw[c.K];show lA q);show aiq n p s i (S.e c y) (iT st.1) (qp O) f};split at h;{rename_i d;subst d;let[x,l,rfl]:=map_some h;rw[<-c.K];show aia i (S.a c l) (qp O) (Ac b @s_) f (iT st.1)<|mF st.2};cases h|cons E j=>cases j with|nil=>dsimp only at h;split at h;{rename_i d;subst d;split at h;{rename_i G z;let[H,hx,rfl]:=map_some h;show aim c.dk i (S.e c z) (S.e c hx) [qp O,Ac b @s_,f,?_];rw[iT st.1,iT (ka st.2).1];rfl};cases h};cases h|cons=>cases h};cases h};cases h
end
section
variable{X:Cx}{g:Gm}{k:Nat}{r:eh}
def xS(g:Gm)(x:Str):Option TG:=match g.sc.names.lookup x with
 |some .local=>(mj g.N x).map aY|some .cell=>if g.top then(mj g.N x).map aY else Z
 |_=>Z
def GN(c:Ctx X g k)(h:xS g x=B t):PG X (.Name x p) t:=by{
unfold xS at h;split at h
.rename_i e;let[i,b,rfl]:=map_some h;let a:X.env.scope.names.lookup x=B .local:=by rw[c.sc];show e
 show F7 (by rw[c.N];show c.nd) (by rw[c.N];show uj b) (.inl a)<|.inr a
.rename_i e;split at h;{rename_i d;let[i,b,rfl]:=map_some h;let a:X.env.scope.names.lookup x=B .cell:=(by rw[c.sc];show e);show F7 (by rw[c.N];show c.nd) (by rw[c.N];show uj b) (.inr a)<|.inl<|c.fn d x};cases h
cases h}
theorem no{α:Type}{a:α}{C:Prop}(h:Z=B a):C:=nomatch h
def o2{α c d:Type}(f:α->c->d)(a:Option α)(b:Option c):Option d:=a.bind λx=>b.map<|f x
def o3{α d e h:Type}(f:α->d->e->h)(a:Option α)(b:Option d)(c:Option e):Option h:=a.bind λx=>o2 (f x) b c
def gd{α:Type}:Bool->Option α->Option α|true,o=>o|false,_=>Z
theorem bd{α b:Type}{a:Option α}{f:α->Option b}{t:b}(h:a.bind f=B t):∃x,a=B x/\f x=B t:=by cases a with|none=>show no h|some x=>show [x,(),h]
theorem lC{α c d:Type}{f:α->c->d}{a:Option α}{b:Option c}{t:d}(h:o2 f a b=B t):∃x y,a=B x/\b=B y/\f x y=t:=
 let⟨x,e,h⟩:=bd h;let⟨y,i,h⟩:=map_some h
 [x,y,e,i,h]
theorem nJ{α d e i:Type}{f:α->d->e->i}{a:Option α}{b:Option d}{c:Option e}{t:i}(h:o3 f a b c=B t):∃x y z,a=B x/\b=B y/\c=B z/\f x y z=t:=
 let⟨x,j,h⟩:=bd h;let⟨y,z,l,m,h⟩:=lC h
 [x,y,z,j,l,m,h]
theorem fq{α:Type}{b:Bool}{o:Option α}{t:α}(h:gd b o=B t):b=Y/\o=B t:=by cases b with|true=>show [(),h]|false=>show no h
def ajM(g:Gm):aw->Option TG|.Name x _=>xS g x|_=>Z
def GP(g:Gm):List aw->Option oH|[]=>B hX|e::a=>o2 dJ (ajM g e)<|GP g a
theorem Pz(c:Ctx X g k):∀{a:List aw}{u:oH},GP g a=B u->we X a u/\(assignEach a X.env).length=a.length/\(assignEach a X.env).findIdx? (·.1)=Z|[],u,h=>by cases h;show [aiH,(),()]|e::a,u,h=>by let[t,v,b,d,rfl]:=lC h;let[q1,q2,q3]:=Pz c d;cases e with|Name x p=>show [aiG (GN c b) q1 (),aad Nat.succ q2,?_];change List.findIdx? (·.1) ((ag,assign (.Name x p) X.env)::assignEach a X.env)=Z;rw[pU,q3];rfl|_=>show no b
def GL(g:Gm):aw->Option TG
|.Name x _=>xS g x|.Tuple a _ _=>(GP g a).map (hZ g.G.K a.length)
|_=>Z
theorem GO(c:Ctx X g k)(h:GL g e=B t):PG X e t:=by cases e with|Name x p=>show GN c h|Tuple j a b=>let[u,d,rfl]:=map_some h;let[q1,f,i]:=Pz c d;rw[<-c.K];show aiF c.calm q1 f i|_=>show no h
def Gx(r:eh)(g:Gm):List aw->Option TA|[]=>B aX|e::a=>gd (noStar e)<|o2 aJ (r.e g e)<|Gx r g a
theorem OV(S:fK r)(c:Ctx X g k):∀{a:List aw}{t:TA},Gx r g a=B t->PA X a t|[],t,h=>by cases h;show A6|e::a,t,h=>by let[b,h]:=fq h;let[i,u,d,f,rfl]:=lC h;show uH (S.e c d) (OV S c f)<|iT b
def sA(r:eh)(g:Gm)(e:aw):Option TI:=(r.e g e).map<|f7 g.G.K
def isTup:aw->Bool|.Tuple .. =>Y|_=>ag
def Pc(r:eh)(g:Gm)(c e:aw)(x:Str):List aw->Option TI
|[]=>sA r g e| #[a]=>gd (mf g x&&noStar a) (if x="range" then(r.a g #[a]).map fO else if x="enumerate" then gd (isTup c) ((r.a g #[a]).map<|i_ g.G.K)else sA r g e)
| #[a,b]=>gd (mf g x&&noStar a&&noStar b) (if x="zip" then gd (isTup c) ((r.a g #[a,b]).map<|rV g.G.K)else sA r g e)|a::b::d::l=>gd (mf g x&&noStar a&&noStar b&&noStar d&&l.isEmpty) (if x="range" then(r.a g #[a,b,d]).map w9 else sA r g e)
def Pb(r:eh)(g:Gm)(a:aw)(e:aw):Option TI:=match e with|.Call f b c _=>(match f with|.Name x _=>(match c with|[]=>Pc r g a e x b|_=>Z)|_=>sA r g e)|_=>sA r g e
theorem tW(S:fK r)(c:Ctx X g k){a e:aw}{t:TI}(h:sA r g e=B t):PI X a e t:=by let[d,b,rfl]:=map_some h;rw[<-c.K];show aiI<|S.e c b
theorem uf{α:Type}{p:Prop}[Decidable p]{a b:Option α}{t:α}(h:(if p then a else b)=B t):p/\a=B t\/b=B t:=by by_cases c:p;{rw[aab c]at h;show .inl [c,h]};rw[aaa c]at h;show .inr h
theorem V3{c:aw}(h:isTup c=Y):∃d a b,c=.Tuple d a b:=by cases c with|Tuple d a b=>show [d,a,b,()]|_=>show nomatch h
theorem ajy(S:fK r)(c:Ctx X g k){n:aw}{f:List aw}{x:Str}{p pos:Pos}{t:TI}(h:Pc r g n (.Call (.Name x p) f [] pos) x f=B t):PI X n (.Call (.Name x p) f [] pos) t:=by cases f with|nil=>show tW S c h|cons a f=>cases f with|nil=>(let[e,h]:=fq h;rw[a6]at e;rcases uf h with⟨rfl,h⟩|h);{let[j,i,rfl]:=map_some h;show aiK (c.gl e.1) (c.blt _<|by decide+kernel) (S.a c i)<|iT e.2};(rcases uf h with⟨rfl,h⟩|h);{let[m,h]:=fq h;let[o,y,z,rfl]:=V3 m;let[j,i,rfl]:=map_some h;rw[<-c.K];show aiJ (c.gl e.1) (c.blt _<|by decide+kernel) (S.a c i)<|iT e.2};show tW S c h|cons b f=>cases f with|nil=>(let[e,h]:=fq h;rw[a6,a6]at e;rcases uf h with⟨rfl,h⟩|h);{let[m,h]:=fq h;let[o,y,z,rfl]:=V3 m;let[j,i,rfl]:=map_some h;rw[<-c.K];show aiM (c.gl e.1.1) (c.blt _<|by decide+kernel) (S.a c i) (iT e.1.2)<|mF<|yE.mpr [e.2,()]};show tW S c h|cons d l=>(let q:=fq h;clear h;let[e,h]:=q;rw[a6,a6,a6,a6]at e;obtain rfl:l=[]:=mQ.mp e.2;rcases uf h with⟨rfl,h⟩|h);{let[j,i,rfl]:=map_some h;show aiL (c.gl e.1.1.1.1) (c.blt _<|by decide+kernel) (S.a c i) (iT e.1.1.1.2)<|mF<|yE.mpr [e.1.1.2,yE.mpr [e.1.2,()]]};show tW S c h
theorem ajz(S:fK r)(c:Ctx X g k)(h:Pb r g a e=B t):PI X a e t:=by{
cases e with
|Call f d b pos=>
 cases f with
 |Name x p=>cases b with|nil=>show ajy S c h|cons=>show no h
 |_=>show tW S c h
|_=>show tW S c h}
def PT.pw(h:PT X (.BoolOp b vs p) t):PW X (.BoolOp b vs p) t:=λw a s c H Q I q=>h a s c H Q I q
def OY{α:Type}(f:aw->Option α)(u v:α->α->α)(b:BoolOp)(p:Pos):List aw->Option α|[]=>Z|a::l=>match l with|[]=>f a|_=>(match b with|.And=>o2 u (f a) (f<|.BoolOp b l p)|.Or=>o2 v (f a)<|f<|.BoolOp b l p)
def Gz(r:eh)(g:Gm)(a:aw):List oA->List aw->Option TE
| #[c],#[b]=>gd (sq b) (o3 aq (zN g.G c) (r.e g a)<|r.e g b)| #[c,f],#[b,d]=>gd (sq d) ((zN g.G c).bind λo=>(zN g.G f).bind λh=>o3 (ig o h) (r.e g a) (r.e g b)<|r.e g d)
|_,_=>Z
theorem O1{C:aw->TE->Prop}{p:Pos}(S:fK r)(c:Ctx X g k)(one:∀{a i b o ta tb},cE X (compareOp i) o->PE X a ta->PE X b tb->behindInMarks i b=ag->C (.Compare a #[i] #[b] p) (aq o ta tb))(two:∀{a i f b d o j ta tb l},cE X (compareOp i) o->cE X (compareOp f) j->PE X a ta->PE X b tb->PE X d l->lastMarks #[i,f] #[b,d]=ag->C (.Compare a #[i,f] #[b,d] p) (ig o j ta tb l)){a:aw}{ops:List oA}{bs:List aw}{t:TE}(h:Gz r g a ops bs=B t):C (.Compare a ops bs p) t:=by{
cases ops with|nil=>show no h|cons i ops=>
cases ops with
|nil=>cases bs with|nil=>show no h|cons b bs=>cases bs with|nil=>let[m,h]:=fq h;let[o,ta,tb,n,q,s,rfl]:=nJ h;show one (D7 c n) (S.e c q) (S.e c s) (NM m)|cons=>show no h
|cons f ops=>cases ops with|cons=>show no h|nil=>cases bs with|nil=>show no h|cons b bs=>cases bs with|nil=>show no h|cons d bs=>cases bs with|cons=>show no h|nil=>let[m,h]:=fq h;let[o,n,h]:=bd h;let[j,q,h]:=bd h;let[ta,tb,l,s,u,v,rfl]:=nJ h;show two (D7 c n) (D7 c q) (S.e c s) (S.e c u) (S.e c v)<|afj m}
def GJ(r:eh)(g:Gm)(e:aw):Option TT:=gd (OL e)<|(r.e g e).map tB
def ajC(r:eh)(g:Gm)(a e:aw):UnaryOp->Option TT|.Not=>(r.t g a).map cw|_=>GJ r g e
def Py(r:eh)(g:Gm)(e:aw):Option TT:=match e with|.UnaryOp b a _=>ajC r g a e b|.BoolOp b l p=>OY (r.t g) jZ cW b p l|.Compare a ops bs _=>(Gz r g a ops bs).map tB|_=>GJ r g e
theorem OM(S:fK r)(c:Ctx X g k)(h:GJ r g e=B t):PT X e t:=by let[a,h]:=fq h;let[u,b,rfl]:=map_some h;show ajc (S.e c b) λw=>akQ a
theorem ajL(S:fK r)(c:Ctx X g k)(h:Py r g e=B t):PT X e t:=by{
cases e with
|UnaryOp f a p=>cases f with|Not=>let[u,d,rfl]:=map_some h;show ajb (S.t c d)|_=>show OM S c h
|BoolOp f l p=>
 cases l with|nil=>show no h|cons a l=>
 cases l with
 |nil=>cases f with|And=>show(aji<|S.t c h).pt|Or=>show(ajk<|S.t c h).pt
 |cons b l=>cases f with|And=>let[q,u,i,d,rfl]:=lC h;show(ajh (S.t c i) (S.t c d).pw).pt|Or=>let[q,u,i,d,rfl]:=lC h;show(ajj (S.t c i) (S.t c d).pw).pt
|Compare a ops bs p=>let[u,d,rfl]:=map_some h;show O1 (C:=λe t=>PT X e<|tB t) S c (λj m n o=>aja j m n o) (λj m n o s v=>ai_ j m n o s v) d|_=>show OM S c h}
end
section
variable{X:Cx}{g:Gm}{k:Nat}{r:eh}
def GW(a b:cB):cB:={a with names:=a.names.map λ(n,k)=>if(k==.free&&b.kind==.function&&b.names.lookup n==B .cell)then(n,.cell)else(n,k)}
def aj0:relabel scope a=GW scope a.scope:=()
def ownOf(N:List Str):List (Str×jm)->List (Str×Nat)
|[]=>[]
|(y,h9)::l=>if h9=.local\/h9=.cell then match mj N y with
 |some i=>(y,i)::ownOf N l
 |none=>ownOf N l
 else ownOf N l
def vZ(N:List Str)(b a:cB)(own:List<|Str×Nat):Prop:=
 a.kind=.function/\(∀y∈a.names,a.names.lookup y.1=B y.2)/\(∀p∈own,N[p.2]?=B p.1)/\
 (∀y∈a.names,y.2=.free->b.names.lookup y.1=B .cell\/b.names.lookup y.1=B .free)/\∀y∈a.names,y.2=.local\/y.2=.cell->y.1∈own.map (·.1)\/y.1∉N
instance {N:List Str} {sc scope:cB} {own:List (Str×Nat)}:Decidable<|vZ N sc scope own:=by unfold vZ;infer_instance
def vZ.ok(h:vZ N b a own):vY N b a own:=[h.1,h.2.1,h.2.2.1,h.2.2.2.1,h.2.2.2.2]
def Gm.cx(g:Gm)(a:cB):Gm:={g with sc:=GW a g.sc,top:=ag}
def Ctx.cx(c:Ctx X g k)(ex:eG ((X.cx s H a (compEnvC a cl C X.env) b).cm d) g.E):Ctx ((X.cx s H a (compEnvC a cl C X.env) b).cm d) (g.cx a) k where
 K:=c.K
 N:=c.N
 sc:=by change relabel a X.env=GW a g.sc;rw[aj0,c.sc]
 nd:=c.nd
 nn:=c.nn
 fn:=λh=>nomatch h
 calm:=c.calm
 ex:=ex
 dk:=c.dk
 room:=c.room
 fns:=c.fns
 cls:=c.cls
 o7:=c.o7
 vals:=c.vals
 cons:=c.cons
 blt:=c.blt
 iN:=c.iN
def Ctx.cm(c:Ctx X g k)(ex:eG (X.cm a) E):Ctx (X.cm a) {g with E:=E} k where
 K:=c.K
 N:=c.N
 sc:=c.sc
 nd:=c.nd
 nn:=c.nn
 fn:=c.fn
 calm:=c.calm
 ex:=ex
 dk:=c.dk
 room:=c.room
 fns:=c.fns
 cls:=c.cls
 o7:=c.o7
 vals:=c.vals
 cons:=c.cons
 blt:=c.blt
 iN:=c.iN
def O8(r:eh)(g:Gm):List aw->Option TT|[]=>B dA|e::l=>gd l.isEmpty<|r.t g e
def O9(S:fK r)(c:Ctx X g k)(h:O8 r g ifs=B t):rA X ifs t:=by cases ifs with|nil=>cases h;show ajd|cons e l=>let[a,h]:=fq h;obtain rfl:l=[]:=mQ.mp a;show aje<|S.t c h
def Be(r:eh)(g:Gm)(b c iter:aw)(ifs:List aw)(a:cB):Option TE:=gd (sq iter&&~~~(vZ g.N g.sc a<|ownOf g.N a.names)) ((r.i g c iter).bind λd=>o3 (λf h j=>cH d f h j ((ownOf g.N a.names).map (·.2))) (GL (g.cx a) c) (O8 r (g.cx a) ifs)<|r.e (g.cx a) b)
theorem Pk(S:fK r)(c:Ctx X g k){b f iter:aw}{ifs:List aw}{a:cB}{pos:Pos}{t:TE}(h:Be r g b f iter ifs a=B t):PE X (.ListComp b #[[f,iter,ifs,0]] a pos) t:=by
 let[d,h]:=fq h;rw[a6]at d;let[q,m,h]:=bd h;let[u,v,w,n,o,p,rfl]:=nJ h;show aio c.calm (by rw[c.N];show c.nd) (S.i c m) (by rw[c.N,c.sc];show(aaL d.2).ok) c.ex
  (λs H C cl j l ex=>GO (c.cx ex) n) (λs H C cl j l ex=>O9 S (c.cx ex) o) (λs H C cl j l ex=>S.e (c.cx ex) p)<|Ex d.1
def ajF(S:fK r)(c:Ctx X g k)(h:Be r g b l iter ifs scope=B t)(p:mj g.N y=B i)(q:g.sc.names.lookup y=B .local)(hl:(j.line==pos.line)=Y)(u:(scope.names.any λ(n,k)=>n==y&&(k==.local||k==.cell))=ag)(v:g.sc.kind=.function):PS X (.Assign #[.Name y j] (.ListComp b #[[l,iter,ifs,0]] scope pos) a) (b_ t<|aY i):=by{
let[f,h]:=fq h;rw[a6]at f;let[E,w,h]:=bd h;let[F,G,I,x,z,A,rfl]:=nJ h;let d:X.env.scope.names.lookup y=B .local:=by rw[c.sc];show q
show ai4 c.calm (by rw[c.N];show c.nd) (by rw[c.N];show uj p) d (akI (by rw[c.sc];show v) d hl u) (S.i c w) (by rw[c.N,c.sc];show(aaL f.2).ok) c.ex
 (λs H C cl m o ex=>GO (c.cx ex) x) (λs H C cl m o ex=>O9 S (c.cx ex) z) (λs H C cl m o ex=>S.e (c.cx ex) A)<|Ex f.1}
def GC{α:Type}(f:aw->aw->List aw->Option α):List CK->Option α|[]=>Z|[a,iter,ifs,n]::l=>gd (~~~(n=0)&&l.isEmpty)<|f a iter ifs
theorem O7{α:Type}{f:aw->aw->List aw->Option α}{aE:List CK}{t:α}(h:GC f aE=B t):∃a iter ifs,aE=#[[a,iter,ifs,0]]/\f a iter ifs=B t:=by cases aE with|nil=>show no h|cons q l=>let[a,iter,ifs,n]:=q;let[b,h]:=fq h;rw[a6]at b;obtain rfl:l=[]:=mQ.mp b.2;obtain rfl:n=0:=aaL b.1;show [a,iter,ifs,(),h]
def Bh(r:eh)(g:Gm):Option aw->Option TO|none=>B gy|some e=>(r.e g e).map ew
def Pp(S:fK r)(c:Ctx X g k)(h:Bh r g e=B t):PO X e t:=by unfold Bh at h;split at h;{cases h;show aiQ};let[u,a,rfl]:=map_some h;show aiR<|S.e c a
def O2:Const->Option TE
|.int i=>B (tC<|.int i)|.str x=>B (tC<|.str x)
|.bool b=>B (tC<|.bl b)|.none=>B (tC .aC)
|_=>Z
def rUn(r:eh)(g:Gm)(a:aw):UnaryOp->Option TE
|.USub=>(r.e g a).map (iU jc)|.Not=>(r.e g a).map BU
|_=>Z
def Pe(r:eh)(g:Gm)(a b:aw):Option TE:=gd (AK b)<|o2 (aq<|fg g.G) (r.e g a)<|r.e g b
def Pw(r:eh)(g:Gm)(a b:aw):Option TE:=match b with|.Slice lo c st _=>gd st.isNone (o3 (eU<|eT g.G.K) (r.e g a) (Bh r g lo)<|Bh r g c)|_=>Pe r g a b
def O6(r:eh)(g:Gm)(args:List aw)(pos:Pos):aw->Option TE
|.Name x _=>Gy r g x args|.Attribute o m apos=>match o with|.Name x _=>(match uL r g x m apos pos args with|some t=>B t|none=>uM r g o m apos pos args)|_=>uM r g o m apos pos args
|_=>Z
def O5(r:eh)(g:Gm)(e:aw):Option TE:=match e with|.Name x _=>xP g x|.Constant v _ _=>O2 v|.BinOp a h b _=>o3 aq (KN g.G.K h) (r.e g a) (r.e g b)|.UnaryOp h a _=>rUn r g a h|.BoolOp h l p=>OY (r.e g) da nY h p l|.Compare a ops bs _=>Gz r g a ops bs|.IfExp c a b _=>o3 qM (r.t g c) (r.e g a) (r.e g b)|.Attribute o f _=>gd (A7 o) ((r.e g o).map λt=>fV g.G.K t f)|.Subscript a b _=>Pw r g a b|.List i _=>(r.a g i).map bJ|.Tuple i _ _=>(r.a g i).map fu|.Dict j n _=>gd (j.isEmpty&&n.isEmpty) (B sQ)|.Call f args j pos=>gd j.isEmpty (O6 r g args pos f)|.ListComp m aE d _=>GC (λq iter ifs=>Be r g m q iter ifs d) aE|_=>Z
theorem ajv{v:Const}{j:Nat}{p:Pos}{t:TE}(h:O2 v=B t):PE X (.Constant v j p) t:=by cases v with|int i=>cases h;show xH|str i=>cases h;show aiC|bool i=>cases h;show ah8|none=>cases h;show aiw|_=>show no h
theorem ajx(S:fK r)(c:Ctx X g k){f:aw}{args:List aw}{pos:Pos}{t:TE}(h:O6 r g args pos f=B t):PE X (.Call f args [] pos) t:=by{
cases f with
|Name x p=>show aju S c h|Attribute o m apos=>
 cases o with
 |Name x p=>cases a:uL r g x m apos pos args with|some b=>let h:(match uL r g x m apos pos args with|some t=>B t|none=>uM r g (.Name x p) m apos pos args)=B t:=h;rw[a]at h;cases h;show ajB S c a|none=>let h:(match uL r g x m apos pos args with|some t=>B t|none=>uM r g (.Name x p) m apos pos args)=B t:=h;rw[a]at h;show Pl S c h
 |_=>show Pl S c h
|_=>show no h}
def ajA(S:fK r)(c:Ctx X g k)(h:Pe r g a b=B t):PE X (.Subscript a b p) t:=by let[d,h]:=fq h;let[j,l,f,i,rfl]:=lC h;show F0 (EY c.dk c.K c.u1) (S.e c f) (S.e c i)<|EZ d
theorem ajI(S:fK r)(c:Ctx X g k){a b:aw}{p:Pos}{t:TE}(h:Pw r g a b=B t):PE X (.Subscript a b p) t:=by cases b with|Slice lo l st q=>let[d,h]:=fq h;let[m,n,o,f,i,j,rfl]:=nJ h;obtain rfl:st=Z:=Jw.mp d;rw[<-c.K];show aiB akq (S.e c f) (Pp S c i) (Pp S c j)|_=>show ajA S c h
theorem ajw(S:fK r)(c:Ctx X g k){e:aw}{t:TE}(h:O5 r g e=B t):PE X e t:=by{
cases e with
|Name x p=>show Bg c h|Constant v j p=>show ajv h
|BinOp a w b p=>let[o,y,G,i,m,n,rfl]:=nJ h;show aiz (Zh c i) (S.e c m) (S.e c n)|UnaryOp w a p=>cases w with|USub=>let[u,d,rfl]:=map_some h;show F5 Iv (S.e c d)|Not=>let[u,d,rfl]:=map_some h;show aix (S.e c d)|_=>show no h
|BoolOp w l p=>cases l with|nil=>show no h|cons a l=>cases l with|nil=>show aiy (S.e c h)|cons b l=>cases w with|And=>let[y,u,z,d,rfl]:=lC h;show ah7 (S.e c z) (S.e c d)|Or=>let[y,u,z,d,rfl]:=lC h;show aiA (S.e c z) (S.e c d)
|Compare a ops bs p=>show O1 (C:=PE X) S c (λi m n A=>aij i m n A) (λi m n A H I=>aii i m n A H I) h|IfExp q a b p=>let[Q,y,G,i,m,n,rfl]:=nJ h;show ain (S.t c i) (S.e c m) (S.e c n)
|Attribute o f p=>let[O,h]:=fq h;let[u,d,rfl]:=map_some h;rw[<-c.K];show ail (S.e c d) (qp O)|Subscript a b p=>show ajI S c h
|List J p=>let[u,d,rfl]:=map_some h;show F2 (S.a c d)|Tuple J p q=>let[u,d,rfl]:=map_some h;show aiD (S.a c d)
|Dict E M p=>let[s,h]:=fq h;rw[a6]at s;obtain rfl:E=[]:=mQ.mp s.1;obtain rfl:M=[]:=mQ.mp s.2;cases h;show aik|Call f args E pos=>let[s,h]:=fq h;obtain rfl:E=[]:=mQ.mp s;show ajx S c h
|ListComp P aE F p=>let[T,iter,ifs,rfl,h]:=O7 h;show Pk S c h|_=>show no h}
def ajJ(r:eh):eh:=[O5 r,Py r,Gx r,Pb r]
def PC:eh:=[λ_ _=>Z,λ_ _=>Z,λ_ _=>Z,λ_ _ _=>Z]
def pD:Nat->eh|0=>PC|n+1=>ajJ<|pD n
def akt:fK PC:=[λ_ h=>(nomatch h),λ_ h=>(nomatch h),λ_ h=>(nomatch h),λ_ h=>(nomatch h)]
def qJ:∀n,fK (pD n)|0=>akt|n+1=>[λc h=>ajw (qJ n) c h,λc h=>ajL (qJ n) c h,λc h=>OV (qJ n) c h,λc h=>ajz (qJ n) c h]
end
structure wh where
 s:Gm->Stmt->Option TS
 b:Gm->List Stmt->Option TS
structure Dm (q:wh):Prop where
 s:∀{X g k st t},Ctx X g k->q.s g st=B t->PS X st t
 b:∀{X g k st t},Ctx X g k->q.b g st=B t->gF X st t
section
variable{X:Cx}{g:Gm}{k:Nat}{r:eh}{q:wh}
def Ba(q:wh)(g:Gm):List Stmt->Option TS|[]=>B bw|st::rest=>match rest with|[]=>q.s g st|_=>o2 bQ (q.s g st)<|Ba q g rest
def OX(S:Dm q)(c:Ctx X g k):∀{b:List Stmt}{t:TS},Ba q g b=B t->gF X b t
|[],t,h=>by cases h;show ai9| #[st],t,h=>A9 (S.s c h)
|st::a::rest,t,h=>by let[u,v,d,e,rfl]:=lC (show o2 bQ (q.s g st) (Ba q g<|a::rest)=B t from h);show ai8 (S.s c d)<|OX S c e
def akJ:swapsWith e (B<|.Attribute o f p) l a=pure ag:=by cases e<;>rfl
def akK:swapsWith e (B<|.Subscript o i p) l a=pure ag:=by cases e<;>rfl
def Sj:swappedStores #[.Name x p] e a=pure Z:=by cases e<;>rfl
def akC:swappedStores #[.Subscript o i p] e a=pure Z:=by cases e<;>rfl
def YW(h:AK i=Y)(v:ae):assign (.Subscript o i p) a v=(do
 let b<-holding #[v]<|eval o a;let c<-holding #[v,b] (eval i a)
 standAt p
 holding #[v,b,c] (setItem b c v)
 release #[v,b,c] []):=by
 cases i<;>first|rfl|cases h
def akH(d:a.scope.names.lookup y=B .cell):swapsWith (.ListComp b aE scope pos) (B<|.Name y c) l a=pure ag:=by let e:a.kindOf y=B .cell:=d;unfold swapsWith;simp only[e];cases a.blockKind==ScopeKind.function<;>rfl
def Hf(h:swapsWith e (B b) l a=pure ag):swapsWithSole #[b] e l a=pure ag:=h
def ajE(r:eh)(g:Gm)(y:Str)(c:Pos)(b:aw)(a:cB)(pos:Pos)(d iter:aw)(ifs:List aw):Option TS:=
 (mj g.N y).bind λi=>(Be r g b d iter ifs a).bind λt=>if g.sc.names.lookup y=B .cell then gd g.top (B<|b_ t<|aY i)
  else if g.sc.names.lookup y=B .local/\(c.line==pos.line)=Y/\(a.names.any λ(n,k)=>n==y&&(k==.local||k==.cell))=ag/\g.sc.kind=.function then B (b_ t<|aY i)else Z
def Pu(r:eh)(g:Gm)(y:Str)(e:aw):Option TS:=gd (Fx e)<|o2 b_ (r.e g e)<|xS g y
def Pr(r:eh)(g:Gm)(y:Str)(c:Pos)(e:aw):Option TS:=match e with|.ListComp b aE a pos=>GC (ajE r g y c b a pos) aE|_=>Pu r g y e
def ajG(S:fK r)(c:Ctx X g k)(h:Pu r g y e=B t):PS X (.Assign #[.Name y a] e pos) t:=by let[b,h]:=fq h;let[i,j,d,f,rfl]:=lC h;show Gq (S.e c d) (GN c f) (Hf<|Sn b) Sj ()
def ajH(S:fK r)(c:Ctx X g k)(h:Pr r g y d e=B t):PS X (.Assign #[.Name y d] e pos) t:=by cases e with|ListComp l aE scope p=>(let[n,iter,ifs,rfl,h]:=O7 h;let[i,f,h]:=bd h;let[o,j,h]:=bd h;rcases uf h with⟨a,h⟩|h);{let[m,h]:=fq h;cases h;let b:X.env.scope.names.lookup y=B .cell:=(by rw[c.sc];show a);show Gq (Pk S c j) (F7 (by rw[c.N];show c.nd) (by rw[c.N];show uj f) (.inr b)<|.inl<|c.fn m y) ?_ Sj ();show Hf<|akH b};(rcases uf h with⟨a,h⟩|h);{cases h;show ajF S c j f a.1 a.2.1 a.2.2.1 a.2.2.2};show no h|_=>show ajG S c h
def OW(r:eh)(g:Gm)(e:aw):aw->Option TS
|.Name y c=>Pr r g y c e|.Attribute o f _=>o2 (λa b=>cj g.G.K a b f) (r.e g o) (r.e g e)
|.Subscript o i _=>gd (AK i) (o3 (λa d b=>b_ b<|nA a d nP) (r.e g o) (r.e g i)<|r.e g e)|_=>Z
def Pq(g:Gm):aw->Option TS
|.Call f a b _=>match f with|.Name x _=>gd (a.isEmpty&&b.isEmpty&&mf g x) ((look g.iN x).map λC=>dB C g.E)|_=>Z
|_=>Z
def Px(r:eh)(q:wh)(g:Gm)(st:Stmt):Option TS:=match st with|.Assign f e _=>(match f with|[]=>Z|t::l=>gd l.isEmpty<|OW r g e t)|.Expr e _=>gd (Fx e) ((r.e g e).map cG)|.Return o _=>(match o with|some e=>(r.e g e).map ah|none=>B So)|.If c a b _=>o3 bu (r.t g c) (q.b g a) (q.b g b)|.For d iter body l _=>gd (sq iter&&l.isEmpty) (o3 fH (r.i g d iter) (GL g d)<|q.b g body)|.While c body l _=>gd l.isEmpty (o2 mG (r.t g c)<|q.b g body)|.Raise o l _=>(match o with|some e=>gd l.isNone (Pq g e)|none=>Z)|.Pass _=>B bw|_=>Z
theorem ajD(c:Ctx X g k){e:aw}{p:Pos}{t:TS}(h:Pq g e=B t):PS X (.Raise (B e) Z p) t:=by{
cases e with
|Call f d i pos=>cases f with|Name x p=>let[b,h]:=fq h;rw[a6,a6]at b;let[C,hC,rfl]:=map_some h;obtain rfl:d=[]:=mQ.mp b.1.1;obtain rfl:i=[]:=mQ.mp b.1.2;let[a,j]:=c.iN _<|lA hC;show ai2 c.ex a.own c.calm (c.gl b.2) j|_=>show no h
|_=>show no h}
theorem ajt(S:fK r)(c:Ctx X g k){a e:aw}{p:Pos}{t:TS}(h:OW r g e a=B t):PS X (.Assign #[a] e p) t:=by cases a with|Name y s=>show ajH S c h|Attribute o f p=>let[j,l,b,d,rfl]:=lC h;rw[<-c.K];show aiY (S.e c b) (S.e c d) akJ|Subscript o i p=>let[m,h]:=fq h;let[j,u,l,b,d,n,rfl]:=nJ h;show Gq (S.e c n) (aiE (S.e c b) (S.e c d) (akD c.u1)<|YW m) (Hf akK) akC ()|_=>show no h
theorem ajK(S:fK r)(T:Dm q)(c:Ctx X g k){st:Stmt}{t:TS}(h:Px r q g st=B t):PS X st t:=by{
cases st with
|Assign w e p=>cases w with|nil=>show no h|cons a l=>let[d,h]:=fq h;obtain rfl:l=[]:=mQ.mp d;show ajt S c h
|Expr e p=>let[x,h]:=fq h;let[u,m,rfl]:=map_some h;show aiX (S.e c m) (Sn x)|Return o p=>cases o with|none=>cases h;show ai3|some e=>let[u,m,rfl]:=map_some h;show A8 (S.e c m)
|If e a b p=>let[y,z,v,f,j,n,rfl]:=nJ h;show ai0 (S.t c f) (T.b c j) (T.b c n)|For A iter body l p=>let[d,h]:=fq h;rw[a6]at d;let[C,E,v,f,j,n,rfl]:=nJ h;obtain rfl:l=[]:=mQ.mp d.2;show aiZ c.ex c.calm (S.i c f) (λs ex=>GO (c.cm ex) j) (λs ex=>T.b (c.cm ex) n) (Ex d.1)
|While e body l p=>let[d,h]:=fq h;obtain rfl:l=[]:=mQ.mp d;let[y,v,f,j,rfl]:=lC h;show ai6 c.ex (λs ex=>S.t (c.cm ex) f) (λs ex=>T.b (c.cm ex) j)|Raise o l p=>cases o with|none=>show no h|some e=>let[d,h]:=fq h;obtain rfl:l=Z:=Jw.mp d;show ajD c h
|Pass p=>cases h;show ai1|_=>show no h}
def nR(r:eh):Nat->wh|0=>[λ_ _=>Z,λ_ _=>Z]|n+1=>[Px r<|nR r n,Ba<|nR r n]
def uU(S:fK r):∀n,Dm (nR r n)|0=>[λ_ h=>(nomatch h),λ_ h=>(nomatch h)]|n+1=>[λc h=>ajK S (uU S n) c h,λc h=>OX (uU S n) c h]
end
structure tQ (K:aR) (f:aa) (st:Stmt) (N ps:List Str):Prop where
 ex:∃(oc:ae) (od:Option aa) (osl:Array<|Option ae) (name qual:Str) (params:Arguments) (dV kV doc pm:ae) (an:Option aa) (DW ct:ae),
  K.lookup f=B [oc,od,.func<|rk name qual params (gY st) (eZ st) dV kV doc pm an DW ct,osl]/\CU K DW qual=Y/\
  Binds K (rk name qual params (gY st) (eZ st) dV kV doc pm an DW ct) ps []
 keep:qd K (.ref f)=Y
 sc:qi N ps<|eZ st
def j8(P:bU)(w:bj)(K:aR)(mg:Str->Option ae)(a:a8)(k:Nat)(f:aa)(sp:Sp):Prop:=qd K (.ref f)=Y/\∃b c,Binds K b c []/\gW P w K mg a (jq P w) k f b c sp
section
variable{P:bU}{w:bj}{K:aR}{mg:Str->Option ae}{base:a8}{j k:Nat}{f:aa}{sp:Sp}
def j8.mono(F:j8 P w K mg base j f sp)(h:j<=k):j8 P w K mg base k f sp:=let⟨a,d,e,b,c⟩:=F;[a,d,e,b,c.mono h]
structure Body (P:bU) (w:bj) (K:aR) (mg:Str->Option ae) (base:a8) (N:List Str) (sc:cB) (k:Nat) (E:XK) (X:Cx):Prop where
 prog:X.prog=P
 w:X.w=w
 K:X.K=K
 mg:X.mg=mg
 base:X.base=base
 N:X.N=N
 sc:X.env.scope=sc
 calm:X.calm=Y
 fn:∀x,X.fn x=Y
 ex:eG X E
 room:eP (k+1) X.A
theorem abq{n m:Nat}{st:Stmt}{N ps:List Str}{g:XK->Gm}{t:XK->TS}(I:tQ K f st N ps)(c:∀E,(nR (pD n) m).b (g E) (gY st)=B (t E))(a:∀X E,Body P w K mg base N (eZ st) k E X->Ctx X (g E) k):j8 P w K mg base (k+2) f (mS N ps.length t):=by let[r,u,l,name,i,params,v,kV,doc,x,y,o,z,lk,d,O]:=I.ex;show [I.keep,_,ps,O,L1 (k:=k+1) lk d I.sc (λp H Q E h=>h.1) λA e s H p Q E q h=>[t E,?_,h.2]];show(uU (qJ n) m).b (a _ E [(),(),(),(),(),(),(),(),λ_=>rfl,Ep,q])<|c E
theorem abr{st:Stmt}{N ps:List Str}{t:XK->TS}(I:tQ K f st N ps)(a:∀X E,Body P w K mg base N (eZ st) k E X->zx X (gY st) (t E)):j8 P w K mg base (k+2) f (mS N ps.length t):=by let[m,n,e,name,d,params,o,kV,doc,p,q,g,r,lk,b,O]:=I.ex;show [I.keep,_,ps,O,abc (k:=k+1) lk b I.sc (λi H Q E h=>h.1) λA c s H i Q E l h=>[t E,?_,h.2]];show a _ E [(),(),(),(),(),(),(),(),λ_=>rfl,Ep,l]
structure Wd (P:bU) (w:bj) (K:aR) (mg:Str->Option ae) (base:a8) (G:aH) (cons:List (Str×V)) (names:List (Str×aa)) (iN:List (Str×aa)):Prop where
 K:K=G.K
 dk:∀a kvs,(a,kvs)∈G.dk->(a==sysModules)=ag/\∃vs,KV kvs vs/\base.DictOf (fQ P w) a vs
 blt:∀x∈wz,mg x=Z
 cons:∀q∈cons,(q.1==("__debug__":Str))=ag/\∃u,mg q.1=B u/\RelV q.2 u
 names:∀q∈names,mg q.1=B (.ref q.2)/\(q.1==("__debug__":Str))=ag
 iN:∀q∈iN,OwnClsQ q.1 q.2 #[.type "Exception",.type "BaseException",.type "object"] "Exception.__new__" mg base/\(q.1==("__debug__":Str))=ag
variable{G:aH}{cons:List<|Str×V}{names iN:List<|Str×aa}
def ZX(a:Body P w K mg base N sc k E X)(W:Wd P w K mg base G cons names iN)(s:g.G=G)(t:g.E=E)(e:g.N=N)(u:g.sc=sc)(v:N.Nodup)(nn:∀x∈N,(x==("__debug__":Str))=ag/\(x==("__classdict__":Str))=ag)(y:∀q∈g.cons,q∈cons)(z:∀q∈g.fns,(q.1,q.2.1)∈names/\j8 P w K mg base k q.2.1 q.2.2)(A:∀q∈g.cls,(q.1,q.2.1)∈names/\iK K q.2.1 q.2.2.1/\j8 P w K mg base k q.2.2.1 q.2.2.2)(C:∀q∈g.o7,∀p∈q.2,jG K p.1/\∃f,zv K p.1 q.1 f/\j8 P w K mg base k f p.2)(H:∀q∈g.vals,j8 P w K mg base k q.1 q.2)(I:∀q∈g.iN,q∈iN):Ctx X g k:=by let[J,M,Q,T,b5,b6,b7,b8,b9,i,l]:=a;subst J M Q T b5;let fnAt:∀f sp,j8 X.prog X.w X.K X.mg X.base k f sp->FnAt X k f sp:=λf sp h=>h;show [by rw[W.K,s],by rw[b6,e],by rw[b7,u],by rw[e];show v,by rw[e];show nn,λ_=>b9,b8,by rw[t];show i,?_,l,λq b=>?_,λq b=>?_,λq b p hp=>?_,λq b=>fnAt _ _<|H q b,λq b=>W.cons q<|y q b,W.blt,λq b=>W.iN q<|I q b];{rw[s];show W.dk};{let[c,d]:=z q b;let[m,n]:=W.names _ c;show [d,m,n]};{let[c,d,h3]:=A q b;let[m,n]:=W.names _ c;let[_,o,r,O,F]:=h3;show [d,[o,r,O,F],m,n]};let[c,f,d,_,o,r,O,F]:=C q b p hp;show [c,f,o,r,d,O,F]
end
theorem ai7{X:Cx}{st:Stmt}{rest:List Stmt}{t u:TS}(c:Kn X st t)(d:gF X rest u):zx X (st::rest)<|bQ t u:=by intro s e H a I h;show J8<|bz (c s e H {a with nx:=u a} I h) λf g q=>?_;cases f with|next=>let[b,i,j,q]:=q;show d [] g b i a j q|ret v=>show q|brk=>show q|cont=>show q
structure wj where
 body:List Stmt
 x:Str
 np:Pos
 acv:Pos
 b0:Stmt
 pos:Pos
 rest:List Stmt
def ak2:List Stmt->wj|.Try body #[.ExceptHandler (B<|.Name x b) Z #[c] a] [] [] pos::rest=>[body,x,b,a,c,pos,rest]|_=>[[],"",[0,0,0,0],[0,0,0,0],.Pass [0,0,0,0],[0,0,0,0],[]]
def wj.whole(p:wj):List Stmt:=.Try p.body #[.ExceptHandler (B<|.Name p.x p.np) Z #[p.b0] p.acv] [] [] p.pos::p.rest
section
variable{X:Cx}{g:Gm}{k:Nat}
def rq(P:bU)(w:bj)(K:aR)(mg:Str->Option ae)(a:a8)(k:Nat)(f:aa)(sp:Sp):Prop:=qd K (.ref f)=Y/\∃b c,Binds K b c []/\zq P w K mg a (jq P w) k f b c sp
def zm:XK:=λ_ _ _=>False
def Sl(c:Ctx X g k)(F:rq X.prog X.w X.K X.mg X.base k f sp)(b:X.mg x=B (.ref f)/\(x==("__debug__":Str))=ag)(hx:mf g x=Y)(d:mf g y=Y)(i:look g.cons y=B v)(e:aa):gF (X.mark e) #[.Return (B<|.Call (.Name x p) #[.Name y q] [] r) u] (ah<|dq sp [] zm<|aJ (tC v) aX):=by let[j,n,o,O,F]:=F;let[hd2,w,a,r2]:=c.cons _<|lA i;let l:Gl (X.mark e) x:=c.gl hx;let m:Gl (X.mark e) y:=c.gl d;show A9<|A8 ?_;show aie (X:=X.mark e) F [(c.room.mono<|p5 k).dp,(c.room.mono<|p5 k).un] l b.1 j O .nil (λ_ _ _ _ _ _ _ h=>?_) (uH (Oz m a r2 hd2) A6 ()) b.2 rfl rfl;let[_,_,_,_,_,_,_,_,_,q]:=h;show q.elim
def akE(e:aa):gF (X.mark e) #[.Return (B<|.List #[.UnaryOp .USub (.Constant (.int i) 0 p) q] r) u]<|ah<|bJ<|aJ (iU jc<|tC<|.int i) aX:=A9 (A8<|F2<|uH (F5 Iv xH) A6 ())
theorem ak3{p:wj}{n m:Nat}{C:aa}{tb:XK->TS}{h u:TS}(c:Ctx X g k)(hx:mf g p.x=Y)(hl:look g.iN p.x=B C)(d:∀f,(nR (pD n) m).b {g with E:=f} p.body=B (tb f))(i:∀e,gF (X.mark e) #[p.b0] h)(j:(nR (pD n) m).b g p.rest=B u):zx X p.whole<|bQ (sR C tb h) u:=by let[a,l]:=c.iN _<|lA hl;show ai7 (ai5 c.ex.top c.ex.pn a (c.gl hx) (λo f ex=>(uU (qJ n) m).b (c.cm ex)<|d f) i l)<|(uU (qJ n) m).b c j
end
section
variable{P:bU}{w:bj}{K:aR}{mg:Str->Option ae}{base:a8}{k:Nat}{f:aa}
theorem aba{st:Stmt}{N ps:List Str}{t:XK->TS}(I:tQ K f st N ps)(O:∀X:Cx,X.prog=P->X.w=w->X.K=K->X.mg=mg->X.base=base->X.N=N->X.env.scope=eZ st->kH (k+1) X.A->gF X (gY st) (t zm)):rq P w K mg base (k+2) f (λvs H Q E=>vs.length=ps.length/\t zm {nx:=λ_ e=>Q .aC e,rt:=Q} (start N vs) H):=by let[l,m,g,name,d,params,n,kV,doc,o,p,i,q,lk,a,b]:=I.ex;show [I.keep,_,ps,b,abd (k:=k+1) lk a I.sc (λvs H Q E h=>h.1) λA c s H vs Q E j h=>[t zm,?_,h.2]];show O _ () rfl rfl rfl rfl rfl rfl j
end
theorem rq.mono{P:bU}{w:bj}{K:aR}{mg:Str->Option ae}{d:a8}{j k:Nat}{f:aa}{sp:Sp}(F:rq P w K mg d j f sp)(h:j<=k):rq P w K mg d k f sp:=
 let⟨a,g,i,b,c⟩:=F
 [a,g,i,b,c.len,λA e s H args l m Q E n=>c.run A e s H args l m Q E<|n.mono h]
def ajX(e:X.N[i]?=B x)(hl:X.env.scope.names.lookup x=B .local)(f:(x==("__debug__":Str))=ag)(g:(x==("__classdict__":Str))=ag)(d:TopD X G)(h:X.K=G.K)(j:X.A.units+1<cLine):gF X #[.Return (B<|.List #[.UnaryOp .USub (.Constant (.int a) 0 p) q,.Subscript (.Name x r) (.Constant (.int b) 0 u) v,.Subscript (.Name x w) (.Constant (.int c) 0 y) z] o) n]
  (ah<|bJ<|aJ (iU jc<|tC<|.int a)<|aJ (aq (fg G) (ay i)<|tC<|.int b)<|aJ (aq (fg G) (ay i)<|tC<|.int c) aX):=
 A9 (A8<|F2<|uH (F5 Iv xH) (uH (F0 (EY d h j) (F6 e (.inl hl) f g) xH<|EZ ()) (uH (F0 (EY d h j) (F6 e (.inl hl) f g) xH<|EZ ()) A6 ()) ()) ())
end L2
end
namespace L2
open PySem PySem.Spec PyProof.Rows
section
set_option hygiene false in
local macro_rules
 |`({$n:num})=>`(ay $n)
 |`({-$n:num})=>`(tC (.int $n))
 |`({-$s:str})=>`(tC (.ref (G.ad $s)))
 |`({$s:str})=>`(tC (.str $s))
set_option hygiene false in
local macro_rules
 |`($x[$s:str])=>`(fV G.K $x $s)
 |`($x[$y])=>`(aq (fg G) $x $y)
local macro_rules
 |`(⟨$x⟩)=>`(aJ $x aX)
 |`(⟨$x,$xs,*⟩)=>`(aJ $x ⟨$xs,*⟩)
set_option hygiene false in
local macro_rules
 |`(#[$x,$n:num])=>`(b_ $x (aY $n))
 |`(#[$w,$n:num,$e])=>`(cH (f7 G.K $w) (aY $n) dA $e [$n])
 |`(#[$w,$n:num,$e,$k:num])=>`(fH (f7 G.K $w) (aY $n) $e)
 |`(#[$f:ident,$xs,*])=>`(dq ($f G) [] E ⟨$xs,*⟩)
set_option hygiene false in
local macro_rules|`(#[$k:num,$x])=>`(cz (gP G.K) (aJ $x aX))
local macro_rules|`($a :: $b)=>`(bQ $a $b)
local macro_rules|`($a&& $b)=>`(bu (tB $a) $b bw)
set_option hygiene false in
local macro_rules|`($a== $b)=>`(aq (ic G.K) $a $b)
set_option hygiene false in
local macro_rules|`($a+ $b)=>`(aq (ib G.K) $a $b)
set_option hygiene false in
local macro_rules|`($a++ $b)=>`(cG (gi G.K "list" pC $a (aJ $b aX)))
set_option hygiene false in
local macro_rules|`(abbrev $n:declId := $v)=>`(abbrev $n (G :aH) (E :XK) :TS := $v)
abbrev Us:=(aq fS {0} #[0,{-"OP_WORDS"}]&&ah {-"OP_WORDS"}[{0}])::ah {""}
def Q0:=qS 0 1 1 Us
abbrev TR:=ah (aq (dy G false) {0} {-"OP_WORDS"})
def QL:=qS 1 1 1 TR
abbrev Ur:=ah (vd G.K {-"OP_WORDS"} ⟨{0}⟩)
def QZ:=qS 2 1 1 Ur
abbrev SU:=cj G.K {0} {1} "kind"::cj G.K {0} {2} "lengths"
def sJ:=qS 3 3 3 SU
abbrev SS:=cj G.K {0} {1} "shape"::cj G.K {0} {2} "joining"
def By:=qS 4 3 3 SS
abbrev Sz:=cj G.K {0} {1} "bank"::cj G.K {0} {2} "number"
def uW:=qS 5 3 3 Sz
abbrev Sx:=cj G.K {0} {1}[{-0}] "form"::cj G.K {0} {1}[{-1}] "which"::cj G.K {0} {1}[{-2}] "kind"::cj G.K {0} {1}[{-3}] "u"::cj G.K {0} {1}[{-4}] "v"::cj G.K {0} {2} "operands"::cj G.K {0} {3} "results"
def Bw:=qS 6 4 4 Sx
abbrev SI:=cj G.K {0} {1}[{-0}] "op"::cj G.K {0} {1}[{-1}] "kind"::cj G.K {0} {1}[{-2}] "mask"::cj G.K {0} {1}[{-3}] "aux"::cj G.K {0} {1}[{-4}] "dst"::cj G.K {0} {1}[{-5}] "a"::cj G.K {0} {1}[{-6}] "b"::cj G.K {0} {1}[{-7}] "c"::cj G.K {0} {1}[{-8}] "where"::cj G.K {0} {1}[{-9}] "imm"::cj G.K {0} {1}[{-10}] "to"::cj G.K {0} {1}[{-11}] "twelfth"::cj G.K {0} #[Q0,{0}["op"]] "word"
def Hh:=qS 7 2 2 SI
abbrev SR:=cj G.K {0} {1} "axes"::cj G.K {0} {2} "inputs"::cj G.K {0} {3} "results"::cj G.K {0} {4} "place"::cj G.K {0} {5} "flag"::cj G.K {0} {6} "body"
def Hi:=qS 8 7 7 SR
abbrev Sy:=cj G.K {0} {1} "data_slots"::cj G.K {0} {2} "slots"::cj G.K {0} {3} "names"::cj G.K {0} {4} "pieces"::cj G.K {0} {5} "calls"::cj G.K {0} {6} "main"
def x6:=qS 9 7 7 Sy
abbrev Tj:=ah (bJ ⟨{0}["op"],{0}["kind"],{0}["mask"],{0}["aux"],{0}["dst"],{0}["a"],{0}["b"],{0}["c"],{0}["where"],{0}["imm"],{0}["to"]⟩)
def uY:=qS 10 1 1 Tj
abbrev S3:=ah (bJ ⟨{0}["main"]⟩+#[{0}["pieces"],1,{1}["body"]])
def nV:=qS 11 2 1 S3
abbrev Sr:=cj G.K {0} {1} "row"::cj G.K {0} {-0} "spot"
def Qg:=qS 12 2 2 Sr
abbrev Su:=(aq ek ({0}["spot"]+{1}) #[0,{0}["row"]]&&dB (G.ad "NoBytes") E)::#[{-0},2]::fH (fO ⟨{1}⟩) (aY 3) #[{2}+aq GK {0}["row"][{0}["spot"]+{3}] (aq kR {-8} {3}),2]::cj G.K {0} ({0}["spot"]+{1}) "spot"::ah {2}
def ie:=qS 13 4 2 Su
abbrev Sw:=#[bC [(G.ad "ByteReader",ie G)] "take" E {0} ⟨{1}⟩,3]::(aq ek {3} {2}&&dB (G.ad "NoBytes") E)::ah {3}
def gS:=qS 14 4 3 Sw
abbrev Sv:=ah (cH (fO ⟨{1}⟩) (aY 3) dA (bC [(G.ad "ByteReader",ie G)] "take" E {0} ⟨{2}⟩) [3])
def x5:=qS 15 4 3 Sv
abbrev Ss:=ah ({0}["spot"]==#[0,{0}["row"]])
def uV:=qS 16 1 1 Ss
abbrev Vy:=#[bC [(G.ad "ByteReader",ie G)] "take" E {0} ⟨{-1}⟩,1]::#[bC [(G.ad "ByteReader",gS G)] "take_up_to" E {0} ⟨{-1},{-4}⟩,2]::ah (dN (G.ad "Shape") (sJ G) [] E ⟨{1},bC [(G.ad "ByteReader",x5 G)] "take_list" E {0} ⟨{2},{-4}⟩⟩)
def ye:=qS 17 3 1 Vy
abbrev Vs:=#[bC [(G.ad "ByteReader",ie G)] "take" E {0} ⟨{-1}⟩,1]::ah (bC [(G.ad "ByteReader",x5 G)] "take_list" E {0} ⟨{1},{-1}⟩)
def HR:=qS 18 2 1 Vs
abbrev Vx:=#[#[ye,{0}],1]::#[bC [(G.ad "ByteReader",ie G)] "take" E {0} ⟨{-1}⟩,2]::ah (dN (G.ad "Result") (By G) [] E ⟨{1},{2}⟩)
def RH:=qS 19 3 1 Vx
abbrev Vu:=#[bC [(G.ad "ByteReader",gS G)] "take_up_to" E {0} ⟨{-1},{-4}⟩,1]::#[bC [(G.ad "ByteReader",x5 G)] "take_list" E {0} ⟨{1},{-4}⟩,2]::#[bC [(G.ad "ByteReader",gS G)] "take_up_to" E {0} ⟨{-1},{-8}⟩,3]::#[cH (fO ⟨{3}⟩) (aY 10) dA #[ye,{0}] [10],4]::#[bC [(G.ad "ByteReader",gS G)] "take_up_to" E {0} ⟨{-1},{-8}⟩,5]::#[cH (fO ⟨{5}⟩) (aY 10) dA #[RH,{0}] [10],6]::#[bC [(G.ad "ByteReader",ie G)] "take" E {0} ⟨{-4}⟩,7]::#[bC [(G.ad "ByteReader",gS G)] "take_up_to" E {0} ⟨{-1},{-1}⟩,8]::#[bC [(G.ad "ByteReader",gS G)] "take_up_to" E {0} ⟨{-4},{-65536}⟩,9]::ah (fu ⟨{2},{4},{6},{7},{8},{9}⟩)
def HS:=qS 20 11 1 Vu
abbrev Vp:=ah (dN (G.ad "Instruction") (Hh G) [] E ⟨#[{-"INSTRUCTION_WIDTHS"},1,bC [(G.ad "ByteReader",ie G)] "take" E {0} ⟨{1}⟩]⟩)
def RF:=qS 21 2 1 Vp
abbrev Vq:=ah (cH (fO ⟨{1}⟩) (aY 2) dA #[RF,{0}] [2])
def BJ:=qS 22 3 2 Vq
abbrev Vv:=#[#[BJ,{1},{0}[{-5}]],2]::ah (dN (G.ad "Piece") (Hi G) [] E ⟨{0}[{-0}],{0}[{-1}],{0}[{-2}],{0}[{-3}],{0}[{-4}],{2}⟩)
def HU:=qS 23 3 2 Vv
abbrev Vo:=#[bC [(G.ad "ByteReader",gS G)] "take_up_to" E {0} ⟨{-1},{-1}⟩,1]::#[bC [(G.ad "ByteReader",ie G)] "take" E {0} ⟨{-2}⟩,2]::ah (dN (G.ad "Hold") (uW G) [] E ⟨{1},{2}⟩)
def HQ:=qS 24 3 1 Vo
abbrev Vn:=#[bC [(G.ad "ByteReader",gS G)] "take_up_to" E {0} ⟨{-1},{-1}⟩,1]::#[bC [(G.ad "ByteReader",ie G)] "take" E {0} ⟨{-1}⟩,2]::#[bC [(G.ad "ByteReader",ie G)] "take" E {0} ⟨{-1}⟩,3]::#[bC [(G.ad "ByteReader",gS G)] "take_up_to" E {0} ⟨{-1},{-8}⟩,4]::#[bC [(G.ad "ByteReader",gS G)] "take_up_to" E {0} ⟨{-1},{-8}⟩,5]::#[bC [(G.ad "ByteReader",ie G)] "take" E {0} ⟨{-8}⟩,6]::#[bC [(G.ad "ByteReader",ie G)] "take" E {0} ⟨{-8}⟩,7]::#[cH (fO ⟨{4}⟩) (aY 10) dA #[HQ,{0}] [10],8]::#[cH (fO ⟨{5}⟩) (aY 10) dA #[HQ,{0}] [10],9]::ah (dN (G.ad "Call") (Bw G) [] E ⟨fu ⟨{1},{2},{3},{6},{7}⟩,{8},{9}⟩)
def HP:=qS 25 11 1 Vn
abbrev Vm:=#[{-"BEGINNING"},1,aq (eE G.K) (bC [(G.ad "ByteReader",ie G)] "take" E {0} ⟨{-1}⟩) {1}&&dB (G.ad "NoBytes") E,0]
def HN:=qS 26 2 1 Vm
abbrev SM:=ah ({0}["spot"]==#[0,{0}["lines"]])
def uX:=qS 27 1 1 SM
abbrev Tf:=#[dN (G.ad "ByteReader") (Qg G) [] E ⟨{0}⟩,1]::cG #[HN,{1}]::#[bC [(G.ad "ByteReader",gS G)] "take_up_to" E {1} ⟨{-4},{-256}⟩,2]::#[bC [(G.ad "ByteReader",ie G)] "take" E {1} ⟨{-4}⟩,3]::#[bC [(G.ad "ByteReader",gS G)] "take_up_to" E {1} ⟨{-4},{-256}⟩,4]::#[bC [(G.ad "ByteReader",gS G)] "take_up_to" E {1} ⟨{-4},{-256}⟩,5]::#[bC [(G.ad "ByteReader",gS G)] "take_up_to" E {1} ⟨{-4},{-4096}⟩,6]::#[bC [(G.ad "ByteReader",gS G)] "take_up_to" E {1} ⟨{-4},{-65536}⟩,7]::#[cH (fO ⟨{2}⟩) (aY 14) dA #[ye,{1}] [14],8]::#[cH (fO ⟨{4}⟩) (aY 14) dA #[HR,{1}] [14],9]::#[cH (fO ⟨{5}⟩) (aY 14) dA #[HS,{1}] [14],10]::#[cH (fO ⟨{6}⟩) (aY 14) dA #[HP,{1}] [14],11]::(aq ek ({7}+cz (mz G.K) ⟨#[{10},15,{15}[{-5}]]⟩) {-65536}&&dB (G.ad "NoBytes") E)::#[#[BJ,{1},{7}],12]::#[#[{10},15,#[HU,{15},{1}]],13]::bu (cw (tB (bC [(G.ad "ByteReader",uV G),(G.ad "LineReader",uX G)] "is_at_end" E {1} aX))) (dB (G.ad "NoBytes") E) bw::ah (dN (G.ad "Code") (x6 G) [] E ⟨{3},{8},{9},{13},{11},{12}⟩)
def BB:=qS 28 16 1 Tf
abbrev TQ:=ah (ig df df {-0} {0} {-12})
def ya:=qS 29 1 1 TQ
abbrev TZ:=ah (ig df df {-1} {0} {-8})
def Hw:=qS 30 1 1 TZ
abbrev TJ:=ah (ig df df {-9} {0} {-12})
def x_:=qS 31 1 1 TJ
abbrev Tw:=(#[x_,{0}]&&ah (ig df df {-0} {1} {-9}))::(#[Hw,{0}]&&ah (ig df df {-0} {1} {-19}))::ah (da ({0}=={-0}) (ig df df {-13} {1} {-16}))
def QG:=qS 32 2 2 Tw
abbrev Tv:=(#[x_,{0}]&&ah (ig df df {-0} {1} {-7}))::(#[Hw,{0}]&&ah (ig df df {-0} {1} {-9}))::ah (da ({0}=={-0}) ({1}=={-2}))
def QF:=qS 33 2 2 Tv
abbrev Te:=#[{-1},1]::#[{0}["lengths"],2,#[aq kR {1} {2},1],0]::ah {1}
def abJ:=qS 34 3 1 Te
abbrev Va:=bu (cW (cw (tB #[ya,{0}["kind"]])) (tB (aq ek #[0,{0}["lengths"]] {-4}))) (ah (tC (.bl false))) bw::#[{0}["lengths"],1,aq ek {1} {-1048576}&&ah (tC (.bl false)),0]::ah (aq df #[abJ,{0}] {-1048576})
def yc:=qS 35 2 1 Va
abbrev U_:=ah (da ({0}["kind"]=={1}["kind"]) ({0}["lengths"]=={1}["lengths"]))
def BG:=qS 36 2 2 U_
abbrev Vf:=#[aq Bc (aq xR (aq kR #[abJ,{0}] {-"CELL_BYTES"}[{0}["kind"]]+{-64}) {-1}) {-64},1]::ah (aq kR {1} {-64})
def Rx:=qS 37 2 1 Vf
abbrev S8:=ah (cz (mz G.K) ⟨#[{0},1,#[Rx,{1}]]⟩)
def BA:=qS 38 2 1 S8
abbrev Ui:=ah (da (ig df df {-1} #[0,{0}] {-32}) (aq (dy G true) {-0} {0}))
def QV:=qS 39 1 1 Ui
abbrev S1:=ah (da (ig df df {-1} #[0,{0}] {-4}) #[yc,dN (G.ad "Shape") (sJ G) [] E ⟨{-3},{0}⟩])
def Qr:=qS 40 1 1 S1
abbrev U1:=bu (cw (tB #[yc,{0}["shape"]])) (ah (tC (.bl false))) bw::(aq ek #[0,{0}["shape"]["lengths"]] {-0}&&ah ({0}["joining"]=={-0}))::ah (da (aq df {0}["joining"] {-2}) (aq (eE G.K) {0}["shape"]["kind"] {-0}))
def Rp:=qS 41 1 1 U1
abbrev UB:=bu (cW (cw (tB #[Qr,{0}["axes"]])) (tB (aq ek #[0,{0}["inputs"]] {-8}))) (ah (tC (.bl false))) bw::bu (cw (tB (cz (pB G.K) ⟨#[{0}["inputs"],1,#[yc,{1}]]⟩))) (ah (tC (.bl false))) bw::bu (cw (tB (ig df df {-1} #[0,{0}["results"]] {-8}))) (ah (tC (.bl false))) bw::ah (cz (pB G.K) ⟨#[{0}["results"],2,#[Rp,{2}]]⟩)
def Q8:=qS 42 3 1 UB
abbrev Vi:=ah (da (aq df {0}["data_slots"] #[0,{0}["slots"]]) (aq df #[BA,{0}["slots"]] {-50331648}))
def Ry:=qS 43 1 1 Vi
abbrev VR:=fH (i_ G.K ⟨{0}["slots"]⟩) (hZ G.K 2 (dJ (aY 1) (dJ (aY 2) hX))) (bu (cw (tB #[yc,{2}])) (ah {1}) bw)::fH (i_ G.K ⟨{0}["names"]⟩) (hZ G.K 2 (dJ (aY 1) (dJ (aY 3) hX))) (bu (cw (tB #[QV,{3}])) (ah {1}) bw)::fH (i_ G.K ⟨{0}["pieces"]⟩) (hZ G.K 2 (dJ (aY 1) (dJ (aY 4) hX))) (bu (cw (tB #[Q8,{4}])) (ah {1}) bw)::bu (cw (tB #[Ry,{0}])) (ah #[0,{0}["slots"]]) bw::ah (tC .aC)
def RY:=qS 44 5 1 VR
abbrev Tx:=({1}["bank"]=={-0}&&ah (aq fS {1}["number"] #[0,{0}["slots"]]))::ah (aq fS {1}["number"] {-1024})
def QH:=qS 45 2 2 Tx
abbrev Vh:=({1}["bank"]=={-0}&&ah {0}["slots"][{1}["number"]])::ah (tC .aC)
def BI:=qS 46 2 2 Vh
abbrev Tr:=(#[0,{1}["lengths"]]=={-0}&&ah (aq nO {0} (tC .aC)))::ah (da (aq fT {0} (tC .aC)) #[BG,{0},{1}])
def Hr:=qS 47 2 2 Tr
abbrev U9:=ah (da ({0}["bank"]=={1}["bank"]) ({0}["number"]=={1}["number"]))
def Rv:=qS 48 2 2 U9
abbrev TH:=ah (cz (uK G.K) ⟨#[{1},2,#[Rv,{0},{2}]]⟩)
def abK:=qS 49 3 2 TH
abbrev Vg:=ah (da ({0}["bank"]=={-0}) #[abK,{0},{1}])
def BH:=qS 50 2 2 Vg
abbrev TX:=ah (da (aq fT {0} (tC .aC)) (da ({0}["kind"]=={1}) (#[0,{0}["lengths"]]=={2})))
def nW:=qS 51 3 3 TX
abbrev TY:=ah (da (aq fT {0} (tC .aC)) (da ({0}["kind"]=={1}) (aq ek #[0,{0}["lengths"]] {-0})))
def uZ:=qS 52 2 2 TY
abbrev TN:=ah (da (aq fT {0} (tC .aC)) #[BG,{0},dN (G.ad "Shape") (sJ G) [] E ⟨{1},{2}⟩])
def sL:=qS 53 3 3 TN
abbrev VP:=ah (eU (eT G.K) {0} gy (ew {1})+eU (eT G.K) {0} (ew ({1}+{-1})) gy)
def vb:=qS 54 2 2 VP
abbrev Ts:=#[{1}[{-0}],3]::bu (cW (tB ({0}["kind"]=={-0})) (cW (cw (tB #[uZ,{3},{0}["kind"]])) (tB (aq (dy G true) {0}["u"] {-"FOLDS"})))) (ah (tC (.bl false))) bw::({0}["v"]=={-255}&&ah (aq nO {2} (tC .aC)))::ah (da (aq fS {0}["v"] #[0,{3}["lengths"]]) #[Hr,{2},dN (G.ad "Shape") (sJ G) [] E ⟨{0}["kind"],#[vb,{3}["lengths"],{0}["v"]]⟩])
def QC:=qS 55 4 3 Ts
abbrev UN:=#[{1}[{-0}],3]::#[{1}[{-1}],4]::bu (cW (tB ({0}["kind"]=={-0})) (cW (cw (tB #[nW,{3},{0}["kind"],{-2}])) (cw (tB #[nW,{4},{0}["kind"],{-2}])))) (ah (tC (.bl false))) bw::ah (da ({3}["lengths"][{-1}]=={4}["lengths"][{-0}]) #[sL,{2},{0}["kind"],bJ ⟨{3}["lengths"][{-0}],{4}["lengths"][{-1}]⟩])
def Rg:=qS 56 5 3 UN
abbrev VM:=#[{1}[{-0}],3]::ah (da #[nW,{3},{0}["kind"],{-2}] #[sL,{2},{0}["kind"],bJ ⟨{3}["lengths"][{-1}],{3}["lengths"][{-0}]⟩])
def RV:=qS 57 4 3 VM
abbrev Vk:=#[{1}[{-0}],3]::ah (da #[nW,{3},{0}["kind"],{-1}] #[sL,{2},{0}["kind"],{3}["lengths"]])
def RC:=qS 58 4 3 Vk
abbrev Uu:=#[{1}[{-0}],3]::ah (da #[nW,{3},{0}["kind"],{-1}] #[sL,{2},{-3},{3}["lengths"]])
def Q2:=qS 59 4 3 Uu
abbrev Uz:=#[{1}[{-0}],3]::#[{1}[{-1}],4]::bu (cW (cw (tB #[uZ,{3},{0}["kind"]])) (cw (tB #[nW,{4},{-3},{-1}]))) (ah (tC (.bl false))) bw::ah #[sL,{2},{0}["kind"],{4}["lengths"]+eU (eT G.K) {3}["lengths"] (ew {-1}) gy]
def Q6:=qS 60 5 3 Uz
abbrev Uy:=#[{1}[{-0}],3]::bu (cW (tB (aq (eE G.K) {3}["kind"] {0}["kind"])) (cW (tB (aq fG {0}["u"] #[0,{3}["lengths"]])) (cw (tB #[nW,{2},{0}["kind"],#[0,{3}["lengths"]]])))) (ah (tC (.bl false))) bw::ah (#[vb,{2}["lengths"],{0}["u"]]==#[vb,{3}["lengths"],{0}["u"]])
def Q5:=qS 61 4 3 Uy
abbrev T1:=#[{1}[{-0}],3]::#[{1}[{-1}],4]::bu (cW (tB (aq (eE G.K) {3}["kind"] {0}["kind"])) (cW (cw (tB #[nW,{4},{0}["kind"],#[0,{3}["lengths"]]])) (tB (aq fG {0}["u"] #[0,{3}["lengths"]])))) (ah (tC (.bl false))) bw::(aq (eE G.K) #[vb,{3}["lengths"],{0}["u"]] #[vb,{4}["lengths"],{0}["u"]]&&ah (tC (.bl false)))::#[{3}["lengths"][{0}["u"]]+{4}["lengths"][{0}["u"]],5]::ah #[sL,{2},{0}["kind"],eU (eT G.K) {3}["lengths"] gy (ew {0}["u"])+bJ ⟨{5}⟩+eU (eT G.K) {3}["lengths"] (ew ({0}["u"]+{-1})) gy]
def QM:=qS 62 6 3 T1
abbrev S0:=#[{1}[{-0}],3]::bu (cW (cw (tB #[uZ,{3},{0}["kind"]])) (cw (tB #[uZ,{2},{0}["kind"]]))) (ah (tC (.bl false))) bw::ah (#[abJ,{3}]==#[abJ,{2}])
def Qq:=qS 63 4 3 S0
abbrev Tp:=ah (da (aq nO {1}[{-0}] (tC .aC)) #[uZ,{2},{0}["kind"]])
def QB:=qS 64 3 3 Tp
abbrev UD:=ah (da ({0}["kind"]=={-3}) #[nW,{2},{-3},{-1}])
def Q_:=qS 65 3 3 UD
abbrev VN:=ah (da (nY ({0}["u"]=={-0}) (aq (dy G false) {0}["which"] {-"U_NAMED_BY"})) (nY ({0}["v"]=={-0}) (aq (dy G false) {0}["which"] {-"V_NAMED_BY"})))
def RW:=qS 66 1 1 VN
abbrev Ut:=(aq (eE G.K) #[0,{1}] {-"OPERANDS_OF"}[{0}["which"]]&&ah (tC (.bl false)))::ah (nY ({0}["which"]=={-9}) (cz (pB G.K) ⟨#[{1},2,aq fT {2} (tC .aC)]⟩))
def Q1:=qS 67 3 2 Ut
abbrev Tt:=bu (cW (cw (tB #[ya,{1}["kind"]])) (cW (tB (aq fG {1}["which"] #[0,{-"RULES"}])) (tB (aq (eE G.K) #[0,{1}["results"]] {-1})))) (ah (tC (.bl false))) bw::bu (cW (tB #[BH,{1}["results"][{-0}],{1}["operands"]]) (cw (tB #[RW,{1}]))) (ah (tC (.bl false))) bw::#[#[{1}["operands"],4,#[BI,{0},{4}]],2]::bu (cw (tB #[Q1,{1},{2}])) (ah (tC (.bl false))) bw::#[{-"RULES"}[{1}["which"]],3]::ah (BR [(G.ad "fold_is_good",QC G),(G.ad "product_is_good",Rg G),(G.ad "turn_is_good",RV G),(G.ad "sorted_is_good",RC G),(G.ad "order_is_good",Q2 G),(G.ad "pick_is_good",Q6 G),(G.ad "part_is_good",Q5 G),(G.ad "join_is_good",QM G),(G.ad "as_is_good",Qq G),(G.ad "fill_is_good",QB G),(G.ad "places_is_good",Q_ G)] E {3} ⟨{1},{2},#[BI,{0},{1}["results"][{-0}]]⟩)
def QD:=qS 68 5 2 Tt
abbrev SV:=(aq (eE G.K) #[0,{1}] #[0,{2}]&&ah (tC (.bl false)))::ah (cz (pB G.K) ⟨cH (rV G.K ⟨{1},{2}⟩) (hZ G.K 2 (dJ (aY 3) (dJ (aY 4) hX))) dA #[Hr,#[BI,{0},{3}],{4}] [3,4]⟩)
def Hj:=qS 69 5 3 SV
abbrev U4:=fH (i_ G.K ⟨{0}["results"]⟩) (hZ G.K 2 (dJ (aY 1) (dJ (aY 2) hX))) (bu (cW (tB #[abK,{2},eU (eT G.K) {0}["results"] gy (ew {1})]) (tB #[BH,{2},{0}["operands"]])) (ah (tC (.bl false))) bw)::ah (tC (.bl true))
def Rt:=qS 70 3 1 U4
abbrev UA:=bu (cW (tB (aq fG {1}["which"] #[0,{0}["pieces"]])) (cW (tB (aq (eE G.K) {1}["kind"] {-0})) (cW (tB (aq (eE G.K) {1}["u"] {-0})) (tB (aq (eE G.K) {1}["v"] {-0}))))) (ah (tC (.bl false))) bw::#[{0}["pieces"][{1}["which"]],2]::bu (cw (tB #[Hj,{0},{1}["operands"],{2}["inputs"]])) (ah (tC (.bl false))) bw::bu (cw (tB #[Hj,{0},{1}["results"],#[{2}["results"],3,{3}["shape"]]])) (ah (tC (.bl false))) bw::ah #[Rt,{1}]
def Q7:=qS 71 4 2 UA
abbrev S_:=bu (cw (tB (cz (pB G.K) ⟨#[{1}["operands"]+{1}["results"],2,#[QH,{0},{2}]]⟩))) (ah (tC (.bl false))) bw::({1}["form"]=={-0}&&ah #[Q7,{0},{1}])::ah #[QD,{0},{1}]
def Qu:=qS 72 3 2 S_
abbrev VS:=fH (i_ G.K ⟨{0}["calls"]⟩) (hZ G.K 2 (dJ (aY 1) (dJ (aY 2) hX))) (bu (cw (tB #[Qu,{0},{2}])) (ah {1}) bw)::ah (tC .aC)
def RZ:=qS 73 3 1 VS
abbrev TV:=ah (aq (dy G false) {0} {-"SHARED_FIELDS"})
def yb:=qS 74 1 1 TV
abbrev TM:=ah (nY (aq (dy G false) {0} {-"SHARED_FIELDS"}) (aq (dy G false) {0} {-"MAIN_FIELDS"}))
def QK:=qS 75 1 1 TM
abbrev TK:=ah (nY (aq (dy G false) {0} {-"SHARED_FIELDS"}) (aq (dy G false) {0} {-"BODY_FIELDS"}))
def QJ:=qS 76 1 1 TK
abbrev Um:=(#[yb,{0}]&&ah {-"SHARED_FIELDS"}[{0}])::ah {-"MAIN_FIELDS"}[{0}]
def HC:=qS 77 1 1 Um
abbrev Ul:=(#[yb,{0}]&&ah ({-"SHARED_FIELDS"}[{0}]+fu ⟨{"mask"}⟩))::ah {-"BODY_FIELDS"}[{0}]
def QX:=qS 78 1 1 Ul
abbrev To:=ah (bJ ⟨fu ⟨{"kind"},{0}["kind"]⟩,fu ⟨{"mask"},{0}["mask"]⟩,fu ⟨{"aux"},{0}["aux"]⟩,fu ⟨{"dst"},{0}["dst"]⟩,fu ⟨{"a"},{0}["a"]⟩,fu ⟨{"b"},{0}["b"]⟩,fu ⟨{"c"},{0}["c"]⟩,fu ⟨{"imm"},{0}["imm"]⟩,fu ⟨{"to"},{0}["to"]⟩⟩)
def QA:=qS 79 1 1 To
abbrev Uv:=fH (f7 G.K #[QA,{0}]) (hZ G.K 2 (dJ (aY 2) (dJ (aY 3) hX))) (bu (jZ (tB (aq (eE G.K) {3} {-0})) (tB (aq (dy G true) {2} {1}))) (ah (tC (.bl false))) bw)::ah ({0}["twelfth"]=={-0})
def HD:=qS 80 4 2 Uv
abbrev UC:=ah (aq fS (cz sC ⟨{0}["dst"],{0}["a"],{0}["b"],{0}["c"]⟩) {1})
def Q9:=qS 81 2 2 UC
abbrev Ti:=bu (cW (tB (aq fG ({0}["a"]+{-3}) {1})) (tB (aq ek {0}["aux"] {-3}))) (ah (tC (.bl false))) bw::bu (jZ (tB (aq (eE G.K) {0}["aux"] {-1})) (tB (aq (eE G.K) {0}["b"] {-0}))) (ah (tC (.bl false))) bw::(aq df {0}["aux"] {-1}&&ah ({0}["kind"]=={-8}))::ah #[x_,{0}["kind"]]
def Qz:=qS 82 2 2 Ti
abbrev T2:=(aq (dy G false) {0}["word"] {-"KINDLESS"}&&ah (tC (.bl true)))::(aq (dy G false) {0}["word"] {-"OF_ANY_KIND"}&&ah #[ya,{0}["kind"]])::ah #[x_,{0}["kind"]]
def QN:=qS 83 1 1 T2
abbrev Vc:=bu (cw (tB #[Q9,{0},{1}])) (ah (tC (.bl false))) bw::({0}["word"]=={"draw"}&&ah #[Qz,{0},{1}])::({0}["word"]=={"two"}&&ah #[QG,{0}["kind"],{0}["aux"]])::({0}["word"]=={"one"}&&ah (da #[QF,{0}["kind"],{0}["aux"]] (aq df {0}["imm"] {-3})))::ah (da #[QN,{0}] (aq df {0}["aux"] (BS G {-"MOST_AUX"} {0}["word"] {-0})))
def HL:=qS 84 2 2 Vc
abbrev U8:=ah (da (aq fS {0} {-256}) (aq df ({0}+#[0,{1}]) {-256}))
def HK:=qS 85 2 2 U8
abbrev TU:=ah (ig df df {-1} {0} {-63})
def Hv:=qS 86 1 1 TU
abbrev Ug:=bu (cW (tB (aq ek {0}["aux"] {-15})) (cw (tB #[Hv,{0}["dst"]]))) (ah (tC (.bl false))) bw::ah (aq df (cz sC ⟨{0}["a"],{0}["b"]⟩) {-63})
def QU:=qS 87 1 1 Ug
abbrev Tc:=bu (cW (tB (aq fG {1}["aux"] #[0,{0}["inputs"]])) (tB (aq fG {1}["dst"] {-256}))) (ah (tC (.bl false))) bw::ah #[HK,{1}["a"],{0}["inputs"][{1}["aux"]]["lengths"]]
def Qw:=qS 88 2 2 Tc
abbrev Vl:=bu (cW (tB (aq fG {1}["aux"] #[0,{0}["results"]])) (cW (tB (aq fG {1}["b"] {-256})) (tB (aq ek {1}["c"] {-3})))) (ah (tC (.bl false))) bw::#[{0}["results"][{1}["aux"]]["shape"],2]::bu (cW (tB (#[0,{2}["lengths"]]=={-0})) (cw (tB #[HK,{1}["a"],{2}["lengths"]]))) (ah (tC (.bl false))) bw::ah (nY ({1}["c"]=={-0}) (aq (eE G.K) {2}["kind"] {-0}))
def RD:=qS 89 3 2 Vl
abbrev Tu:=bu (cW (tB (aq fG {1}["aux"] #[0,{0}["results"]])) (tB (aq fG {1}["a"] {-256}))) (ah (tC (.bl false))) bw::ah (#[0,{0}["results"][{1}["aux"]]["shape"]["lengths"]]=={-0})
def QE:=qS 90 2 2 Tu
abbrev Uw:=#[{1}["word"],2]::({2}=={"place"}&&ah (da (aq fS {1}["dst"] {-256}) (aq fS {1}["a"] #[0,{0}["axes"]])))::({2}=={"test"}&&ah (da #[Hv,{1}["dst"]] (aq fS {1}["a"] {-256})))::({2}=={"masks"}&&ah #[QU,{1}])::({2}=={"cell"}&&ah #[Qw,{0},{1}])::({2}=={"store"}&&ah #[RD,{0},{1}])::({2}=={"hand"}&&ah #[QE,{0},{1}])::ah (aq (dy G false) {2} {-"ASKING_NO_MORE"})
def Q3:=qS 91 3 2 Uw
abbrev S4:=bu (cw (tB #[QJ,{1}["word"]])) (ah (tC (.bl false))) bw::bu (cW (tB (aq ek {1}["mask"] {-63})) (cw (tB #[HD,{1},#[QX,{1}["word"]]]))) (ah (tC (.bl false))) bw::(#[yb,{1}["word"]]&&ah #[HL,{1},{-256}])::ah #[Q3,{0},{1}]
def Hl:=qS 92 2 2 S4
abbrev Td:=bu (cW (tB (aq fG {1}["aux"] #[0,{0}["slots"]])) (cW (tB (aq fG {1}["dst"] {-1024})) (tB (aq fG {1}["a"] {-1024})))) (ah (tC (.bl false))) bw::ah (aq df ({1}["a"]+#[0,{0}["slots"][{1}["aux"]]["lengths"]]) {-1024})
def Qx:=qS 93 2 2 Td
abbrev Vd:=({0}["aux"]=={-1}&&ah ({0}["a"]=={-0}))::ah (da ({0}["aux"]=={-0}) (aq fS {0}["a"] {-1024}))
def Rw:=qS 94 1 1 Vd
abbrev VL:=({1}["aux"]=={-1}&&ah (da ({1}["kind"]=={-0}) (aq fS {2} #[0,{0}["slots"]])))::ah (da ({1}["aux"]=={-0}) (da #[ya,{1}["kind"]] (aq fS {2} {-1024})))
def HX:=qS 95 3 3 VL
abbrev Th:=(aq fG (cz sC ⟨{1}["dst"],{1}["a"]⟩) #[0,{0}["slots"]]&&ah (tC (.bl false)))::ah #[BG,{0}["slots"][{1}["dst"]],{0}["slots"][{1}["a"]]]
def Qy:=qS 96 2 2 Th
abbrev Ux:=#[{1}["word"],2]::({2}=={"cell"}&&ah #[Qx,{0},{1}])::({2}=={"skip"}&&ah #[Rw,{1}])::bu (cW (tB ({2}=={"loop"})) (tB ({2}=={"back"}))) (ah (aq fS {1}["dst"] {-1024})) bw::({2}=={"call"}&&ah (aq fS {1}["imm"] #[0,{0}["calls"]]))::({2}=={"tell"}&&ah #[HX,{0},{1},{1}["a"]])::({2}=={"ask"}&&ah (da (aq fS {1}["imm"] #[0,{0}["names"]]) #[HX,{0},{1},{1}["dst"]]))::({2}=={"copy"}&&ah #[Qy,{0},{1}])::ah (nY ({2}=={"end"}) ({2}=={"fail"}))
def Q4:=qS 97 3 2 Ux
abbrev Uc:=bu (cw (tB #[QK,{1}["word"]])) (ah (tC (.bl false))) bw::bu (cw (tB #[HD,{1},#[HC,{1}["word"]]])) (ah (tC (.bl false))) bw::(#[yb,{1}["word"]]&&ah #[HL,{1},{-1024}])::ah #[Q4,{0},{1}]
def QR:=qS 98 2 2 Uc
abbrev VT:=fH (i_ G.K ⟨{0}["main"]⟩) (hZ G.K 2 (dJ (aY 1) (dJ (aY 2) hX))) (bu (cw (tB #[QR,{0},{2}])) (ah {1}) bw)::#[#[0,{0}["main"]],3]::#[{0}["pieces"],4,fH (i_ G.K ⟨{4}["body"]⟩) (hZ G.K 2 (dJ (aY 5) (dJ (aY 2) hX))) (bu (cw (tB #[Hl,{4},{2}])) (ah ({3}+{5})) bw)::#[{3}+#[0,{4}["body"]],3],0]::ah (tC .aC)
def R0:=qS 99 6 1 VT
abbrev SQ:=cj G.K {0} (bJ aX) "innermost"::cj G.K {0} sQ "back_of_loop"::cj G.K {0} sQ "loop_of_back"::cj G.K {0} sQ "depth"::cj G.K {0} sQ "rounds"
def Qm:=qS 100 1 1 SQ
abbrev Ua:=#[dN (G.ad "Loops") (Qm G) [] E aX,1]::#[bJ aX,2]::fH (i_ G.K ⟨{0}⟩) (hZ G.K 2 (dJ (aY 3) (dJ (aY 4) hX))) (#[qM (tB (aq ek #[0,{2}] {-0})) {2}[iU jc {-1}] (tC .aC),5]::({1}["innermost"]++{5})::bu (tB ({4}["word"]=={"loop"})) (b_ #[0,{2}] (nA {1}["depth"] {3} nP)::b_ (bJ aX) (nA {1}["rounds"] {3} nP)::({2}++{3})) (bu (jZ (tB ({4}["word"]=={"back"})) (tB (aq fT {5} (tC .aC)))) (b_ {3} (nA {1}["back_of_loop"] {5} nP)::b_ {5} (nA {1}["loop_of_back"] {3} nP)::cG (BQ G.K "list" Bi {2})) (bu (jZ (tB ({4}["word"]=={"round"})) (tB (aq fT {5} (tC .aC)))) ({1}["rounds"][{5}]++{3}) bw)))::ah {1}
def HA:=qS 101 6 1 Ua
abbrev TB:=#[bJ aX,2]::#[{0}["innermost"][{1}],3]::mG (tB (aq fT {3} (tC .aC))) (({2}++{3})::#[{0}["innermost"][{3}],3])::ah {2}
def Hs:=qS 102 4 2 TB
abbrev Tn:=ah (({0}[{1}]["word"]=={"end"})==({1}==aq xR #[0,{0}] {-1}))
def Ho:=qS 103 2 2 Tn
abbrev Ve:=#[{0}[{2}]["to"],3]::bu (cW (tB (aq df {3} {2})) (tB (aq fG {3} #[0,{0}]))) (ah (tC (.bl false))) bw::ah ({1}["innermost"][{3}]=={1}["innermost"][{2}])
def HM:=qS 104 4 3 Ve
abbrev Uo:=#[{1}["innermost"][{2}],3]::(aq nO {3} (tC .aC)&&ah (tC (.bl true)))::#[{0}[{2}]["to"],4]::ah (#[0,cH (f7 G.K {1}["rounds"][{3}]) (aY 5) (tB (ig fS fS {2} {5} {4})) {5} [5]]=={-0})
def QY:=qS 105 6 3 Uo
abbrev T_:=ah (da (aq df {0}["depth"][{1}] {-15}) (aq (dy G false) {1} {0}["back_of_loop"]))
def Hz:=qS 106 2 2 T_
abbrev Ud:=bu (cw (tB #[Hz,{1},{2}])) (ah (tC (.bl false))) bw::#[{0}[{2}],3]::ah (da ({3}["to"]=={1}["back_of_loop"][{2}]+{-1}) (aq df {3}["imm"] {-1048576}))
def QS:=qS 107 4 3 Ud
abbrev S2:=ah (da (aq (dy G false) {2} {1}["loop_of_back"]) ({0}[{2}]["to"]=={1}["loop_of_back"][{2}]+{-1}))
def Hk:=qS 108 3 3 S2
abbrev Ub:=bu (cw (tB #[Hk,{0},{1},{2}])) (ah (tC (.bl false))) bw::#[{0}[{2}],3]::#[{0}[{1}["loop_of_back"][{2}]],4]::ah (da ({3}["dst"]=={4}["dst"]) ({3}["imm"]=={4}["imm"]))
def QQ:=qS 109 5 3 Ub
abbrev U5:=#[{1}["innermost"][{2}],3]::bu (cW (tB (aq nO {3} (tC .aC))) (tB (aq (dy G true) {3} {1}["back_of_loop"]))) (ah (tC (.bl false))) bw::ah (da (aq df {0}[{2}]["imm"] {-1048576}) ({0}[{2}]["to"]=={1}["back_of_loop"][{3}]+{-1}))
def Ru:=qS 110 4 3 U5
abbrev U0:=({1}["word"]=={"call"}&&ah (cH (f7 G.K {0}["calls"][{1}["imm"]]["results"]) (aY 2) (tB ({2}["bank"]=={-1})) {2}["number"] [2]))::bu (cW (tB (aq (dy G false) {1}["word"] {-"PUTTING_NO_DST"})) (tB (aq (dy G true) {"dst"} #[HC,{1}["word"]]))) (ah (bJ aX)) bw::bu (jZ (tB ({1}["word"]=={"ask"})) (tB ({1}["aux"]=={-1}))) (ah (bJ aX)) bw::ah (bJ ⟨{1}["dst"]⟩)
def Ro:=qS 111 3 2 U0
abbrev UZ:=#[#[#[Hs,{1},{2}],4,{0}["main"][{4}]["dst"]],3]::ah (BU (cz (uK G.K) ⟨#[#[Ro,{0},{0}["main"][{2}]],5,aq (dy G false) {5} {3}]⟩))
def Rn:=qS 112 6 3 UZ
abbrev Ue:=#[{0}["main"][{2}]["word"],3]::bu (cW (cw (tB #[Ho,{0}["main"],{2}])) (cw (tB #[Rn,{0},{1},{2}]))) (ah (tC (.bl false))) bw::({3}=={"loop"}&&ah #[QS,{0}["main"],{1},{2}])::({3}=={"back"}&&ah #[QQ,{0}["main"],{1},{2}])::({3}=={"skip"}&&ah #[HM,{0}["main"],{1},{2}])::ah (tC (.bl true))
def QT:=qS 113 4 3 Ue
abbrev S5:=#[{0}[{2}]["word"],3]::bu (cw (tB #[Ho,{0},{2}])) (ah (tC (.bl false))) bw::({3}=={"loop"}&&ah (da #[Hz,{1},{2}] (#[0,{1}["rounds"][{2}]]=={-1})))::({3}=={"back"}&&ah #[Hk,{0},{1},{2}])::({3}=={"round"}&&ah #[Ru,{0},{1},{2}])::({3}=={"skip"}&&ah (da #[HM,{0},{1},{2}] #[QY,{0},{1},{2}]))::ah (tC (.bl true))
def Qs:=qS 114 4 3 S5
abbrev VU:=(#[0,{1}]=={-0}&&ah {-0})::#[#[HA,{1}],3]::fH (fO ⟨#[0,{1}]⟩) (aY 4) (bu (jZ (tB {2}) (cw (tB #[QT,{0},{3},{4}]))) (ah {4}) bw::bu (jZ (cw (tB {2})) (cw (tB #[Qs,{1},{3},{4}]))) (ah {4}) bw)::ah (tC .aC)
def sO:=qS 115 5 3 VU
abbrev VV:=#[{-0},1]::fH (i_ G.K ⟨#[nV,{0}]⟩) (hZ G.K 2 (dJ (aY 2) (dJ (aY 3) hX))) (#[#[sO,{0},{3},{2}=={-0}],4]::(aq fT {4} (tC .aC)&&ah ({1}+{4}))::#[{1}+#[0,{3}],1])::ah (tC .aC)
def R5:=qS 116 5 1 VV
abbrev Tq:=#[#[RY,{0}],1]::(aq fT {1} (tC .aC)&&ah (fu ⟨{-2},{1}⟩))::#[#[RZ,{0}],1]::(aq fT {1} (tC .aC)&&ah (fu ⟨{-3},{1}⟩))::#[#[R0,{0}],1]::(aq fT {1} (tC .aC)&&ah (fu ⟨{-4},{1}⟩))::#[#[R5,{0}],1]::(aq fT {1} (tC .aC)&&ah (fu ⟨{-5},{1}⟩))::ah (tC .aC)
def Hq:=qS 117 2 1 Tq
abbrev UM:=ah (bJ ⟨{0}["kind"]⟩+{0}["lengths"])
def BE:=qS 118 1 1 UM
abbrev UL:=ah (bJ ⟨{0}["joining"]⟩+#[BE,{0}["shape"]])
def Rf:=qS 119 1 1 UL
abbrev UH:=ah #[{0},1,bJ ⟨{1}["bank"],{1}["number"]⟩]
def HF:=qS 120 2 1 UH
abbrev UE:=#[bJ ⟨{0}["form"],{0}["which"],{0}["kind"],{0}["u"],{0}["v"]⟩,1]::ah (bJ ⟨{1},#[HF,{0}["operands"]],#[HF,{0}["results"]]⟩)
def Ra:=qS 121 2 1 UE
abbrev UI:=#[#[uY,{0}],1]::b_ {-0} (nA {1} {-8} nP)::ah {1}
def HG:=qS 122 2 1 UI
abbrev UJ:=#[#[HG,{1}],2]::({1}["word"]=={"ask"}&&b_ {0}["names"][{1}["imm"]] (nA {2} {-9} nP))::ah {2}
def Rb:=qS 123 3 2 UJ
abbrev UK:=ah (bJ ⟨{0}["axes"],#[{0}["inputs"],1,#[BE,{1}]],#[{0}["results"],2,#[Rf,{2}]],{0}["flag"],#[{0}["body"],3,#[HG,{3}]]⟩)
def Rc:=qS 124 4 1 UK
abbrev UG:=ah (bJ ⟨{0}["data_slots"],#[{0}["slots"],1,#[BE,{1}]],#[{0}["pieces"],2,#[Rc,{2}]],#[{0}["calls"],3,#[Ra,{3}]],#[{0}["main"],4,#[Rb,{0},{4}]]⟩)
def HE:=qS 125 5 1 UG
abbrev SY:=ah (#[HE,{0}]==#[HE,{1}])
def Qp:=qS 126 2 2 SY
abbrev SK:=cj G.K {0} {1} "lines"::cj G.K {0} {-0} "spot"
def Ql:=qS 127 2 2 SK
abbrev SJ:=(bC [(G.ad "ByteReader",uV G),(G.ad "LineReader",uX G)] "is_at_end" E {0} aX&&ah {""})::ah {0}["lines"][{0}["spot"]][{-0}]
def sI:=qS 128 1 1 SJ
abbrev SN:=(aq (eE G.K) (bC [(G.ad "LineReader",sI G)] "first_word" E {0} aX) {1}&&dB (G.ad "NoText") E)::cj G.K {0} ({0}["spot"]+{-1}) "spot"::ah (eU (eT G.K) {0}["lines"][aq xR {0}["spot"] {-1}] (ew {-1}) gy)
def mE:=qS 129 2 2 SN
abbrev SO:=#[bJ aX,3]::mG (tB (bC [(G.ad "LineReader",sI G)] "first_word" E {0} aX=={1})) ({3}++bC [(G.ad "LineReader",mE G)] "take_line" E {0} ⟨{1}⟩)::(aq ek #[0,{3}] {2}&&dB (G.ad "NoText") E)::ah {3}
def nU:=qS 130 4 3 SO
abbrev VI:=#[cz (Bb G.K) ⟨#[{"\n 0123456789>abcdefghijklmnopqrstuvwxyz"},3,fu ⟨cz xQ ⟨{3}⟩,{3}⟩]⟩,1]::#[{0},2,aq (dy G true) {2} {1}&&dB (G.ad "NoText") E,0]::ah (ks (rJoin G.K) {""} #[{0},2,{1}[{2}]])
def RT:=qS 131 4 1 VI
abbrev T6:=bu (cw (tB (ks GA {0} {"\n"}))) (dB (G.ad "NoText") E) bw::ah #[eU (eT G.K) (ks Bk {0} {"\n"}) gy (ew (iU jc {-1})),1,ks Bk {1} {" "}]
def QO:=qS 132 2 1 T6
abbrev Up:=bu (cW (cw (tB (yl Bd {0}))) (tB (aq ek #[0,{0}] {-20}))) (dB (G.ad "NoText") E) bw::bu (jZ (tB ({0}[{-0}]=={"0"})) (tB (aq ek #[0,{0}] {-1}))) (dB (G.ad "NoText") E) bw::#[cz GG ⟨{0}⟩,2]::(aq ek {2} {1}&&dB (G.ad "NoText") E)::ah {2}
def sM:=qS 133 3 2 Up
abbrev Uq:=(aq (eE G.K) #[0,{0}] #[0,{1}]&&dB (G.ad "NoText") E)::ah (cH (rV G.K ⟨{0},{1}⟩) (hZ G.K 2 (dJ (aY 2) (dJ (aY 3) hX))) dA #[sM,{2},{3}] [2,3])
def sN:=qS 134 4 2 Uq
abbrev T3:=(aq ek #[0,{0}] {1}&&dB (G.ad "NoText") E)::ah #[{0},2,#[sM,{2},{-4294967295}]]
def Hx:=qS 135 3 2 T3
abbrev Vb:=(#[0,{0}]=={-0}&&dB (G.ad "NoText") E)::ah (dN (G.ad "Shape") (sJ G) [] E ⟨#[sM,{0}[{-0}],{-255}],#[Hx,eU (eT G.K) {0} (ew {-1}) gy,{-4}]⟩)
def yd:=qS 136 1 1 Vb
abbrev U3:=(aq fS #[0,{0}] {-2}&&dB (G.ad "NoText") E)::#[#[yd,eU (eT G.K) {0} gy (ew {-1})+eU (eT G.K) {0} (ew {-2}) gy],1]::ah (dN (G.ad "Result") (By G) [] E ⟨{1},#[sM,{0}[{-1}],{-255}]⟩)
def Rr:=qS 137 2 1 U3
abbrev Uk:=(aq (eE G.K) #[0,{0}] {-1}&&dB (G.ad "NoText") E)::#[#[{0}[{-0}],2,ks GB {"0123456789abcdef"} {2}],1]::bu (cW (tB (aq fS #[0,{1}] {-2})) (cW (tB (aq ek #[0,{1}] (aq kR {-2} {-255}))) (cW (tB (aq (eE G.K) (aq xO #[0,{1}] {-2}) {-0})) (tB (aq fS (cz (Bf G.K) ⟨{1}⟩) {-0}))))) (dB (G.ad "NoText") E) bw::ah (cH (w9 ⟨{-0},#[0,{1}],{-2}⟩) (aY 3) dA (aq kR {-16} {1}[{3}]+{1}[{3}+{-1}]) [3])
def HB:=qS 138 4 1 Uk
abbrev Tz:=#[#[sM,{1},{-65535}],2]::({0}=={"s"}&&ah (dN (G.ad "Hold") (uW G) [] E ⟨{-0},{2}⟩))::({0}=={"n"}&&ah (dN (G.ad "Hold") (uW G) [] E ⟨{-1},{2}⟩))::dB (G.ad "NoText") E
def QI:=qS 139 3 2 Tz
abbrev TC:=bu (cW (tB (aq (eE G.K) (aq xO #[0,{0}] {-2}) {-0})) (tB (aq ek #[0,{0}] (aq kR {-2} {1})))) (dB (G.ad "NoText") E) bw::ah (cH (w9 ⟨{-0},#[0,{0}],{-2}⟩) (aY 2) dA #[QI,{0}[{2}],{0}[{2}+{-1}]] [2])
def Ht:=qS 140 3 2 TC
abbrev Tb:=#[#[sN,eU (eT G.K) {0} gy (ew {-5}),{-"CALL_HEAD_MOST"}],1]::(aq (dy G true) {">"} {0}&&dB (G.ad "NoText") E)::#[vd G.K {0} ⟨{">"}⟩,2]::#[#[Ht,eU (eT G.K) {0} (ew {-5}) (ew {2}),{-8}],3]::#[#[Ht,eU (eT G.K) {0} (ew ({2}+{-1})) gy,{-8}],4]::ah (dN (G.ad "Call") (Bw G) [] E ⟨{1},{3},{4}⟩)
def Hm:=qS 141 5 1 Tb
abbrev Vr:=#[bJ aX,1]::mG (tB #[QL,bC [(G.ad "LineReader",sI G)] "first_word" E {0} aX]) (#[bC [(G.ad "LineReader",sI G)] "first_word" E {0} aX,2]::#[#[sN,bC [(G.ad "LineReader",mE G)] "take_line" E {0} ⟨{2}⟩,{-"INSTRUCTION_MOST"}],3]::({1}++dN (G.ad "Instruction") (Hh G) [] E ⟨bJ ⟨#[QZ,{2}]⟩+{3}+bJ ⟨{-0}⟩⟩))::ah {1}
def BK:=qS 142 4 1 Vr
abbrev Vt:=#[#[sN,bC [(G.ad "LineReader",mE G)] "take_line" E {0} ⟨{"piece"}⟩,fu ⟨{-4294967295},{-1}⟩],1]::#[#[Hx,bC [(G.ad "LineReader",mE G)] "take_line" E {0} ⟨{"axes"}⟩,{-4}],2]::#[#[bC [(G.ad "LineReader",nU G)] "take_lines" E {0} ⟨{"input"},{-8}⟩,5,#[yd,{5}]],3]::#[#[bC [(G.ad "LineReader",nU G)] "take_lines" E {0} ⟨{"result"},{-8}⟩,5,#[Rr,{5}]],4]::ah (dN (G.ad "Piece") (Hi G) [] E ⟨{2},{3},{4},{1}[{-0}],{1}[{-1}],#[BK,{0}]⟩)
def RG:=qS 143 6 1 Vt
abbrev Vw:=#[bJ aX,1]::mG (tB (bC [(G.ad "LineReader",sI G)] "first_word" E {0} aX=={"piece"})) ({1}++#[RG,{0}])::(aq ek #[0,{1}] {-256}&&dB (G.ad "NoText") E)::ah {1}
def HV:=qS 144 2 1 Vw
abbrev Tg:=#[dN (G.ad "LineReader") (Ql G) [] E ⟨#[QO,#[RT,{0}]]⟩,1]::#[#[sN,bC [(G.ad "LineReader",mE G)] "take_line" E {1} ⟨{"code"}⟩,fu ⟨{-4294967295}⟩][{-0}],2]::#[#[bC [(G.ad "LineReader",nU G)] "take_lines" E {1} ⟨{"slot"},{-256}⟩,8,#[yd,{8}]],3]::#[#[bC [(G.ad "LineReader",nU G)] "take_lines" E {1} ⟨{"name"},{-256}⟩,8,#[HB,{8}]],4]::#[#[bC [(G.ad "LineReader",nU G)] "take_lines" E {1} ⟨{"call"},{-4096}⟩,8,#[Hm,{8}]],5]::(aq (eE G.K) #[0,bC [(G.ad "LineReader",mE G)] "take_line" E {1} ⟨{"main"}⟩] {-0}&&dB (G.ad "NoText") E)::#[#[BK,{1}],6]::#[#[HV,{1}],7]::bu (cw (tB (bC [(G.ad "ByteReader",uV G),(G.ad "LineReader",uX G)] "is_at_end" E {1} aX))) (dB (G.ad "NoText") E) bw::(aq ek (#[0,{6}]+cz (mz G.K) ⟨#[{7},9,#[0,{9}["body"]]]⟩) {-65536}&&dB (G.ad "NoText") E)::ah (dN (G.ad "Code") (x6 G) [] E ⟨{2},{3},{4},{7},{5},{6}⟩)
def Hn:=qS 145 10 1 Tg
abbrev BV:=ah (bJ ⟨iU jc {-2},{0}[{-0}],{0}[{-1}]⟩)
def qK:=qS 146 1 1 BV
abbrev SE:=cj G.K {0} (tC .aC) "code"
def Qh:=qS 147 1 1 SE
abbrev SA:=#[#[Hq,{1}],2]::(aq fT {2} (tC .aC)&&ah #[qK,{2}])::cj G.K {0} {1} "code"::ah (bJ ⟨{-0}⟩)
def Bx:=qS 148 3 2 SA
abbrev SF:=sR (G.ad "NoBytes") (λE=>#[#[BB,{1}],2]) (ah #[qK,{-"NO_CODE"}])::ah (bC [(G.ad "Holder",Bx G)] "hold_if_good" E {0} ⟨{2}⟩)
def Qi:=qS 149 3 2 SF
abbrev SG:=sR (G.ad "NoText") (λE=>#[#[Hn,{1}],2]) (ah (bJ ⟨iU jc {-5}⟩))::ah (bC [(G.ad "Holder",Bx G)] "hold_if_good" E {0} ⟨{2}⟩)
def Qj:=qS 150 3 2 SG
abbrev SH:=sR (G.ad "NoBytes") (λE=>#[#[BB,{1}],2]) (ah #[qK,{-"NO_CODE"}])::#[#[Hq,{2}],3]::(aq fT {3} (tC .aC)&&ah #[qK,{3}])::ah (bJ ⟨qM (tB #[Qp,{0}["code"],{2}]) {-1} {-0}⟩)
def Qk:=qS 151 4 2 SH
abbrev UU:=#[{1},3]::fH (fO ⟨{2}⟩) (aY 4) (({0}++aq A_ {3} {-255})::#[aq Bj {3} {-8},3])
def u_:=qS 152 5 3 UU
abbrev UQ:=#[{1},3,cG #[u_,{0},{3},{2}],0]
def u9:=qS 153 4 3 UQ
abbrev UY:=({0}++{1}["kind"])::({0}++#[0,{1}["lengths"]])::cG #[u9,{0},{1}["lengths"],{-4}]
def BF:=qS 154 2 2 UY
abbrev UT:=({0}++#[0,{1}])::cG (gi G.K "list" jb {0} ⟨{1}⟩)
def Rk:=qS 155 2 2 UT
abbrev UX:=cG #[BF,{0},{1}["shape"]]::({0}++{1}["joining"])
def Rm:=qS 156 2 2 UX
abbrev UW:=({0}++#[0,{1}["axes"]])::cG #[u9,{0},{1}["axes"],{-4}]::({0}++#[0,{1}["inputs"]])::#[{1}["inputs"],2,cG #[BF,{0},{2}],0]::({0}++#[0,{1}["results"]])::#[{1}["results"],3,cG #[Rm,{0},{3}],0]::cG #[u_,{0},{1}["place"],{-4}]::({0}++{1}["flag"])::cG #[u_,{0},#[0,{1}["body"]],{-4}]
def Rl:=qS 157 4 2 UW
abbrev UR:=({0}++{1}["bank"])::cG #[u_,{0},{1}["number"],{-2}]
def Rj:=qS 158 2 2 UR
abbrev UO:=cG (gi G.K "list" jb {0} ⟨bJ ⟨{1}["form"],{1}["which"],{1}["kind"],#[0,{1}["operands"]],#[0,{1}["results"]]⟩⟩)::cG #[u9,{0},fu ⟨{1}["u"],{1}["v"]⟩,{-8}]::#[{1}["operands"]+{1}["results"],2,cG #[Rj,{0},{2}],0]
def Rh:=qS 159 3 2 UO
abbrev US:=fH (rV G.K ⟨#[uY,{1}]+bJ ⟨{1}["twelfth"]⟩,{-"INSTRUCTION_WIDTHS"}⟩) (hZ G.K 2 (dJ (aY 2) (dJ (aY 3) hX))) (cG #[u_,{0},{2},{3}])
def HH:=qS 160 4 2 US
abbrev UP:=#[fu ⟨#[0,{1}["slots"]],{1}["data_slots"],#[0,{1}["names"]],#[0,{1}["pieces"]],#[0,{1}["calls"]],#[0,{1}["main"]]⟩,2]::cG #[u9,{0},{2},{-4}]
def Ri:=qS 161 3 2 UP
abbrev S7:=#[cz (GH G.K) ⟨{-"BEGINNING"}⟩,1]::cG #[Ri,{1},{0}]::#[{0}["slots"],2,cG #[BF,{1},{2}],0]::#[{0}["names"],3,cG #[Rk,{1},{3}],0]::#[{0}["pieces"],4,cG #[Rl,{1},{4}],0]::#[{0}["calls"],5,cG #[Rh,{1},{5}],0]::#[#[nV,{0}],6,#[{6},7,cG #[HH,{1},{7}],0],0]::ah {1}
def Qt:=qS 162 8 1 S7
abbrev U7:=ah {0}[{1}]["imm"]
def HJ:=qS 163 2 2 U7
abbrev U6:=#[{1}["rounds"][{2}][{-0}],4]::(aq ek {3} {4}&&ah {0}[{4}]["imm"])::ah ({0}[{4}]["imm"]+{-1})
def HI:=qS 164 5 4 U6
abbrev Il:=#[{-1},4]::#[#[Hs,{1},{2}],5,bu (tB {3}) #[aq kR {4} #[HJ,{0},{5}],4] #[aq kR {4} #[HI,{0},{1},{5},{2}],4],0]::ah {4}
def HW:=qS 165 6 4 Il
abbrev Uh:=#[#[HA,{0}],2]::ah (cz (mz G.K) ⟨cH (fO ⟨#[0,{0}]⟩) (aY 3) dA #[HW,{0},{2},{3},{1}] [3]⟩)
def BD:=qS 166 4 2 Uh
abbrev T5:=ah (ks (rJoin G.K) {" "} {0}+{"\n"})
def BC:=qS 167 1 1 T5
abbrev T4:=ah #[BC,bJ ⟨{0}⟩+#[{1},2,cz sD ⟨{2}⟩]]
def nX:=qS 168 3 2 T4
abbrev Uj:=#[#[{0},2,{"0123456789abcdef"}[aq Bc {2} {-16}]+{"0123456789abcdef"}[aq xO {2} {-16}]],1]::ah #[BC,bJ ⟨{"name"},ks (rJoin G.K) {""} {1}⟩]
def QW:=qS 169 3 1 Uj
abbrev VQ:=#[bJ aX,1]::#[{0},2,({1}++qM (tB ({2}["bank"]=={-0})) {"s"} {"n"})::({1}++cz sD ⟨{2}["number"]⟩),0]::ah {1}
def HY:=qS 170 3 1 VQ
abbrev Ta:=#[#[bJ ⟨{0}["form"],{0}["which"],{0}["kind"],{0}["u"],{0}["v"]⟩,2,cz sD ⟨{2}⟩],1]::ah #[BC,bJ ⟨{"call"}⟩+{1}+#[HY,{0}["operands"]]+bJ ⟨{">"}⟩+#[HY,{0}["results"]]]
def Qv:=qS 171 3 1 Ta
abbrev TF:=ah #[nX,{0}["word"],eU (eT G.K) #[uY,{0}] (ew {-1}) gy]
def Hu:=qS 172 1 1 TF
abbrev U2:=ah #[nX,{"result"},bJ ⟨{0}["shape"]["kind"],{0}["joining"]⟩+{0}["shape"]["lengths"]]
def Rq:=qS 173 1 1 U2
abbrev T8:=#[bJ ⟨#[nX,{"piece"},bJ ⟨{0}["place"],{0}["flag"]⟩],#[nX,{"axes"},{0}["axes"]]⟩,1]::cG (gi G.K "list" jb {1} ⟨#[{0}["inputs"],2,#[nX,{"input"},bJ ⟨{2}["kind"]⟩+{2}["lengths"]]]⟩)::cG (gi G.K "list" jb {1} ⟨#[{0}["results"],3,#[Rq,{3}]]⟩)::cG (gi G.K "list" jb {1} ⟨#[{0}["body"],4,#[Hu,{4}]]⟩)::ah {1}
def Hy:=qS 174 5 1 T8
abbrev T7:=#[bJ ⟨#[nX,{"code"},bJ ⟨{0}["data_slots"]⟩]⟩,1]::cG (gi G.K "list" jb {1} ⟨#[{0}["slots"],3,#[nX,{"slot"},bJ ⟨{3}["kind"]⟩+{3}["lengths"]]]⟩)::cG (gi G.K "list" jb {1} ⟨#[{0}["names"],4,#[QW,{4}]]⟩)::cG (gi G.K "list" jb {1} ⟨#[{0}["calls"],5,#[Qv,{5}]]⟩)::({1}++#[nX,{"main"},bJ aX])::cG (gi G.K "list" jb {1} ⟨#[{0}["main"],6,#[Hu,{6}]]⟩)::#[{0}["pieces"],2,cG (gi G.K "list" jb {1} ⟨#[Hy,{2}]⟩),0]::ah {1}
def QP:=qS 175 7 1 T7
abbrev VJ:=ah #[ks (rJoin G.K) {""} #[QP,{0}],1,cz xQ ⟨{1}⟩]
def RU:=qS 176 2 1 VJ
abbrev Vj:=({0}["word"]=={"cell"}&&ah (bJ ⟨{0}["aux"]⟩))::bu (jZ (tB ({0}["word"]=={"tell"})) (tB ({0}["aux"]=={-1}))) (ah (bJ ⟨{0}["a"]⟩)) bw::bu (jZ (tB ({0}["word"]=={"ask"})) (tB ({0}["aux"]=={-1}))) (ah (bJ ⟨{0}["dst"]⟩)) bw::({0}["word"]=={"copy"}&&ah (bJ ⟨{0}["a"],{0}["dst"]⟩))::ah (bJ aX)
def RA:=qS 177 1 1 Vj
abbrev VO:=#[dN (G.ad "Hold") (uW G) [] E ⟨{-0},{1}⟩,2]::#[cH (f7 G.K {0}["calls"]) (aY 5) (tB #[abK,{2},{5}["operands"]+{5}["results"]]) {5} [5],3]::#[cH (f7 G.K {0}["main"]) (aY 6) (tB (aq (dy G false) {1} #[RA,{6}])) {6} [6],4]::ah (#[0,{3}]+#[0,{4}])
def RX:=qS 178 7 2 VO
abbrev VB:=#[cz (mz G.K) ⟨#[#[nV,{0}],2,#[0,{2}]]⟩,1]::ah (bJ ⟨{-0},#[0,{0}["slots"]],{0}["data_slots"],#[0,{0}["names"]],#[0,{0}["pieces"]],#[0,{0}["calls"]],#[0,{0}["main"]],{1},#[BA,{0}["slots"]]⟩)
def RK:=qS 179 3 1 VB
abbrev VE:=(aq fG {1} #[0,{0}["slots"]]&&ah (bJ ⟨iU jc {-4}⟩))::#[{0}["slots"][{1}],2]::ah (bJ ⟨{-0},{2}["kind"]⟩+{2}["lengths"])
def RP:=qS 180 3 2 VE
abbrev VD:=(aq fG {1} #[0,{0}["names"]]&&ah (bJ ⟨iU jc {-4}⟩))::ah (bJ ⟨{-0}⟩+{0}["names"][{1}])
def RO:=qS 181 2 2 VD
abbrev Vz:=#[#[nV,{0}],3]::bu (cW (tB (aq fG {1} #[0,{3}])) (tB (aq fG {2} #[0,{3}[{1}]]))) (ah (bJ ⟨iU jc {-4}⟩)) bw::ah (bJ ⟨{-0}⟩+#[uY,{3}[{1}][{2}]])
def RI:=qS 182 4 3 Vz
abbrev VH:=#[#[nV,{0}],3]::(aq fG {1} #[0,{3}]&&ah (bJ ⟨iU jc {-4}⟩))::#[cH (i_ G.K ⟨{3}[{1}]⟩) (hZ G.K 2 (dJ (aY 5) (dJ (aY 6) hX))) (tB ({6}["where"]=={2})) {5} [5,6],4]::ah (bJ ⟨#[0,{4}]⟩+eU (eT G.K) {4} gy (ew {-1}))
def RS:=qS 183 7 3 VH
abbrev VG:=(aq fG {1} #[0,{0}["slots"]]&&ah (bJ ⟨iU jc {-4}⟩))::ah (bJ ⟨#[RX,{0},{1}]⟩)
def RR:=qS 184 2 2 VG
abbrev VC:=#[#[nV,{0}],2]::(aq fG {1} #[0,{2}]&&ah (bJ ⟨iU jc {-4}⟩))::#[#[BD,{2}[{1}],{1}=={-0}],3]::(aq fG {3} {-4611686018427387904}&&ah (bJ ⟨iU jc {-6}⟩))::ah (bJ ⟨{3}⟩)
def RN:=qS 185 4 2 VC
abbrev VF:=ah (bJ ⟨{-0}⟩+#[RU,{0}])
def RQ:=qS 186 1 1 VF
abbrev VA:=ah (bJ ⟨{-0}⟩+#[Qt,{0}])
def RJ:=qS 187 1 1 VA
abbrev SX:=({1}=={-3}&&ah #[RK,{0}])::({1}=={-4}&&ah #[RP,{0},{2}[{-0}]])::({1}=={-5}&&ah #[RO,{0},{2}[{-0}]])::({1}=={-6}&&ah #[RI,{0},{2}[{-0}],{2}[{-1}]])::({1}=={-7}&&ah #[RS,{0},{2}[{-0}],{2}[{-1}]])::({1}=={-8}&&ah #[RR,{0},{2}[{-0}]])::({1}=={-9}&&ah #[RN,{0},{2}[{-0}]])::({1}=={-10}&&ah #[RQ,{0}])::ah #[RJ,{0}]
def Qo:=qS 188 3 3 SX
abbrev SW:=({1}=={-1}&&ah (bC [(G.ad "Holder",Qi G)] "load" E {0} ⟨{3}⟩))::({1}=={-2}&&ah (bC [(G.ad "Holder",Qj G)] "read" E {0} ⟨{3}⟩))::(aq nO {0}["code"] (tC .aC)&&ah (bJ ⟨iU jc {-8}⟩))::({1}=={-12}&&ah (bC [(G.ad "Holder",Qk G)] "same" E {0} ⟨{3}⟩))::ah #[Qo,{0}["code"],{1},{2}]
def Qn:=qS 189 4 4 SW
abbrev Ik:=#[dN (G.ad "Holder") (Qh G) [] E aX,1]::#[bJ aX,2]::#[{-0},3]::mG (tB (aq fS {3} #[0,{0}])) (#[{0}[{3}],4]::#[{3}+{-1},3]::#[eU (eT G.K) {0} (ew {3}) (ew ({3}+{-"NUMBERS_OF_CALL"}[{4}])),5]::#[{3}+{-"NUMBERS_OF_CALL"}[{4}],3]::#[bJ aX,6]::(aq ek {-"ROWS_OF_CALL"}[{4}] {-0}&&#[eU (eT G.K) {0} (ew ({3}+{-1})) (ew ({3}+{-1}+{0}[{3}])),6]::#[{3}+{-1}+#[0,{6}],3])::#[#[Qn,{1},{4},{5},{6}],7]::({2}++#[0,{7}])::cG (gi G.K "list" jb {2} ⟨{7}⟩))::ah {2}
def Bz:=qS 190 8 1 Ik
end
end L2
section
local macro_rules|`([$x,*])=>if x.getElems.isEmpty then Lean.Macro.throwUnsupported else`(⟨$x,*⟩)
local macro_rules|`(#[$x,*])=>do
  if x.getElems.isEmpty then Lean.Macro.throwUnsupported
  let mut r<-`(List.nil)
  for a in x.getElems.reverse do r<-`(List.cons $a $r)
  return r
local macro_rules|`(())=>`(rfl)
local macro_rules|`(tactic|let $d:letDecl)=>`(tactic|refine_lift have $d:letDecl;?_)
local macro_rules|`(tactic|let[$x,*]:=$e)=>do
  let rec c(n:Nat)(t:Lean.Syntax):Lean.MacroM (Lean.TSyntax `rcasesPat):=match n with
   |0=>Lean.Macro.throwUnsupported
   |n+1=>match t with
    |`([$x,*])=>do
     let y<-x.getElems.mapM fun z=>do
      let q<-c n z
      `(Lean.Parser.Tactic.rcasesPatLo|$q:rcasesPat)
     `(rcasesPat|⟨$y,*⟩)
    |`($i:ident)=>`(rcasesPat|$i:ident)
    |_=>`(rcasesPat|_)
  let q<-c 9 (<-`([$x,*]))
  `(tactic|rcases $e:term with $q:rcasesPat)
local macro_rules|`(tactic|show $e:term)=>`(tactic|refine $e)
local macro_rules|`(($e :))=>`(by simpa using $e)
local macro_rules|`(~~~$e)=>`(decide $e)
local macro_rules|`(↑$e)=>`($e|>.heap.objs.size)
local macro_rules|`($f $ $a)=>match f with|`($g $x*)=>if g.raw.getId==`SD then`($g $x* (.rt $a $(x.back!)))else`($g $x* (.vl $a $(x.back!)))|_=>Lean.Macro.throwUnsupported
namespace L2
open PySem PySem.Spec PyProof.Rows
def top(i:Nat):Stmt:=(XO.main.body[i]?).getD<|.Pass [0,0,0,0]
structure Df where
 nm:Str
 key:Str
 st:Stmt
 ex:List Str
 k:Nat
 n:Nat
 lv:Nat
 t:aH->XK->TS
def aG(k:Str)(i:Nat)(x:List Str)(l n a:Nat)(t:aH->XK->TS):Df:=[k,k,top i,x,l,n,a,t]
def gq(k:Str)(i j:Nat)(x:List Str)(l n a:Nat)(t:aH->XK->TS):Df:=["",k,inClass (top i) j,x,l,n,a,t]
def Df.N(d:Df):List Str:=((eZ d.st).names.filter λq=>match q.2 with|.local=>Y|.cell=>Y|_=>ag).map (λq=>q.1)++d.ex
def rJ:List Df:=#[aG "op_word" 25 [] 1 1 1 Us,aG "is_op_word" 26 [] 1 1 1 TR,aG "op_number" 27 [] 1 1 1 Ur,aG "eleven_numbers" 39 [] 1 1 1 Tj,aG "bodies_of" 40 #["piece"] 2 1 1 S3,aG "take_shape" 44 [] 3 1 3 Vy,aG "take_name" 45 [] 2 1 3 Vs,aG "take_result" 46 [] 3 1 4 Vx,aG "take_piece_head" 47 #["step"] 11 1 5 Vu,aG "take_instruction" 53 #["width"] 2 1 3 Vp,["take_instructions_bytes_in","take_instructions_0",top 51,#["step"],3,2,4,Vq],aG "take_piece_of" 48 [] 3 2 5 Vv,aG "take_hold" 49 [] 3 1 3 Vo,aG "take_call" 50 #["step"] 11 1 4 Vn,aG "take_beginning" 54 [] 2 1 2 Vm,aG "code_of_bytes" 55 #["step","head"] 16 1 6 Tf,aG "is_kind" 60 [] 1 1 1 TQ,aG "is_whole" 61 [] 1 1 1 TZ,aG "is_floating" 62 [] 1 1 1 TJ,aG "has_operation_of_two" 63 [] 2 2 2 Tw,aG "has_operation_of_one" 64 [] 2 2 2 Tv,aG "cells_of" 68 [] 3 1 1 Te,aG "shape_may_be" 69 [] 2 1 2 Va,aG "same_shape" 70 [] 2 2 1 U_,aG "slot_bytes" 71 [] 2 1 2 Vf,aG "bytes_of_slots" 72 #["shape"] 2 1 3 S8,aG "name_is_good" 77 [] 1 1 1 Ui,aG "axes_are_good" 78 [] 1 1 3 S1,aG "result_is_good" 79 [] 1 1 3 U1,aG "piece_is_good" 80 #["shape","result"] 3 1 4 UB,aG "slots_are_within" 81 [] 1 1 4 Vi,aG "wrong_bound" 82 [] 5 1 5 VR,aG "hold_is_there" 84 [] 2 2 1 Tx,aG "slot_shape" 85 [] 2 2 1 Vh,aG "fits" 86 [] 2 2 2 Tr,aG "same_hold" 87 [] 2 2 1 U9,aG "is_among" 88 #["other"] 3 2 2 TH,aG "slot_is_among" 89 [] 2 2 3 Vg,aG "is_slot" 97 [] 3 3 1 TX,aG "is_slot_with_lengths" 98 [] 2 2 1 TY,aG "is_just" 99 [] 3 3 2 TN,aG "without" 100 [] 2 2 1 VP,aG "fold_is_good" 101 [] 4 3 3 Ts,aG "product_is_good" 102 [] 5 3 3 UN,aG "turn_is_good" 103 [] 4 3 3 VM,aG "sorted_is_good" 104 [] 4 3 3 Vk,aG "order_is_good" 105 [] 4 3 3 Uu,aG "pick_is_good" 106 [] 5 3 3 Uz,aG "part_is_good" 107 [] 4 3 2 Uy,aG "join_is_good" 108 [] 6 3 3 T1,aG "as_is_good" 109 [] 4 3 2 S0,aG "fill_is_good" 110 [] 3 3 2 Tp,aG "places_is_good" 111 [] 3 3 2 UD,aG "unnamed_are_zero" 113 [] 1 1 1 VN,aG "operands_are_good" 114 #["shape"] 3 2 1 Ut,aG "function_call_is_good" 115 #["hold"] 5 2 4 Tt,aG "all_fit" 117 #["hold","shape"] 5 3 3 SV,aG "results_are_apart" 118 [] 3 1 4 U4,aG "piece_call_is_good" 119 #["result"] 4 2 5 UA,aG "call_is_good" 120 #["hold"] 3 2 6 S_,aG "wrong_call" 121 [] 3 1 7 VS,aG "is_shared" 126 [] 1 1 1 TV,aG "is_in_main" 127 [] 1 1 1 TM,aG "is_in_bodies" 128 [] 1 1 1 TK,aG "named_in_main" 129 [] 1 1 2 Um,aG "named_in_bodies" 130 [] 1 1 2 Ul,aG "fields_of" 131 [] 1 1 1 To,aG "others_are_zero" 132 [] 4 2 2 Uv,aG "places_are_there" 142 [] 2 2 1 UC,aG "draw_is_good" 143 [] 2 2 2 Ti,aG "kind_is_good" 144 [] 1 1 2 T2,aG "shared_op_is_good" 145 [] 2 2 3 Vc,aG "row_is_there" 151 [] 2 2 1 U8,aG "is_own_mask" 152 [] 1 1 1 TU,aG "masks_is_good" 153 [] 1 1 2 Ug,["cell_is_good_body_ops","cell_is_good_0",top 154,[],2,2,2,Tc],aG "store_is_good" 156 [] 3 2 2 Vl,aG "hand_is_good" 157 [] 2 2 1 Tu,["own_op_is_good_body_ops","own_op_is_good_0",top 158,[],3,2,3,Uw],aG "body_instruction_is_good" 160 [] 2 2 4 S4,["cell_is_good_main_ops","cell_is_good_1",top 164,[],2,2,1,Td],aG "skip_is_good" 166 [] 1 1 1 Vd,aG "told_is_good" 167 [] 3 3 2 VL,aG "copy_is_good" 168 [] 2 2 2 Th,["own_op_is_good_main_ops","own_op_is_good_1",top 169,[],3,2,3,Ux],aG "main_instruction_is_good" 171 [] 2 2 4 Uc,aG "wrong_instruction" 173 [] 6 1 5 VT,aG "loops_of" 176 [] 6 1 2 Ua,aG "holders_of" 177 [] 4 2 1 TB,aG "end_is_kept" 182 [] 2 2 1 Tn,aG "skip_is_kept" 183 [] 4 3 1 Ve,aG "no_round_is_skipped" 184 #["spot"] 6 3 1 Uo,aG "loop_is_kept" 185 [] 2 2 1 T_,aG "main_loop_is_kept" 186 [] 4 3 2 Ud,aG "back_is_kept" 187 [] 3 3 1 S2,aG "main_back_is_kept" 188 [] 5 3 2 Ub,aG "round_is_kept" 189 [] 4 3 1 U5,aG "puts_of" 190 #["hold"] 3 2 3 U0,aG "puts_are_kept" 191 #["loop","put"] 6 3 4 UZ,aG "main_place_is_kept" 192 [] 4 3 5 Ue,aG "body_place_is_kept" 193 [] 4 3 2 S5,aG "wrong_place" 194 [] 5 3 6 VU,aG "wrong_way" 195 [] 5 1 7 VV,aG "first_fault" 197 [] 2 1 8 Tq,aG "plain_shape" 201 [] 1 1 1 UM,aG "plain_result" 202 [] 1 1 2 UL,aG "plain_holds" 203 #["hold"] 2 1 1 UH,aG "plain_call" 204 [] 2 1 2 UE,aG "plain_instruction" 205 [] 2 1 2 UI,aG "plain_main_instruction" 206 [] 3 2 3 UJ,aG "plain_piece" 207 #["shape","result","instruction"] 4 1 3 UK,aG "plain_code" 208 #["shape","piece","call","instruction"] 5 1 4 UG,aG "are_same" 209 [] 2 2 5 SY,aG "text_of" 216 #["sign"] 4 1 1 VI,aG "lines_of" 217 #["line"] 2 1 1 T6,aG "number_of" 218 [] 3 2 1 Up,aG "numbers_of" 219 #["word","most"] 4 2 2 Uq,aG "lengths_of" 220 #["word"] 3 2 2 T3,aG "shape_of" 221 [] 1 1 3 Vb,aG "result_of" 222 [] 2 1 4 U3,aG "name_of" 223 #["sign","spot"] 4 1 1 Uk,aG "hold_of" 224 [] 3 2 2 Tz,aG "holds_of" 225 #["spot"] 3 2 3 TC,aG "call_of" 226 [] 5 1 4 Tb,["take_instructions_text_in","take_instructions_1",top 227,[],4,1,4,Vr],aG "take_piece" 229 #["words"] 6 1 5 Vt,aG "take_pieces" 230 [] 2 1 6 Vw,aG "code_of_text" 231 #["words","piece"] 10 1 7 Tg,aG "refusal_of" 234 [] 1 1 1 BV,aG "put_number" 237 [] 5 3 1 UU,aG "put_each" 238 [] 4 3 2 UQ,aG "put_shape" 239 [] 2 2 3 UY,aG "put_name" 240 [] 2 2 1 UT,aG "put_result" 241 [] 2 2 4 UX,aG "put_piece_head" 242 [] 4 2 5 UW,aG "put_hold" 243 [] 2 2 2 UR,aG "put_call" 244 [] 3 2 3 UO,aG "put_instruction" 245 [] 4 2 2 US,aG "put_counts" 246 [] 3 2 3 UP,aG "bytes_of_code" 247 [] 8 1 6 S7,aG "rounds_in_main" 249 [] 2 2 1 U7,aG "rounds_in_body" 250 [] 5 4 1 U6,aG "times_of" 251 [] 6 4 2 Il,aG "most_of" 252 #["place"] 4 2 3 Uh,aG "line_of_words" 254 [] 1 1 1 T5,aG "line_of" 255 #["number"] 3 2 2 T4,aG "name_line" 256 #["byte"] 3 1 2 Uj,aG "words_of_holds" 257 [] 3 1 1 VQ,aG "call_line" 258 #["number"] 3 1 2 Ta,aG "instruction_line" 259 [] 1 1 3 TF,aG "result_line" 260 [] 1 1 3 U2,aG "lines_of_piece" 261 #["shape","result","instruction"] 5 1 4 T8,aG "lines_of_code" 262 #["shape","name","call","instruction"] 7 1 5 T7,aG "text_of_code" 263 #["sign"] 2 1 6 VJ,aG "slots_named_by" 265 [] 1 1 1 Vj,aG "uses_of_slot" 266 #["call","instruction"] 7 2 3 VO,aG "tell_counts" 269 #["body"] 3 1 4 VB,aG "tell_slot" 270 [] 3 2 1 VE,aG "tell_name" 271 [] 2 2 1 VD,aG "tell_at" 272 [] 4 3 2 Vz,aG "tell_where" 273 #["place","instruction"] 7 3 2 VH,aG "tell_uses" 274 [] 2 2 4 VG,aG "tell_most" 275 [] 4 2 4 VC,aG "tell_text" 276 [] 1 1 7 VF,aG "tell_bytes" 277 [] 1 1 7 VA,aG "answer_of_code" 292 [] 3 3 8 SX,aG "answer_of_call" 293 [] 4 4 11 SW,aG "answers" 294 [] 8 1 12 Ik]
def wJ:List Df:=#[gq "Shape_init" 32 0 [] 3 3 1 SU,gq "Result_init" 33 0 [] 3 3 1 SS,gq "Hold_init" 34 0 [] 3 3 1 Sz,gq "Call_init" 35 0 [] 4 4 1 Sx,gq "Instruction_init" 36 0 [] 2 2 2 SI,gq "Piece_init" 37 0 [] 7 7 1 SR,gq "Code_init" 38 0 [] 7 7 1 Sy,gq "ByteReader_init" 43 0 [] 2 2 1 Sr,gq "ByteReader_take" 43 1 [] 4 2 1 Su,gq "ByteReader_take_up_to" 43 2 [] 4 3 2 Sw,gq "ByteReader_take_list" 43 3 #["step"] 4 3 2 Sv,gq "ByteReader_is_at_end" 43 4 [] 1 1 1 Ss,gq "LineReader_is_at_end" 215 1 [] 1 1 1 SM,gq "Loops_init" 175 0 [] 1 1 1 SQ,gq "LineReader_init" 215 0 [] 2 2 1 SK,gq "LineReader_first_word" 215 2 [] 1 1 2 SJ,gq "LineReader_take_line" 215 3 [] 2 2 3 SN,gq "LineReader_take_lines" 215 4 [] 4 3 4 SO,gq "Holder_init" 235 0 [] 1 1 1 SE,gq "Holder_hold_if_good" 235 3 [] 3 2 9 SA]
def Lv:List Df:=#[gq "Holder_load" 235 1 [] 3 2 10 SF,gq "Holder_read" 235 2 [] 3 2 10 SG,gq "Holder_same" 235 4 [] 4 2 9 SH]
def dl:List Df:=rJ++wJ++Lv
def gI(i:Nat):Df:=(dl[i]?).getD ["","",top 0,[],0,0,0,λ_ _=>bw]
def cl:List<|Str×Nat:=#[("Shape",168),("Result",169),("Instruction",172),("Piece",173),("Hold",170),("Call",171),("ByteReader",175),("Code",174),("Loops",181),("LineReader",182),("Holder",186)]
def ml:List<|Str×List (Str×Nat):=#[("take",#[("ByteReader",176)]),("take_up_to",#[("ByteReader",177)]),("take_list",#[("ByteReader",178)]),("is_at_end",#[("ByteReader",179),("LineReader",180)]),("first_word",#[("LineReader",183)]),("take_line",#[("LineReader",184)]),("take_lines",#[("LineReader",185)]),("hold_if_good",#[("Holder",187)]),("load",#[("Holder",188)]),("read",#[("Holder",189)]),("same",#[("Holder",190)])]
def vl:List Nat:=#[42,43,44,45,46,47,48,49,50,51,52]
def cS(a:Str)(b:Str):Str×V:=(a,.str b)
def cI(a:Str)(b:Int):Str×V:=(a,.int b)
def ql(G:aH):List<|Str×V:=#[cS "__name__" "lanecode.judge",cS "HEX_DIGITS" "0123456789abcdef",cS "SLOT_WORD" "s",cS "NUMBER_WORD" "n",cS "SIGNS" "\n 0123456789>abcdefghijklmnopqrstuvwxyz",cI "ONE_BYTE" 255,cI "TWO_BYTES" 65535,cI "FOUR_BYTES" 4294967295,cI "MOST_SLOTS" 256,cI "MOST_NAMES" 256,cI "MOST_PIECES" 256,cI "MOST_CALLS" 4096,cI "MOST_INSTRUCTIONS" 65536,cI "MOST_LENGTHS" 4,cI "MOST_AXES" 4,cI "MOST_INPUTS" 8,cI "MOST_RESULTS" 8,cI "MOST_OPERANDS" 8,cI "MAIN_PLACES" 1024,cI "BODY_PLACES" 256,cI "OF_PIECE" 0,cI "SLOT_parts" 0,cI "NUMBER" 1,cI "BODY_LENGTH" 5,cI "TRUTH" 0,cI "PLACES_KIND" 3,cI "MOST_CELLS" 1048576,cI "SLOT_STEP" 64,cI "MOST_NAME_BYTES" 32,cI "MOST_JOIN" 2,cI "MOST_SLOT_BYTES" 50331648,cI "FILL" 9,cI "FOLD_OF_ALL" 255,cI "MOST_ONE_IMM" 3,cI "WHOLE_DRAW_KIND" 8,cI "MOST_DRAW_AUX" 3,cI "DRAW_WITH_B" 1,cI "DRAW_BEHIND" 3,cI "MOST_MASK" 63,cI "MOST_MASKS_AUX" 15,cI "MOST_STORE_C" 3,cI "OF_SLOT" 1,cI "WITHOUT_PLACE" 1,cI "MOST_LOOPS_AROUND" 15,cI "MOST_ROUNDS" 1048576,cI "WHERE_sameness" 8,cI "IMM" 9,cI "MOST_DIGITS" 20,cI "TOO_OFTEN" 4611686018427387904,cI "LOAD" 1,cI "READ" 2,cI "COUNTS" 3,cI "SLOT_judge" 4,cI "NAME" 5,cI "AT" 6,cI "WHERE_judge" 7,cI "USES" 8,cI "MOST" 9,cI "TEXT" 10,cI "SAME" 12]++(#["BEGINNING","INSTRUCTION_WIDTHS","OP_WORDS","CELL_BYTES","OPERANDS_OF","U_NAMED_BY","V_NAMED_BY","FOLDS","RULES","SHARED_FIELDS","BODY_FIELDS","MAIN_FIELDS","KINDLESS","OF_ANY_KIND","MOST_AUX","ASKING_NO_MORE","PUTTING_NO_DST","CALL_HEAD_MOST","INSTRUCTION_MOST","NO_CODE","NUMBERS_OF_CALL","ROWS_OF_CALL"]:List Str).map λq=>(q,.ref<|G.ad q)
def rE(G:aH):List<|Str×aa:=rJ.map (λd=>(d.nm,G.ad d.key))++cl.map λc=>(c.1,G.ad c.1)
def oJ(G:aH):List<|Str×aa:=#[("NoBytes",G.ad "NoBytes"),("NoText",G.ad "NoText")]
def j_(G:aH):List<|aa×Stmt×List Str×List Str:=dl.map λd=>(G.ad d.key,d.st,d.N,d.N.take d.n)
def Dt(G:aH):List<|aa×aa:=cl.map λc=>(G.ad c.1,G.ad (gI c.2).key)
def Du(G:aH):List<|aa×Str×aa:=ml.flatMap λm=>m.2.map λp=>(G.ad p.1,m.1,G.ad (gI p.2).key)
structure rB (K:aR) (G:aH):Prop where
 fn:∀q∈j_ G,tQ K q.1 q.2.1 q.2.2.1 q.2.2.2
 Fq:∀q∈Dt G,iK K q.1 q.2
 mt:∀q∈Du G,jG K q.1/\zv K q.1 q.2.1 q.2.2
def Me(N:List Str):Bool:=N.all λx=>!(x==("__debug__":Str))&&!(x==("__classdict__":Str))
def abF(h:Me N=Y):∀x∈N,(x==("__debug__":Str))=ag/\(x==("__classdict__":Str))=ag:=λx hx=>by let:=cq.mp h x hx;rw[a6,iX,iX]at this;show this
theorem Az{α:Type}{l:List α}(i:Nat){x:α}(h:l[i]?=B x):x∈l:=bY h
theorem all_cons{α:Type}{P:α->Prop}{a:α}{l:List α}(h:P a)(t:∀q∈l,P q):∀q∈a::l,P q:=λq b=>(bh.mp b).elim (λe=>e▸h)<|t q
theorem xr{α b:Type}{f g:α->b}:∀{l:List α},l.map f=l.map g->∀q∈l,f q=g q|[],_,q,h=>by cases h|a::l,e,q,h=>by{
rw[cC,cC]at e;injection e with c d
rcases bh.mp h with rfl|h
.show c
show xr d q h}
def pM(G:aH)(d:Df):Sp:=mK d.k d.n<|d.t G
def t5(G:aH)(n:Nat)(d:Df)(E:XK):Gm:=[G,E,d.N,eZ d.st,Y,ql G,(rJ.filter λe=>mU e.lv n).map λe=>(e.nm,G.ad e.key,pM G e),(cl.filter λc=>mU (gI c.2).lv n).map λc=>(c.1,G.ad c.1,G.ad (gI c.2).key,pM G<|gI c.2),(ml.filter λm=>m.2.all λp=>mU (gI p.2).lv n).map λm=>(m.1,m.2.map λp=>(G.ad p.1,pM G<|gI p.2)),(vl.filter λi=>mU (gI i).lv n).map λi=>(G.ad (gI i).key,pM G<|gI i),oJ G]
def rd1(G:aH)(E:XK):(rJ++wJ).map (λd=>(nR (pD 12) 12).b (t5 G (d.lv-1) d E)<|gY d.st)=(rJ++wJ).map λd=>B<|d.t G E:=by kernel_rfl
def Lw:dl.all (λd=>mU 1 d.lv&&~~~d.N.Nodup&&Me d.N)=Y:=by kernel_rfl
def d7:dl.all (λd=>Nat.beq d.N.length d.k&&Nat.beq (d.N.take d.n).length d.n)=Y:=by kernel_rfl
def Hg(hd:d∈dl)(G:aH):mS d.N (d.N.take d.n).length (d.t G)=pM G d:=by let h:=cq.mp d7 d hd;rw[a6]at h;let a:=Xu h.1;let b:=Xu h.2;change mK _ _ _=mK _ _ _;rw[a,b]
def akM:((cl.all λc=>mU (c.2+1) dl.length)&&(ml.all λm=>m.2.all λp=>mU (p.2+1) dl.length)&&vl.all λi=>mU (i+1) dl.length)=Y:=by kernel_rfl
def D9(h:mU (i+1) dl.length=Y):gI i∈dl:=by let h:=cX h;unfold gI;rw[bF h];show lN h
section
variable{P:bU}{w:bj}{K:aR}{mg:Str->Option ae}{base:a8}{G:aH}
def iR(l a b:Nat):Pos:=[l,a,l,b]
def ag9(W:Wd P w K mg base G (ql G) (rE G)<|oJ G)(T:rB K G):rq P w K mg base 2 (G.ad "refusal_of")<|qK G:=by{
let r:gY (top 234)=#[.Return (B (.List #[.UnaryOp .USub (.Constant (.int 2) 0<|iR 882 13 14)<|iR 882 12 14,.Subscript (.Name "fault"<|iR 882 16 21) (.Constant (.int 0) 0<|iR 882 22 23)<|iR 882 16 24,.Subscript (.Name "fault"<|iR 882 26 31) (.Constant (.int 1) 0<|iR 882 32 33) (iR 882 26 34)]<|iR 882 11 35))<|iR 882 4 35]:=by kernel_rfl
let l:(eZ<|top 234).names.lookup ("fault":Str)=B NameKind.local:=by kernel_rfl
let m:((G.ad "refusal_of",top 234,#["fault"],#["fault"]):aa×Stmt×List Str×List Str)∈j_ G:=Az 128 @y_;rw[show qK G=mK 1 1 (BV G)from sy ..];show aba (k:=0) (t:=BV G) (T.fn _ m) λX a b c d e f g h=>by subst a b c d e;change gF X (gY<|top 234) _;rw[r];show ajX (i:=0) (by rw[f];rfl) (by rw[g];show l) () rfl W.dk W.K (by let:=h.un;lia)}
def D8(W:Wd P w K mg base G (ql G) (rE G)<|oJ G)(T:rB K G)(o:∀d∈dl,d.lv<=n->j8 P w K mg base (2*n) (G.ad d.key) (pM G d))(hd:d∈dl)(f:Body P w K mg base d.N (eZ d.st) (2*n) E X):Ctx X (t5 G n d E)<|2*n:=by let h:=cq.mp Lw d hd;rw[a6,a6]at h;let s:=akM;rw[a6,a6]at s;let y:=cq.mp s.1.1;let z:=cq.mp s.1.2;let A:=cq.mp s.2;show ZX f W () rfl rfl rfl (aaL h.1.2) (abF h.2) (λq h=>h) (λq g=>?_) (λq g=>?_) (λq g p C=>?_) (λq g=>?_) λq h=>h;{let[e,t,rfl]:=c4.mp g;let[t,j]:=qX.mp t;show [iZ.mpr<|.inl<|c4.mpr [e,t,()],o e (iZ.mpr<|.inl<|iZ.mpr<|.inl t)<|cX j]};{let[c,l,rfl]:=c4.mp g;let[l,j]:=qX.mp l;show [iZ.mpr<|.inr<|c4.mpr [c,l,()],T.Fq _<|c4.mpr [c,l,()],o _ (D9<|y c l)<|cX j]};{let[m,u,rfl]:=c4.mp g;let[u,j]:=qX.mp u;let[r,v,rfl]:=c4.mp C;let[a,b]:=T.mt _<|Xb.mpr [m,u,c4.mpr [r,v,()]];show [a,_,b,o _ (D9<|cq.mp (z m u) r v)<|cX<|cq.mp j r v]};let[i,x,rfl]:=c4.mp g;let[x,j]:=qX.mp x;show o _ (D9<|A i x)<|cX j
def Eu(T:rB K G)(hd:d∈dl):tQ K (G.ad d.key) d.st d.N<|d.N.take d.n:=T.fn _<|c4.mpr [d,hd,()]
theorem PD{d:Df}(h:d∈rJ++wJ)(E:XK){n:Nat}(hl:d.lv=n+1):(nR (pD 12) 12).b (t5 G n d E) (gY d.st)=B (d.t G E):=by let:=xr (rd1 G E) d h;rwa[hl]at this
def mJ(d:Df):wj:=ak2<|gY d.st
def Bl(G:aH)(n:Nat)(d:Df)(E:XK)(b:List Stmt):Option TS:=(nR (pD 12) 12).b (t5 G n d E) b
theorem Qe{α:Type}{o:Option α}(a:α)(h:o.isSome=Y):o=B (o.getD a):=by cases o with|none=>cases h|some b=>rfl
def tryD(W:Wd P w K mg base G (ql G) (rE G)<|oJ G)(T:rB K G)(f:∀d∈dl,d.lv<=n->j8 P w K mg base (2*n) (G.ad d.key) (pM G d))(hd:d∈dl)(x:Str)(g:∀X E e,Ctx X (t5 G n d E) (2*n)->rq X.prog X.w X.K X.mg X.base (2*n) (G.ad "refusal_of") (qK G)->X.mg "refusal_of"=B (.ref<|G.ad "refusal_of")->gF (X.mark e) #[(mJ d).b0] b)(h:∀E,gY d.st=(mJ d).whole/\mf (t5 G n d E) (mJ d).x=Y/\look (oJ G) (mJ d).x=B (G.ad x)/\(Bl G n d E (mJ d).body).isSome=Y/\(Bl G n d E (mJ d).rest).isSome=Y
  /\bQ (sR (G.ad x) (λE=>(Bl G n d E (mJ d).body).getD bw) b) ((Bl G n d E (mJ d).rest).getD bw)=d.t G E)(y:0<n):j8 P w K mg base (2*n+2) (G.ad d.key)<|pM G d:=by
 rw[<-Hg hd];show abr (k:=2*n) (t:=d.t G) (Eu T hd) λX E a=>?_;let c:=D8 W T f hd a;let[i,j,l,z,o,p]:=h E;rw[i,<-p];let[q,r,s,u,v,_]:=a;subst q r s u v;show ak3 (n:=12) (m:=12) (C:=G.ad x) c j l (λE=>Qe _ (h E).2.2.2.1) (λe=>g X E e c ((ag9 W T).mono @o_) (W.names _<|iZ.mpr<|.inl<|c4.mpr [gI 128,Az 128 @y_,()]).1)<|Qe _ o
def Sk(l:Nat):Stmt:=.Return (B<|.Call (.Name "refusal_of"<|iR l 19 29) #[.Name "NO_CODE"<|iR l 30 37] []<|iR l 19 38)<|iR l 12 38
def Oh(W:Wd P w K mg base G (ql G) (rE G)<|oJ G)(T:rB K G):∀(n:Nat)(d:Df),d∈dl->d.lv<=n->j8 P w K mg base (2*n) (G.ad d.key) (pM G d)|0,d,f,i=>by let h:=cq.mp Lw d f;rw[a6,a6]at h;let:=cX h.1.1;lia|n+1,d,f,i=>by{
let g:=Oh W T n;by_cases h:d.lv<=n;{show(g d f h).mono @o_};let i:d.lv=n+1:=by lia
rcases iZ.mp f with h|h
.rw[<-Hg f];show abq (k:=2*n) (t:=d.t G) (Eu T f) (λE=>PD h E i) λX E b=>D8 W T g f b
let j:Lv=#[gI 188,gI 189,gI 190]:=by kernel_rfl
rw[j]at h;let l1:(gI 188).lv=10:=by kernel_rfl
let l2:(gI 189).lv=10:=by kernel_rfl
let l3:(gI 190).lv=9:=by kernel_rfl
rcases bh.mp h with rfl|h
.obtain rfl:n=9:=by lia
 let e:(mJ<|gI 188).b0=Sk 892:=by kernel_rfl
 show tryD W T g f "NoBytes" (λX E a c F m=>by rw[e];show Sl c F [m,()] @y_ @y_ (v:=.ref<|G.ad "NO_CODE") @y_ a) @x_ @o_
rcases bh.mp h with rfl|h
.obtain rfl:n=9:=by lia
 let e:(mJ<|gI 189).b0=.Return (B<|.List #[.UnaryOp .USub (.Constant (.int 5) 0<|iR 899 21 22)<|iR 899 20 22]<|iR 899 19 23) (iR 899 12 23):=by kernel_rfl
 show tryD W T g f "NoText" (λX E a c F m=>e▸akE a) @x_ @o_
obtain rfl:=yJ.mp h;obtain rfl:n=8:=by lia
let e:(mJ<|gI 190).b0=Sk 913:=by kernel_rfl
show tryD W T g f "NoBytes" (λX E a c F m=>by rw[e];show Sl c F [m,()] @y_ @y_ (v:=.ref<|G.ad "NO_CODE") @y_ a) @x_ @o_}
end
end L2
namespace Mx
open Ln
def gf(o:Nat)(i:Nat)(st:List Nat):List Nat:=if o=19 then i::st else if o=21 then st.drop 1 else st
def AJ(o:Op)(r:List Op)(i:Nat)(st:List Nat):nest (o::r) i st=st::nest r (i+1) (gf o.op i st):=by rw[nest];unfold gf;split;{rfl};split<;>rfl
def NU:∀(l:List Op)(i:Nat)(st:List Nat)(k:Nat),k+1<U l->(nest l i st).getD (k+1) []=gf (l.getD k noOp).op (i+k) ((nest l i st).getD k [])
|[],_,_,_,h=>by simp at h|o::r,i,st,0,h=>by cases r with|nil=>simp at h|cons o2 r2=>rw[AJ,AJ];rfl
|o::r,i,st,k+1,h=>by rw[AJ,IV,IV,IV,NU r (i+1) _ k<|by simp at h;lia];congr 1;lia
def afX(l:List Op):loopsAt l 0=[]:=by unfold loopsAt;cases l with|nil=>rfl|cons o r=>rw[AJ];rfl
def afW(l:List Op)(k:Nat)(h:k+1<U l):loopsAt l (k+1)=gf (l.getD k noOp).op k (loopsAt l k):=by unfold loopsAt;rw[NU l 0 [] k h,vJ]
def a0(l:List Op):Nat->List Nat|0=>[]|k+1=>gf (l.getD k noOp).op k<|a0 l k
def jB(l:List Op):∀k,k<U l->a0 l k=loopsAt l k|0,_=>by rw[afX];rfl|k+1,h=>by rw[afW l k h,<-jB l k @o_];rfl
def Sa(h:x∈gf o i st):x=i\/x∈st:=by unfold gf at h;split at h;{show bh.mp h};split at h;{show .inr<|Cq h};show .inr h
def lK(l:List Op):∀k x,x∈a0 l k->x<k|0,x,h=>by simp[a0]at h|k+1,x,h=>by(rcases Sa h with e|e);{lia};let:=lK l k x e;lia
def sP(l:List Op):∀k x,x∈a0 l k->(l.getD x noOp).op=19|0,x,h=>by simp[a0]at h|k+1,x,h=>by let a:x∈gf (l.getD k noOp).op k (a0 l k):=h;unfold gf at a;split at a;{(rcases bh.mp a with e|e);{subst e;assumption};show sP l k x e};split at a;{show sP l k x<|Cq a};show sP l k x a
def yi(l:List Op):∀(k:Nat)(pre:List Nat)(h:Nat)(t:List Nat),a0 l k=pre++h::t->a0 l h=t|0,pre,h,t,e=>by let:pre++h::t=[]:=e.symm;simp at this|k+1,pre,h,t,e=>by let a:gf (l.getD k noOp).op k (a0 l k)=pre++h::t:=e;unfold gf at a;split at a;{cases pre with|nil=>(rw[Jd]at a;injection a with c b);rw[<-c,<-b]|cons p pre=>(rw[vo]at a;injection a with c b);show yi l k pre h t b};split at a;{cases q:a0 l k with|nil=>rw[q]at a;simp at a|cons x r=>rw[q]at a;let b:r=pre++h::t:=a;show yi l k (x::pre) h t (by rw[q,b];rfl)};show yi l k pre h t a
def Ie(e:a0 l k=h::t):a0 l h=t:=yi l k [] h t e
def kL(l:List Op)(i j:Nat):Bool:= ~~~(i<j)&&((l.getD j noOp).op==21&&(a0 l j).head?==B i)
def mh(l:List Op)(i j:Nat):Bool:=(l.getD j noOp).op==20&&(a0 l j).head?==B i
def eM(l:List Op)(n i:Nat):Option Nat:=(dc n).find?<|kL l i
def dX(l:List Op)(n i:Nat):List Nat:=(dc n).filter<|mh l i
theorem LP{α:Type}{p q:α->Bool}:∀{l:List α},(∀x∈l,p x=q x)->l.find? p=l.find? q|[],_=>rfl|a::l,h=>by rw[jD,jD,h a<|gU .. ,LP λx hx=>h x<|dv _ hx]
theorem DH(l:List Op)(i:Nat):backOf l i=eM l l.length i:=by unfold backOf eM;show LP λj a=>?_;unfold kL;rw[jB l j<|gk.mp a]
def PL(l:List Op)(i:Nat):roundsOf l i=dX l l.length i:=by unfold roundsOf dX;show List.filter_congr λj a=>?_;unfold mh;rw[jB l j<|gk.mp a]
def DG(l:List Op)(n i:Nat):eM l (n+1) i=(eM l n i).or (if kL l i n=Y then B n else Z):=by unfold eM;rw[Je,WU,jD,List.find?_nil];cases kL l i n<;>rfl
def PK(l:List Op)(n i:Nat):dX l (n+1) i=dX l n i++(if mh l i n=Y then#[n]else[]):=by unfold dX;rw[Je,IS,List.filter_cons,List.filter_nil]
def Sh(l:List Op):∀n i,i∈a0 l n->eM l n i=Z|0,i,h=>by simp[a0]at h|n+1,i,h=>by{
rw[DG];let a:i∈gf (l.getD n noOp).op n (a0 l n):=h;let lt:=lK l n;let d:kL l i n=ag:=by cases q:kL l i n with|false=>rfl|true=>exfalso;unfold kL at q;simp only[a6,aaK,aaF]at q;let[q1,q2,q3]:=q;unfold gf at a;rw[aaa @o_,aab q2]at a;cases e:a0 l n with|nil=>rw[e]at q3;simp at q3|cons x t=>rw[e]at q3 a;let f:x=i:=(q3:);subst f;let b:x∈t:=a;let:=Ie e;let g:=lK l x x (by rw[this];show b);lia
rw[d];rcases Sa a with e|e
.subst e;unfold eM;cases q:(dc i).find? (kL l i)with|none=>rfl|some j=>exfalso;let c:=List.find?_some q;let b:=gk.mp<|List.mem_of_find?_eq_some q;unfold kL at c;simp only[a6,aaK]at c;lia
rw[Sh l n i e];rfl}
def isSign(c:UInt8):Bool:=c==10||c==32||(~~~(48<=c)&&~~~(c<=57))||c==62||(~~~(97<=c)&&~~~(c<=122))
def gM(w:Bytes):Prop:=∀c∈w,isSign c=Y
def gl(x:Line):Prop:=gM x.1/\∀w∈x.2,gM w
def Qa(h:(~~~(48<=c)&&~~~(c<=57))=Y):isSign c=Y:=by unfold isSign;rw[h];simp
def mapM_cons{α c:Type}(f:α->Option c)(a:α)(l:List α):(a::l).mapM f=(f a).bind λb=>(l.mapM f).map λbs=>b::bs:=by rw[W9];cases f a with|none=>rfl|some b=>cases l.mapM f<;>rfl
theorem sj{α c:Type}{f:α->Option c}:∀{l:List α}{r:List c},l.mapM f=B r->∀a∈l,∃b,f a=B b|[],_,_,a,h=>by simp at h|x::l,r,e,a,h=>by rw[mapM_cons]at e;cases q:f x with|none=>rw[q]at e;cases e|some b=>rw[q]at e;cases q2:l.mapM f with|none=>rw[q2]at e;cases e|some bs=>(rcases bh.mp h with h|h);{subst h;show [b,q]};show sj q2 a h
def kO(h:numOf most w=B n):gM w:=by unfold numOf at h;split at h;{cases h};rename_i q;intro c a;show Qa ?_;let q3:(w.all λ(c:UInt8)=>~~~(48<=c)&&~~~(c<=57))=Y:=(by cases e:(w.all λ(c:UInt8)=>~~~(48<=c)&&~~~(c<=57))with|true=>rfl|false=>show absurd (.inr<|.inr e) q);show cq.mp q3 c a
theorem xB{most:Nat}{l:List Bytes}{r:List Nat}(h:numsOf most l=B r):∀w∈l,gM w:=λw a=>
 let⟨_,e⟩:=sj h w a
 kO e
def Ha(h:shapeOf l=B s):∀w∈l,gM w:=by unfold shapeOf at h;cases l with|nil=>cases h|cons k r=>dsimp only at h;split at h;{cases h};split at h;{(rename_i x y a b;intro w c;rcases bh.mp c with q|q);{subst q;show kO a};show xB b w q};cases h
def aj2(h:resultOf l=B s):∀w∈l,gM w:=by unfold resultOf at h;split at h;{split at h;{(rename_i k j r x y a b;intro w c;let z:=Ha b;rcases bh.mp c with q|q);{subst q;show z _<|gU ..};(rcases bh.mp q with q|q);{subst q;show kO a};show z _<|dv _ q};cases h};cases h
def ER:∀(n:Nat){l:List Bytes}{s:List c5},U l<=n->holdsOf l=B s->∀w∈l,gM w
|_,[],_,_,_,w,d=>by simp at d|_,#[_],_,_,h,_,_=>by simp[holdsOf]at h
|0,_::_::_,_,e,_,_,_=>by simp at e|n+1,a::b::r,s,e,h,w,d=>by rw[holdsOf]at h;split at h;{rename_i ha;split at h;{(rename_i i l f g;rcases bh.mp d with q|q);{subst q;rcases ha with ha|ha<;>subst ha<;>(intro c j;rw[yJ.mp j];decide)};(rcases bh.mp q with q|q);{subst q;show kO f};show ER n (by simp at e;lia) g w q};cases h};cases h
def Fp{α:Type}[BEq α](p:α->Bool):∀(l:List α)(x:α),x∈l->x∈l.takeWhile p\/x∈l.drop (U (l.takeWhile p))|[],x,h=>by simp at h|a::l,x,h=>by{
rw[yL];split
.rcases bh.mp h with q|q
 {subst q;show .inl<|gU ..};rcases Fp p l x q with z|z
 {show .inl<|dv _ z};show .inr (z:)
show .inr (h:)}
def Ej{α:Type}(p:α->Bool):∀(l:List α),l.drop (U (l.takeWhile p))=l.dropWhile p|[]=>rfl|a::l=>by rw[yL,WR];split;{rw[bR,WS,Ej p l]};rfl
theorem Ly{α:Type}{p:α->Bool}:∀{l:List α}{x:α}{r:List α},l.dropWhile p=x::r->p x=ag|[],_,_,h=>by simp at h|a::l,x,r,h=>by rw[WR]at h;split at h;{show Ly h};(rename_i q;injection h with b c);subst b;simpa using q
theorem takeWhile_all{α:Type}{p:α->Bool}:∀{l:List α}{x:α},x∈l.takeWhile p->p x=Y|[],x,h=>by simp at h|a::l,x,h=>by rw[yL]at h;split at h;{(rcases bh.mp h with q|q);{subst q;assumption};show takeWhile_all q};simp at h
def Zp(h:callOf l=B c):∀w∈l,gM w:=by unfold callOf at h;split at h;{rename_i s w k u v r;split at h;{rename_i C E F G H b d f g i;dsimp only at h;split at h;{cases h};split at h;{(rename_i x y j n;let o:=ER _ (bD _) j;let p:=ER _ (bD _) n;intro t a;simp only[bh]at a;rcases a with q|q|q|q|q|q);{subst q;show kO b};{subst q;show kO d};{subst q;show kO f};{subst q;show kO g};{subst q;show kO i};(rcases Fp (λ(x:Bytes)=>x !=#[62]) r t q with m|m);{show o t m};rw[Ej]at m;cases e:r.dropWhile (λ(x:Bytes)=>x !=#[62])with|nil=>rw[e]at m;simp at m|cons y I=>(rw[e]at m;let z:=Ly e;rcases bh.mp m with q2|q2);{subst q2;let:t=#[62]:=(z:);subst this;intro c A;rw[yJ.mp A];decide};show p t ?_;rw[<-pS,Ej,e];simpa using q2};cases h};cases h};cases h
def ahc:∀w∈opNames.map ascii,gM w:=by let:∀w∈opNames.map ascii,∀c∈w,isSign c=Y:=@k_;show this
theorem Ad{α:Type}{p:α->Bool}:∀{l:List α}{i:Nat},l.findIdx? p=B i->∃x,l[i]?=B x/\p x=Y|[],i,h=>by simp at h|a::l,i,h=>by rw[pU]at h;split at h;{injection h with h;subst h;show [a,(),by assumption]};cases q:l.findIdx? p with|none=>rw[q]at h;cases h|some j=>(rw[q]at h;injection h with h;subst h);let[x,b,c]:=Ad q;show [x,(b:),c]
inductive acq (x:Line) (o:Op):Prop
 |mk (op:Nat) (k m y d a b c w i t:Bytes) (k' m' y' d' a' b' c' w' i' t':Nat) (_:(opNames.map ascii).findIdx? (λ(w:Bytes)=>w==x.1)=B op) (_:x.2=#[k,m,y,d,a,b,c,w,i,t]) (_:numsOf 255 #[k,m,y]=B #[k',m',y']) (_:numsOf 65535 #[d,a,b,c]=B #[d',a',b',c']) (_:numsOf (any 4) #[w,t]=B #[w',t']) (_:numOf (any 8) i=B i') (_:o=[op,k',m',y',d',a',b',c',w',i',t',0]):acq x o
def AZ(h:opOf x=B o):acq x o:=by let[v,l]:=x;unfold opOf at h;dsimp only at h;generalize e:(opNames.map ascii).findIdx? (λ(w:Bytes)=>w==v)=f at h;match f,l,h with|some z,#[k,m,y,d,a,b,c,w,i,t],h=>dsimp only at h;generalize g:numsOf 255 #[k,m,y]=j at h;match j,h with|some #[k,m,y],h=>generalize n:numsOf 65535 #[d,a,b,c]=p at h;match p,h with|some #[d,a,b,c],h=>generalize q:numsOf (any 4) #[w,t]=r at h;match r,h with|some #[w,t],h=>generalize s:numOf (any 8) i=u at h;match u,h with|some i,h=>cases h;show [_,_,_,_,_,_,_,_,_,_,_,_,_,_,_,_,_,_,_,_,_,e,(),g,n,q,s,()]
theorem ahf{x:Line}{o:Op}(h:opOf x=B o):gl x:=by{
let[q,k,m,y,d,a,b,c,w,i,t,_,_,_,_,_,_,_,_,_,_,g,j,q1,q2,q3,q4,_]:=AZ h;let[z,l,n]:=Ad g;let p:z=x.1:=(n:);show [by rw[<-p];show ahc z<|bY l,λv f=>?_];rw[j]at f;let r1:=xB q1;let r2:=xB q2;let r3:=xB q3;let r4:=kO q4;simp only[bh,fZ,aaO]at f;rcases f with e|e|e|e|e|e|e|e|e|e<;>subst e
.show r1 _ @s_
.show r1 _ @s_
.show r1 _ @s_
.show r2 _ @s_
.show r2 _ @s_
.show r2 _ @s_
.show r2 _ @s_
.show r3 _ @s_
.show r4
show r3 _ @s_}
def wW(c:gM<|ascii w)(a:∀r∈(front w l).1,∀v∈r,gM v)(b:∀x∈(front w l).2,gl x):∀x∈l,gl x:=by(intro x hx;unfold front at a b;dsimp only at a b;rcases Fp (λ(x:Line)=>x.1==ascii w) l x hx with m|m);{show [?_,λv d=>a x.2 (c4.mpr [x,m,()]) v d];let e:x.1=ascii w:=(takeWhile_all m:);rw[e];show c};show b x m
def Ez:∀{l:List Line},(∀x∈(frontOps l).2,gl x)->∀x∈l,gl x|[],_,x,hx=>by simp at hx|y::l,h,x,hx=>by rw[frontOps]at h;cases q:opOf y with|none=>rw[q]at h;show h x hx|some o=>(rw[q]at h;rcases bh.mp hx with e|e);{subst e;show ahf q};show Ez h x e
def oV(h:(ascii w).all isSign=Y):gM<|ascii w:=λc a=>cq.mp h c a
theorem OE:∀(n:Nat){l:List Line}{ps:List Piece},piecesOf n l=B ps->∀x∈l,gl x
|_,[],_,_,x,hx=>by simp at hx|0,_::_,_,h,_,_=>by simp[piecesOf]at h
|n+1,y::l,ps,h,x,hx=>by unfold piecesOf at h;split at h;{rename_i p m a r s;split at h;{cases h};rename_i o;split at h;{rename_i J M axes t u w;dsimp only at h;split at h;{cases h};split at h;{rename_i ins outs A C E F;let O:=OE n F;let G:=Ez O;let H:=wW (oV<|by decide+kernel) (λf c v d=>by let[b,g]:=sj E f c;show aj2 g v d) G;let I:=wW (oV<|by decide+kernel) (λf c v d=>by let[b,g]:=sj C f c;show Ha g v d) H;let i:y.1=ascii "piece":=(by by_cases z:y.1=ascii "piece";{show z};show absurd (.inl z) o);let j:a.1=ascii "axes":=(by by_cases z:a.1=ascii "axes";{show z};show absurd (.inr<|.inl z) o);(rcases bh.mp hx with q|q);{(subst q;show [by rw[i];show oV<|by decide+kernel,λv d=>?_];rw[s]at d;simp only[bh,fZ,aaO]at d;rcases d with e|e<;>subst e);{show kO t};show kO u};(rcases bh.mp q with q|q);{subst q;show [by rw[j];show oV<|by decide+kernel,xB w]};show I x q};cases h};cases h};cases h
def Mm(h:hexDigit c=B n):isSign c=Y:=by unfold hexDigit at h;split at h;{rename_i q;show Qa (by simp[q.1,q.2])};split at h;{rename_i q;unfold isSign;let a:c<=122:=UInt8.le_trans q.2 @d_;simp[q.1,a]};cases h
def Wb:∀(n:Nat){w r:Bytes},U w<=n->unhex w=B r->gM w
|_,[],_,_,_,c,d=>by simp at d|_,#[_],_,_,h,_,_=>by simp[unhex]at h
|0,_::_::_,_,e,_,_,_=>by simp at e|n+1,a::b::r,s,e,h,c,d=>by{
rw[unhex]at h;split at h
.rename_i x y l f g i;rcases bh.mp d with q|q
 {subst q;show Mm f};rcases bh.mp q with q|q
 {subst q;show Mm g};show Wb n (by simp at e;lia) i c q
cases h}
theorem agx{l:List<|List Bytes}{r:List Bytes}(h:namesOf l=B r):∀x∈l,∀v∈x,gM v:=by intro x hx v c;let[b,a]:=sj h x hx;split at a;{split at a;{cases a};rw[yJ.mp c];show Wb _ (bD _) a};cases a
def H0(c:UInt8):∀t,splitBy c t≠[]|[]=>by simp[splitBy]|x::r=>by rw[splitBy];split;{simp};split<;>simp
def HZ(c:UInt8):∀(t:Bytes)(b:UInt8),b∈t->b=c\/∃w∈splitBy c t,b∈w|[],b,h=>by simp at h|x::r,b,h=>by{
rw[splitBy];rcases bh.mp h with q|q
.subst q;split;{left;assumption};right;split;{show [_,gU ..,gU ..]};show [_,gU ..,gU ..]
rcases HZ c r b q with z|⟨w,a,O⟩
.show .inl z
right;split;{show [w,dv _ a,O]};split;{rename_i e;show absurd e<|H0 c r};rename_i d l e;rw[e]at a;rcases bh.mp a with q2|q2
.subst q2;show [_,gU ..,dv _ O]
show [w,dv _ q2,O]}
def afs(h:gl<|lineOf b):gM b:=by{
intro c d;rcases HZ 32 b c d with q|⟨w,a,O⟩
.subst q;decide
unfold lineOf at h;split at h;{rename_i e;show absurd e<|H0 32 b};rename_i x l e;rw[e]at a;rcases bh.mp a with q|q
.subst q;show h.1 c O
show h.2 w q c O}
def afu(h:linesOf t=B l)(hl:∀x∈l,gl x):gM t:=by{
unfold linesOf at h;dsimp only at h;split at h
.rename_i e;injection h with h
 subst h;intro c g;rcases HZ 10 t c g with q|⟨w,f,O⟩
 {subst q;decide};let a:=H0 10 t;let b:w∈(splitBy 10 t).dropLast\/w=[]:=by{
let d:=List.dropLast_concat_getLast a;let i:(splitBy 10 t).getLast a=[]:=by rw[List.getLast?_eq_some_getLast a]at e;show eg e
rw[i]at d;rw[<-d]at f;rcases iZ.mp f with z|z
.show .inl z
show .inr (z:)};rcases b with q|q
 {show afs (hl _<|c4.mpr [w,q,()]) c O};subst q;simp at O
cases h}
theorem ag3{t:Bytes}{c:Code}(h:ofText t=B c):gM t:=by unfold ofText at h;split at h;{rename_i x l e;split at h;{cases h};rename_i hx;let g:x.1=ascii "code":=(by by_cases z:x.1=ascii "code";{show z};show absurd z hx);split at h;{rename_i d u;dsimp only at h;split at h;{rename_i m r A;split at h;{cases h};rename_i C;let i:m=(ascii "main",[]):=(by by_cases z:m=(ascii "main",[]);{show z};show absurd z C);split at h;{(rename_i W slots j calls pieces E F G H I;let J:=Ez<|OE _ I;let s:∀x∈m::r,gl x:=λy n=>by(rcases bh.mp n with q|q);{subst q;rw[i];show [oV<|by decide+kernel,λw M=>by simp at M]};show J y q);rw[<-A]at s;let P:=wW (oV<|by decide+kernel) (λo a v f=>by let[b,p]:=sj H o a;show Zp p v f) s;let Q:=wW (oV<|by decide+kernel) (agx G) P;let T:=wW (oV<|by decide+kernel) (λo a v f=>by let[b,p]:=sj F o a;show Ha p v f) Q;(show afu e λy n=>?_;rcases bh.mp n with q|q);{subst q;show [by rw[g];show oV<|by decide+kernel,λv f=>?_];rw[u]at f;rw[yJ.mp f];show kO E};show T y q};cases h};cases h};cases h};cases h
def jM(w:Bytes):Bool:=(opNames.map ascii).contains w
def gL:List Line->Bytes|[]=>[]|x::_=>x.1
def gx:List Line->Option (List Op×List Line)|[]=>B ([],[])|x::l=>if jM x.1=Y then(opOf x).bind λo=>(gx l).map λr=>(o::r.1,r.2)else B ([],x::l)
def eR(w:String)(most:Nat)(l:List Line):Option<|List (List Bytes)×List Line:=if most<(front w l).1.length then Z else B<|front w l
def fF(w:String):List Line->Option (List Bytes×List Line)|[]=>Z|x::l=>if x.1=ascii w then B (x.2,l)else Z
def ko(l:List Line):Option<|Piece×List Line:=(fF "piece" l).bind λh=>(match h.1 with| #[p,m]=>(numOf (any 4) p).bind λp=>(numOf 1 m).map λm=>(p,m)|_=>Z).bind λc=>(fF "axes" h.2).bind λa=>(if kx<U a.1 then Z else numsOf (any 4) a.1).bind λaxes=>(eR "input" 8 a.2).bind λi=>(i.1.mapM shapeOf).bind λins=>(eR "result" 8 i.2).bind λo=>(o.1.mapM resultOf).bind λouts=>(gx o.2).map λ(b:List Op×List Line)=>([axes,ins,outs,c.1,c.2==1,b.1],b.2)
def iz:Nat->List Line->Option (List Piece×List Line)
|0,l=>if gL l=ascii "piece" then Z else B ([],l)
|n+1,l=>if gL l=ascii "piece" then(ko l).bind λx=>(iz n x.2).map λr=>(x.1::r.1,r.2)else B ([],l)
def mv(x:List Bytes):Option Bytes:=match x with
 | #[h]=>if U h=0\/510<U h then Z else unhex h
 |_=>Z
def FX(t:Bytes):Option Code:=
 if t.all isSign=ag then Z else(linesOf t).bind λl=>
 (fF "code" l).bind λh=>(match h.1 with| #[d]=>numOf (any 4) d|_=>Z).bind λd=>
 (eR "slot" 256 h.2).bind λs=>(s.1.mapM shapeOf).bind λslots=>
 (eR "name" 256 s.2).bind λn=>(n.1.mapM mv).bind λa=>
 (eR "call" 4096 n.2).bind λc=>(c.1.mapM callOf).bind λcalls=>
 (fF "main" c.2).bind λm=>if U m.1≠0 then Z else
 (gx m.2).bind λb=>(iz b.2.length b.2).bind λp=>if 256<U p.1 then Z else
 if p.2≠[]then Z else if 65536<U b.1+(p.1.map λ(x:Piece)=>U x.body).sum then Z else
 B [slots,d,a,p.1,calls,b.1]
def ahg(h:opOf x=B o):jM x.1=Y:=by let[e,_,_,_,_,_,_,_,_,_,_,_,_,_,_,_,_,_,_,_,_,a,_]:=AZ h;let[z,b,c]:=Ad a;let d:z=x.1:=(c:);unfold jM;rw[<-d];simpa using bY b
def A5:∀{l:List Line}{r},gx l=B r->frontOps l=r|[],r,h=>by rw[gx]at h;injection h|x::l,r,h=>by rw[gx]at h;split at h;{cases q:opOf x with|none=>rw[q]at h;cases h|some o=>rw[q]at h;cases q2:gx l with|none=>simp[q2]at h|some r2=>simp[q2]at h;rw[frontOps,q,A5 q2,<-h]};(rename_i a;injection h with h);rw[frontOps];cases q:opOf x with|none=>rw[<-h]|some o=>show absurd (ahg q) a
def FW:∀{l:List Line},gx l=Z->∃x r,(frontOps l).2=x::r/\jM x.1=Y|[],h=>by simp[gx]at h|x::l,h=>by rw[gx]at h;split at h;{rename_i a;cases q:opOf x with|none=>show [x,l,by rw[frontOps,q],a]|some o=>rw[q]at h;cases q2:gx l with|none=>let[y,r,b,c]:=FW q2;show [y,r,by rw[frontOps,q];show b,c]|some r2=>simp[q2]at h};cases h
def aiN:jM (ascii "piece")=ag:=by decide+kernel
def OA(h:x.1≠ascii "piece"):piecesOf n (x::r)=Z:=by cases n with|zero=>rfl|succ n=>unfold piecesOf;split;{rw[aab<|.inl h]};rfl
def OC(h:jM x.1=Y):piecesOf n (x::r)=Z:=OA λe=>by rw[e,aiN]at h;cases h
def L6(w:String)(l:List Line):(front w l).2.length<=U l:=by unfold front;simp
def L5:∀(l:List Line),(frontOps l).2.length<=U l|[]=>by simp[frontOps]|x::l=>by rw[frontOps];cases opOf x with|none=>show bD _|some o=>show cu (L5 l) @s_
def ahW{r}(h:gx l=B r):U r.2<=U l:=by rw[<-A5 h];show L5 l
def aiO(n:Nat)(l:List Line):gL l=ascii "piece"->U l<=n->piecesOf n l=(ko l).bind λx=>(piecesOf (n-1) x.2).map λps=>x.1::ps:=by intro i j;cases l with|nil=>show absurd i @k_|cons x l=>let hx:x.1=ascii "piece":=i;cases n with|zero=>simp at j|succ n=>change _=(ko<|x::l).bind λx=>(piecesOf n x.2).map λps=>x.1::ps;unfold ko;rw[show fF "piece" (x::l)=B (x.2,l)from aab hx];simp only[bM];(conv=>lhs;unfold piecesOf);split;{rename_i p m a r o;rw[o];dsimp only;by_cases c:a.1=ascii "axes";{rw[show fF "axes" (a::r)=B (a.2,r)from aab c];by_cases d:kx<U a.2;{rw[aab<|.inr<|.inr d];simp only[bM,aab d,rf];cases numOf (any 4) p<;>cases numOf 1 m<;>rfl};rw[aaa<|by rintro(z|z|z);show z hx;show z c;show d z];simp only[bM,aaa d];cases numOf (any 4) p with|none=>rfl|some v=>cases numOf 1 m with|none=>rfl|some w=>cases numsOf (any 4) a.2 with|none=>rfl|some axes=>simp only[bM,gC];unfold eR;by_cases e:8<(front "input" r).1.length;{rw[aab<|.inl e,aab e];rfl};rw[aaa e];simp only[bM];by_cases f:8<(front "result" (front "input" r).2).1.length;{rw[aab<|.inr f,aab f];cases(front "input" r).1.mapM shapeOf<;>rfl};rw[aaa<|by rintro(z|z);show e z;show f z,aaa f];simp only[bM];cases(front "input" r).1.mapM shapeOf with|none=>rfl|some ins=>simp only[bM];cases(front "result" (front "input" r).2).1.mapM resultOf with|none=>rfl|some outs=>simp only[bM];cases q:gx (front "result" (front "input" r).2).2 with|none=>let[y,A,s,t]:=FW q;rw[s,OC t];rfl|some b=>rw[A5 q];simp only[gC,bM];cases piecesOf n b.2<;>rfl};rw[aab<|.inr<|.inl c,show fF "axes" (a::r)=Z from aaa c];simp only[rf];cases numOf (any 4) p<;>cases numOf 1 m<;>rfl};rename_i u _ _ g;symm;cases h:x.2 with|nil=>rfl|cons p r1=>cases r1 with|nil=>rfl|cons m r2=>cases r2 with|cons _ _=>rfl|nil=>cases u with|nil=>dsimp only;cases numOf (any 4) p<;>cases numOf 1 m<;>rfl|cons a r=>show(g p m a r h ()).elim
def Ou{x}(h:ko l=B x):U x.2+2<=U l:=by unfold ko at h;cases l with|nil=>cases h|cons y l=>by_cases e:y.1=ascii "piece";{rw[show fF "piece" (y::l)=B (y.2,l)from aab e]at h;simp only[bM]at h;rw[jk]at h;let[g,_,h]:=h;cases l with|nil=>cases h|cons a r=>by_cases f:a.1=ascii "axes";{rw[show fF "axes" (a::r)=B (a.2,r)from aab f]at h;simp only[bM]at h;rw[jk]at h;let[axes,_,h]:=h;rw[jk]at h;let[i,c,h]:=h;rw[jk]at h;let[ins,_,h]:=h;rw[jk]at h;let[o,d,h]:=h;rw[jk]at h;let[outs,_,h]:=h;cases q:gx o.2 with|none=>rw[q]at h;cases h|some b=>(rw[q]at h;injection h with h);subst h;let l1:=ahW q;let l2:U o.2<=U i.2:=(by unfold eR at d;split at d;{cases d};injection d with d;rw[<-d];show L6 _ _);let l3:U i.2<=U r:=(by unfold eR at c;split at c;{cases c};injection c with c;rw[<-c];show L6 _ _);simp only[bR];lia};rw[show fF "axes" (a::r)=Z from aaa f]at h;cases h};rw[show fF "piece" (y::l)=Z from aaa e]at h;cases h
def aiP:∀(n m:Nat)(l:List Line),U l<=n->U l<=m->piecesOf n l=(iz m l).bind λr=>if r.2≠[]then Z else B r.1:=by{
intro n;induction n with
|zero=>intro m l b c;let:l=[]:=iG.mp @o_;subst this;let a:¬gL []=ascii "piece":=@k_;cases m with|zero=>unfold iz;rw[aaa a];rfl|succ m=>unfold iz;rw[aaa a];rfl
|succ n d=>
intro m l b c;by_cases a:gL l=ascii "piece";{cases m with|zero=>let:l=[]:=iG.mp @o_;subst this;show absurd a @k_|succ m=>rw[aiO (n+1) l a b,iz,aab a];cases q:ko l with|none=>rfl|some x=>let f:=Ou q;simp only[bM,Nat.add_sub_cancel];rw[d m x.2 @o_ @o_];cases iz m x.2 with|none=>rfl|some r=>simp only[bM,gC];split<;>rfl};let e:iz m l=B ([],l):=by cases m with|zero=>unfold iz;rw[aaa a]|succ m=>unfold iz;rw[aaa a]
rw[e];simp only[bM];cases l with|nil=>rfl|cons x l=>rw[OA a];simp}
def yk:∀(l:List Nat),l.sum=l.foldr (λ(a b:Nat)=>a+b) 0|[]=>rfl|a::l=>by rw[oh,tj,yk l]
def FQ(c:Code):U c.ops=U c.main+(c.pieces.map λ(x:Piece)=>U x.body).sum:=by unfold Code.ops;rw[cA,List.length_flatMap]
def ahT{r}(h:eR w most l=B r):r=front w l/\(front w l).1.length<=most:=by unfold eR at h;split at h;{cases h};injection h with h;show [h.symm,by lia]
theorem Ax{α a:Type}{f:α->Option a}:∀{l:List α}{r:List a},l.mapM f=B r->U r=U l|[],r,h=>by let:r=[]:=(h.symm:);subst this;rfl|x::l,r,e=>by rw[mapM_cons]at e;cases q:f x with|none=>rw[q]at e;cases e|some b=>rw[q]at e;cases q2:l.mapM f with|none=>rw[q2]at e;cases e|some bs=>(rw[q2]at e;injection e with e);subst e;simp[Ax q2]
def YO(h:t.all isSign=ag):ofText t=Z:=by cases q:ofText t with|none=>rfl|some c=>let:=ag3 q;rw[cq.mpr this]at h;cases h
theorem ahX(t:Bytes):FX t=ofText t:=by{
unfold FX;split;{rename_i h;show(YO h).symm};unfold ofText;cases linesOf t with|none=>rfl|some l=>
cases l with|nil=>rfl|cons x l=>
simp only[bM];by_cases hx:x.1=ascii "code"
.rw[show fF "code" (x::l)=B (x.2,l)from aab hx,aaa<|by intro z;show z hx];simp only[bM];cases J:x.2 with|nil=>rfl|cons d r1=>
 cases r1 with|cons _ _=>rfl|nil=>
 dsimp only;generalize C:front "slot" l=s;generalize f:front "name" s.2=n;generalize i:front "call" n.2=c;let few (slots:List Shape) (d:Nat) (a:List Bytes) (calls:List Call) (main:List Op) (E:List Piece) (F:s.1.mapM shapeOf=B slots) (G:n.1.mapM mv=B a) (M:c.1.mapM callOf=B calls):
  (Code.few [slots,d,a,E,calls,main]=Y)<->(U s.1<=256/\U n.1<=256/\U E<=256/\U c.1<=4096/\U main+(E.map λ(x:Piece)=>U x.body).sum<=65536):=by
  unfold Code.few;simp only[a6,aaK,FQ,Ax F,Ax G,Ax M];show Iff.rfl
 cases j:c.2 with
 |nil=>simp only[eR,C,f,i];cases numOf (any 4) d with|none=>rfl|some H=>simp only[bM];split;{rfl};simp only[bM,f];cases s.1.mapM shapeOf with|none=>rfl|some slots=>simp only[bM];split;{rfl};simp only[bM,i];cases n.1.mapM mv with|none=>rfl|some a=>simp only[bM];split;{rfl};simp only[bM,j];cases c.1.mapM callOf<;>rfl
 |cons m r=>
 dsimp only;by_cases w:m=(ascii "main",[])
 .rw[aaa<|by intro z;show z w];simp only[eR,C,f,i];change _=match numOf (any 4) d,s.1.mapM shapeOf,n.1.mapM mv,c.1.mapM callOf,piecesOf (frontOps r).2.length (frontOps r).2 with
   |some d,B slots,B a,B calls,B pieces=>if(Code.mk slots d a pieces calls (frontOps r).1).few=Y then B (Code.mk slots d a pieces calls (frontOps r).1)else Z
   |_,_,_,_,_=>Z
  cases numOf (any 4) d with|none=>rfl|some H=>simp only[bM];cases g:s.1.mapM shapeOf with|none=>split<;>simp only[bM,rf,g]|some slots=>cases o:n.1.mapM mv with|none=>split;{simp};simp only[bM,g,f];split<;>simp[o]|some a=>cases v:c.1.mapM callOf with|none=>split;{simp};simp only[bM,g,f];split;{simp};simp only[bM,o,i];split<;>simp[v]|some calls=>by_cases l1:256<U s.1;{rw[aab l1];simp only[rf];symm;split;{rw[aaa];rename_i e;injections;subst_vars;rw[few _ _ _ _ _ _ g o v];lia};rfl};rw[aaa l1];simp only[bM,g,f];by_cases l2:256<U n.1;{rw[aab l2];simp only[rf];symm;split;{rw[aaa];injections;subst_vars;rw[few _ _ _ _ _ _ g o v];lia};rfl};rw[aaa l2];simp only[bM,o,i];by_cases l3:4096<U c.1;{rw[aab l3];simp only[rf];symm;split;{rw[aaa];injections;subst_vars;rw[few _ _ _ _ _ _ g o v];lia};rfl};rw[aaa l3];simp only[bM,v,j];rw[show fF "main" (m::r)=B (m.2,r)from aab<|by rw[w]];simp only[bM];rw[aaa<|by rw[w];simp];cases q:gx r with|none=>let[y,P,F,G]:=FW q;rw[F,OC G];simp|some b=>rw[A5 q,aiP b.2.length b.2.length b.2 (bD _)<|bD _];simp only[bM];cases iz b.2.length b.2 with|none=>simp|some p=>simp only[bM];by_cases A:p.2≠[];{rw[aab A];simp only[aab A];split<;>rfl};rw[aaa A];simp only[aaa A];let I:=few slots H a calls b.1 p.1 g o v;by_cases l4:256<U p.1;{rw[aab l4,aaa<|by rw[I];lia]};rw[aaa l4];by_cases l5:65536<U b.1+(p.1.map λ(x:Piece)=>U x.body).sum;{rw[aab l5,aaa<|by rw[I];lia]};rw[aaa l5,aab<|by rw[I];lia]
 rw[aab<|by intro z;show w z];simp only[eR,C,f,i];cases numOf (any 4) d with|none=>rfl|some H=>simp only[bM];split;{rfl};simp only[bM,f];cases s.1.mapM shapeOf with|none=>rfl|some slots=>simp only[bM];split;{rfl};simp only[bM,i];cases n.1.mapM mv with|none=>rfl|some a=>simp only[bM];split;{rfl};simp only[bM,j];cases c.1.mapM callOf with|none=>rfl|some calls=>simp only[bM];by_cases u:m.1=ascii "main";{rw[show fF "main" (m::r)=B (m.2,r)from aab u];simp only[bM];rw[aab];intro z;apply w;let:m.2=[]:=iG.mp z;rw[<-u,<-this]};rw[show fF "main" (m::r)=Z from aaa u];rfl
rw[show fF "code" (x::l)=Z from aaa hx,aab<|by intro z;show hx z];rfl}
def dU(s:Option Shape)(k n:Nat):Bool:=(match s with|some s=>s.kind==k&&U s.lens==n|none=>ag)
def gr(s:Option Shape)(k:Nat):Bool:=(match s with|some s=>s.kind==k&&~~~(1<=U s.lens)|none=>ag)
def fP(s:Option Shape)(k:Nat)(l:List Nat):Bool:=(match s with|some s=>s.kind==k&&s.lens==l|none=>ag)
def rO(s:Option Shape)(t:Shape):Bool:=if U t.lens=0 then s.isNone else match s with|some s=>s.kind==t.kind&&s.lens==t.lens|none=>ag
def iP(x:Nat):Nat:=(#[1,2,1,1,1,2,1,2,1,1,0]:List Nat).getD x 0
def fX(l:List Nat)(i:Nat):List Nat:=l.take i++l.drop (i+1)
abbrev aE(s:Option Shape):Shape:=s.getD [0,[]]
def fU(x:Call)(ops:List<|Option Shape)(r:Option Shape):Bool:=let a:=ops.getD 0 Z;let b:=ops.getD 1 Z;match x.which with|0=>!(x.kind==0||(!gr a x.kind||!(x.u==0||(x.u==2||x.u==3))))&&(if x.v=255 then r.isNone else ~~~(x.v<(aE a).lens.length)&&rO r [x.kind,fX (aE a).lens x.v])|1=>!(x.kind==0||(!dU a x.kind 2||!dU b x.kind 2))&&((aE a).lens.getD 1 0==(aE b).lens.getD 0 0&&fP r x.kind #[(aE a).lens.getD 0 0,(aE b).lens.getD 1 0])|2=>dU a x.kind 2&&fP r x.kind #[(aE a).lens.getD 1 0,(aE a).lens.getD 0 0]|3=>dU a x.kind 1&&fP r x.kind (aE a).lens|4=>dU a x.kind 1&&fP r 3 (aE a).lens|5=>!(!gr a x.kind||!dU b 3 1)&&fP r x.kind ((aE b).lens++(aE a).lens.drop 1)|6=>!(!((aE a).kind==x.kind)||(~~~((aE a).lens.length<=x.u)||!dU r x.kind (aE a).lens.length))&&fX (aE r).lens x.u==fX (aE a).lens x.u|7=>!(!((aE a).kind==x.kind)||(!dU b x.kind (aE a).lens.length||~~~((aE a).lens.length<=x.u)))&&(fX (aE a).lens x.u==fX (aE b).lens x.u&&fP r x.kind ((aE a).lens.take x.u++#[(aE a).lens.getD x.u 0+(aE b).lens.getD x.u 0]++(aE a).lens.drop (x.u+1)))|8=>!(!gr a x.kind||!gr r x.kind)&&(aE a).cells==(aE r).cells|9=>a.isNone&&gr r x.kind|10=>x.kind==3&&dU r 3 1|_=>ag
def jg(x:Call):Bool:=(x.u==0||(x.which==0||(x.which==6||x.which==7)))&&(x.v==0||(x.which==0||x.which==6))
def jR(c:Code)(x:Call):Bool:=
 !(!~~~(x.kind<=12)||(~~~(11<=x.which)||!(U x.results==1)))&&
 (!((!(x.results.headD [Y,0]).number&&x.operands.contains (x.results.headD [Y,0]))||!jg x)&&
 ((U x.operands==iP x.which&&(x.which==9||(x.operands.map<|vx c).all tJ))&&
 fU x (x.operands.map<|vx c) ((x.results.headD [Y,0]).shape c)))
def yy(l:List Nat)(i:Nat):fX l i=l.eraseIdx i:=by unfold fX;rw[List.eraseIdx_eq_take_drop_succ]
theorem alU{l m:List Nat}{i:Nat}(d:i<U l):(U m=U l/\fX m i=fX l i)<->m=l.set i (m.getD i 0):=by{
constructor
.rintro⟨f,a⟩;unfold fX at a;let b:i<U m:=by lia
 let c:m.take i=l.take i/\m.drop (i+1)=l.drop (i+1):=List.append_inj a (by rw[gj,gj];lia);rw[Xi,aab d,<-c.1,<-c.2];let:m.getD i 0=m[i]:=by rw[cV,bF b];rfl
 rw[this];rw[<-vp b,vw]
intro e;constructor;{rw[e,og]};rw[e];unfold fX;rw[List.take_set_of_le<|bD _,List.drop_set_of_lt<|vI _]}
def ac0:joinOk i s t=Y<->s.kind=t.kind/\U s.lens=U t.lens/\fX s.lens i=fX t.lens i:=by{
unfold joinOk;simp only[a6,aaF,cq,gk,j2];constructor
.rintro⟨b,c,a⟩;show [b,c,?_];rw[yy,yy];apply Cf;intro j;rw[Cj,Cj];let key:∀k,k≠i->s.lens[k]?=t.lens[k]?:=λk g=>by by_cases d:k<U s.lens;{(rcases a k d with q|q);{show absurd q g};rw[cV,cV,bF d,bF (by lia:k<U t.lens)]at q;rw[bF d,bF (by lia:k<U t.lens)];simpa using q};rw[iF @o_,iF @o_]
 split;{show key j @o_};show key (j+1) @o_
rintro⟨b,c,a⟩;show [b,c,λk g=>?_];by_cases q:k=i;{show .inl q};right;rw[yy,yy]at a;let e:s.lens[k]?=t.lens[k]?:=by by_cases f:k<i;{let:=aad (λl=>l[k]?) a;simp only[Cj,aab f]at this;show this};let:=aad (λl=>l[k-1]?) a;simp only[Cj]at this;rw[aaa @o_,aaa @o_]at this;let h:k-1+1=k:=@o_;rw[h]at this;show this
rw[cV,cV,e]}
def P6(s t:Shape):(s=t)<->(s.kind=t.kind/\s.lens=t.lens):=by cases s;cases t;simp
theorem aa8{c:Code}{r:c5}{t:Shape}(a:(r.shape c).isNone=r.number):rO (r.shape c) t=r.fits c t:=by unfold rO Hold.fits;by_cases h:t.lens=[];{rw[aab<|by rw[h];rfl,aab h,a]};rw[aaa<|by intro z;show h<|iG.mp z,aaa h];cases r.shape c with|none=>rfl|some s=>simp only[Option.some_beq_some];rw[cb];simp[P6]
def MJ(k:Nat):isNumeric k=(~~~(k<=12)&&!(k==0)):=by unfold isNumeric;rw[cb];simp;lia
theorem l0{d d' w L n t a q R F:Bool}(hd:d'=d)(h:d=Y->L=Y->(!w&&(a&&(q&&R)))=F):(!(!d||(w||!L))&&(!((!n&&t)||!a)&&(q&&R)))=(d'&&(L&&(!(t&&!n)&&F))):=by subst hd;cases d';{rfl};cases L;{cases w<;>rfl};cases h () rfl;cases w;{cases n<;>cases t<;>cases a<;>rfl};cases n<;>cases t<;>rfl
theorem l_{w a q R F:Bool}(h:q=ag)(b:F=ag):(!w&&(a&&(q&&R)))=F:=by subst h;subst b;cases w<;>cases a<;>rfl
theorem rR{a V R F:Bool}(h:R=F):(((a||false)&&(V||false))&&R)=(a&&(V&&F)):=by subst h;cases a<;>cases V<;>rfl
theorem L4{a V R F:Bool}(h:R=F):(((a||true)&&(V||true))&&R)=F:=by subst h;cases a<;>cases V<;>rfl
theorem abe{a V R F:Bool}(h:R=F):(((a||true)&&(V||false))&&R)=(V&&F):=by subst h;cases a<;>cases V<;>rfl
def mm(k:Nat): ~~~(k<13)= ~~~(k<=12):=by rw[cb];simp;lia
theorem tX(q s:Shape):(q==s)=(q.kind==s.kind&&q.lens==s.lens):=by rw[cb];simp[P6]
theorem rQ{a k:Nat}{P Q:Bool}(h:a=k->P=Q):(a==k&&P)=(a==k&&Q):=by by_cases e:a=k;{rw[h e]};rw[aaR.2 e];rfl
def LZ:(!(!X||!a)&&b)=(X&&(a&&b)):=by cases X<;>cases a<;>rfl
theorem abf{c:Code}{r:c5}{k u v:Nat}(d:(r.shape c).isNone=r.number)(f: ~~~(k<=12)=Y):∀a:Option Shape,((a.isSome&&Y)&&(!(k==0||(!gr a k||!(u==0||(u==2||u==3))))&&(if v=255 then(r.shape c).isNone else ~~~(v<(aE a).lens.length)&&rO (r.shape c) [k,fX (aE a).lens v])))=(isNumeric k&&((u==0||(u==2||u==3))&&match a with|some s=>s.kind==k&&(~~~(1<=U s.lens)&&(if v=255 then r.number else ~~~(v<U s.lens)&&(r.fits c [s.kind,s.lens.eraseIdx v])))|none=>ag))|none=>by cases isNumeric k<;>cases(u==0||(u==2||u==3))<;>rfl|some s=>by rw[d,aa8 d,MJ,f,yy];generalize (u==0||(u==2||u==3))=b;cases k==0;{cases b;{show(by cases gr (B s) k<;>rfl)};show j1 .. ▸(by change (!(!(s.kind==k&&~~~(1<=U s.lens))||!Y)&&_)=(s.kind==k&&_);rw[LZ,j1];show rQ λe=>by subst e;rfl)};rfl
def abg(d: ~~~(k<=12)=Y):∀a b r:Option Shape,(((c||false)&&(V||false))&&((a.isSome&&(b.isSome&&Y))&&(!(k==0||(!dU a k 2||!dU b k 2))&&((aE a).lens.getD 1 0==(aE b).lens.getD 0 0&&fP r k #[(aE a).lens.getD 0 0,(aE b).lens.getD 1 0]))))=(isNumeric k&&(c&&(V&&match a,b,r with|some s,B t,B q=>s.kind==k&&(t.kind==k&&(q.kind==k&&(U s.lens==2&&(U t.lens==2&&(s.lens.getD 1 0==t.lens.getD 0 0&&q.lens==#[s.lens.getD 0 0,t.lens.getD 1 0])))))|_,_,_=>ag)))|none,_,_|some _,Z,_=>by cases c<;>cases V<;>cases isNumeric k<;>rfl|some _,B _,Z=>by simp[fP]|some s,B t,B q=>by rw[MJ,d];change _=(!(k==0)&&_);rw[cb];simp[dU,fP,aE];grind
def abi:∀a r:Option Shape,((a.isSome&&Y)&&(dU a k 2&&fP r k #[(aE a).lens.getD 1 0,(aE a).lens.getD 0 0]))=(match a,r with|some s,B q=>s.kind==k&&(U s.lens==2&&q==[s.kind,s.lens.reverse])|_,_=>ag)|none,_=>rfl|some s,Z=>fY _|some s,B q=>(j1 (s.kind==k) (U s.lens==2) _).trans (rQ λe=>rQ λh=>by subst e;rw[tX];match s,h with|⟨_,#[_,_]⟩,_=>rfl)
def abj:∀a r:Option Shape,((a.isSome&&Y)&&(dU a k 1&&fP r k (aE a).lens))=(match a,r with|some s,B q=>s.kind==k&&(U s.lens==1&&q==s)|_,_=>ag)|none,_=>rfl|some s,Z=>fY _|some s,B q=>(j1 (s.kind==k) (U s.lens==1) _).trans<|rQ λe=>by subst e;rw[tX];rfl
def abk:∀a r:Option Shape,((a.isSome&&Y)&&(dU a k 1&&fP r 3 (aE a).lens))=(match a,r with|some s,B q=>s.kind==k&&(U s.lens==1&&q==[3,s.lens])|_,_=>ag)|none,_=>rfl|some s,Z=>fY _|some s,B q=>(j1 (s.kind==k) (U s.lens==1) _).trans<|rQ λ_=>rQ λ_=>(tX q [3,s.lens]).symm
def abl:∀a b r:Option Shape,((a.isSome&&(b.isSome&&Y))&&(!(!gr a k||!dU b 3 1)&&fP r k ((aE b).lens++(aE a).lens.drop 1)))=(match a,b,r with|some s,B t,B q=>s.kind==k&&(~~~(1<=U s.lens)&&(t.kind==3&&(U t.lens==1&&q==[s.kind,t.lens++s.lens.drop 1])))|_,_,_=>ag)|none,_,_|some _,Z,_=>rfl|some _,B _,Z=>fY _|some s,B t,B q=>LZ.trans<|(j1 ..).trans<|rQ λe=>by subst e;rw[tX];show aad _<|j1 ..
theorem abm{k u:Nat}:∀a r:Option Shape,((a.isSome&&Y)&&(!(!((aE a).kind==k)||(~~~((aE a).lens.length<=u)||!dU r k (aE a).lens.length))&&fX (aE r).lens u==fX (aE a).lens u))=(match a,r with|some s,B q=>s.kind==k&&(~~~(u<U s.lens)&&q==[s.kind,s.lens.set u<|q.lens.getD u 0])|_,_=>ag)|none,_=>rfl|some s,Z=>by simp[dU]|some s,B q=>by dsimp only;rw[tX,cb];let e:=λb=> @alU s.lens q.lens u b;simp[dU,aE]at e⊢;grind
def abn:∀a b r:Option Shape,((a.isSome&&(b.isSome&&Y))&&(!(!((aE a).kind==k)||(!dU b k (aE a).lens.length||~~~((aE a).lens.length<=u)))&&(fX (aE a).lens u==fX (aE b).lens u&&fP r k ((aE a).lens.take u++#[(aE a).lens.getD u 0+(aE b).lens.getD u 0]++(aE a).lens.drop (u+1)))))=(match a,b,r with|some s,B t,B q=>s.kind==k&&(~~~(u<U s.lens)&&(joinOk u s t&&q==joinShape u s t))|_,_,_=>ag)|none,_,_|some _,Z,_=>rfl|some _,B _,Z=>by simp[fP]|some s,B t,B q=>by(let c:u<U s.lens->s.lens.take u++#[s.lens.getD u 0+t.lens.getD u 0]++s.lens.drop (u+1)=(joinShape u s t).lens:=λd=>by change _=s.lens.set u _;rw[Xi,aab d];simp);let e:(joinShape u s t).kind=s.kind:=();dsimp only;rw[tX,e,cb];simp only[dU,fP,aE,Option.getD_some,a6,ac0,aaF,aaK];simp at c⊢;grind
def abo:∀a r:Option Shape,((a.isSome&&Y)&&(!(!gr a k||!gr r k)&&(aE a).cells==(aE r).cells))=(match a,r with|some s,B q=>s.kind==k&&(q.kind==s.kind&&(~~~(1<=U s.lens)&&(~~~(1<=U q.lens)&&q.cells==s.cells)))|_,_=>ag)|none,_=>rfl|some s,Z=>by simp[gr]|some s,B q=>by rw[cb];simp[gr,aE];grind
def abp:∀r:Option Shape,gr r k=(match r with|some q=>q.kind==k&&~~~(1<=U q.lens)|none=>ag)|none|some _=>rfl
def abh:∀r:Option Shape,dU r 3 1=(match r with|some q=>q.kind==3&&U q.lens==1|none=>ag)|none|some _=>rfl
theorem ahS(c:Code)(x:Call)(g:∀h∈x.operands++x.results,(h.shape c).isNone=h.number):jR c x=(~~~(x.kind<om)&&fnOk c x):=by{
let[m,w,k,u,v,os,e]:=x;let i:∀r,e=#[r]->(r.shape c).isNone=r.number:=λr h=>g r (by simp[h]);let j:∀h∈os,(h.shape c).isNone=h.number:=λh l=>g h<|Cp _ l;clear g;match w with
|0=>simp only[jR,fnOk,fU,jg,iP];show l0 (mm _) λf d=>?_;match e,d with| #[r],_=>match os with|[]|_::_::_=>show l_ () rfl| #[a]=>show L4 (abf (i r ()) f _)
|1=>simp only[jR,fnOk,fU,jg,iP];show l0 (mm _) λf d=>?_;match e,d with| #[r],_=>match os with|[]| #[_]|_::_::_::_=>show l_ () rfl| #[a,b]=>show abg f _ _ _
|2=>simp only[jR,fnOk,fU,jg,iP];show l0 (mm _) λf d=>?_;match e,d with| #[r],_=>match os with|[]|_::_::_=>show l_ () rfl| #[a]=>show rR (abi _ _)
|3=>simp only[jR,fnOk,fU,jg,iP];show l0 (mm _) λf d=>?_;match e,d with| #[r],_=>match os with|[]|_::_::_=>show l_ () rfl| #[a]=>show rR (abj _ _)
|4=>simp only[jR,fnOk,fU,jg,iP];show l0 (mm _) λf d=>?_;match e,d with| #[r],_=>match os with|[]|_::_::_=>show l_ () rfl| #[a]=>show rR (abk _ _)
|5=>simp only[jR,fnOk,fU,jg,iP];show l0 (mm _) λf d=>?_;match e,d with| #[r],_=>match os with|[]| #[_]|_::_::_::_=>show l_ () rfl| #[a,b]=>show rR (abl _ _ _)
|6=>simp only[jR,fnOk,fU,jg,iP];show l0 (mm _) λf d=>?_;match e,d with| #[r],_=>match os with|[]|_::_::_=>show l_ () rfl| #[a]=>show L4 (abm _ _)
|7=>simp only[jR,fnOk,fU,jg,iP];show l0 (mm _) λf d=>?_;match e,d with| #[r],_=>match os with|[]| #[_]|_::_::_::_=>show l_ () rfl| #[a,b]=>show abe (abn _ _ _)
|8=>simp only[jR,fnOk,fU,jg,iP];show l0 (mm _) λf d=>?_;match e,d with| #[r],_=>match os with|[]|_::_::_=>show l_ () rfl| #[a]=>show rR (abo _ _)
|9=>simp only[jR,fnOk,fU,jg,iP];show l0 (mm _) λf d=>?_;match e,d with| #[r],_=>match os with|[]|_::_::_=>show l_ () rfl| #[a]=>show rR (show((a.shape c).isNone&&gr (r.shape c) k)=(a.number&&_)from congr (aad and<|j a @s_)<|abp _)
|10=>simp only[jR,fnOk,fU,jg,iP];show l0 (mm _) λf d=>?_;match e,d with| #[r],_=>match os with|_::_=>show l_ () rfl|[]=>show rR (aad (k==3&&·)<|abh _)
|n+11=>simp[jR,fnOk,fU]}
def eu:Nat->Option (List String)
|1=>B #["kind","dst","imm"]|3=>B #["dst","a"]|4=>B #["kind","aux","dst","a","b"]|5=>B #["kind","aux","dst","a","imm"]|6=>B #["kind","dst","a","b","c"]
|7=>B #["kind","dst","a"]|8=>B #["kind","aux","dst","a"]|9=>B #["kind","aux","dst","a","b"]|10=>B #["kind","dst","a"]|11=>B #["dst","a","b","c"]
|26=>B #["kind","aux","dst","a"]|27=>B #["kind","dst","a","b"]|28=>B #["kind","aux","dst","a","b"]|_=>Z
def lV:Nat->Option (List String)
|0=>B []|2=>B #["mask","dst","a"]|12=>B #["mask","dst","a"]|13=>B #["aux","dst","a","b"]|14=>B #["mask","aux","dst","a"]|15=>B #["mask","aux","a","b","c"]
|16=>B #["mask","aux","a"]|17=>B #["mask","imm"]|18=>B #["mask","to"]|19=>B []|20=>B #["mask","imm","to"]|21=>B #["to"]|_=>Z
def jx:Nat->Option (List String)
|0=>B []|14=>B #["aux","dst","a"]|17=>B #["imm"]|18=>B #["aux","a","to"]|19=>B #["dst","imm","to"]|21=>B #["dst","imm","to"]|22=>B #["imm"]
|23=>B #["kind","aux","a"]|24=>B #["kind","aux","dst","imm"]|25=>B #["dst","a"]|_=>Z
def mq(n:Nat)(f:String)(named:List String):Bool:=n==0||named.contains f
def iQ(o:Op)(named:List String):Bool:=mq o.kind "kind" named&&(mq o.mask "mask" named&&(mq o.aux "aux" named&&(mq o.dst "dst" named&&(mq o.a "a" named&&(mq o.b "b" named&&(mq o.c "c" named&&(mq o.imm "imm" named&&(mq o.to "to" named&&o.zero==0))))))))
noncomputable def AB:Nat->Nat|8=>13|9=>7|26=>8|_=>0
def Aq(o:Op):Bool:=if o.op=3\/o.op=11 then Y else if o.op=1\/o.op=8\/o.op=9 then ~~~(o.kind<=12)else isFlt o.kind
def Ei(o:Op)(places:Nat):Bool:=if places<=o.a+3\/3<o.aux then ag else if o.aux≠1/\o.b≠0 then ag else if o.aux<=1 then o.kind==8 else isFlt o.kind
def lI(o:Op)(places:Nat):Bool:=
 if¬max (max (max o.dst o.a) o.b) o.c<places then ag else if o.op=28 then Ei o places else if o.op=4 then hasTwo o.kind o.aux else if o.op=5 then hasOne o.kind o.aux&&~~~(o.imm<=3)
 else Aq o&&~~~(o.aux<=AB o.op)
def vg(c:Code)(o:Op)(t:Nat):Bool:=if o.aux=1 then o.kind==0&&~~~(t<U c.slots)else o.aux==0&&(~~~(o.kind<=12)&&~~~(t<1024))
def uv(c:Code)(o:Op):Bool:=
 if o.op=14 then(if U c.slots<=o.aux\/1024<=o.dst\/1024<=o.a then ag else ~~~(o.a+(c.slots.getD o.aux [0,[]]).lens.length<=1024))
 else if o.op=18 then(if o.aux=1 then o.a==0 else o.aux==0&&~~~(o.a<1024))
 else if o.op=19\/o.op=21 then ~~~(o.dst<1024)
 else if o.op=22 then ~~~(o.imm<U c.calls)
 else if o.op=23 then vg c o o.a
 else if o.op=24 then ~~~(o.imm<U c.names)&&vg c o o.dst
 else if o.op=25 then(if U c.slots<=max o.dst o.a then ag else(c.slots.getD o.dst [0,[]]==c.slots.getD o.a [0,[]]))
 else o.op==0||o.op==17
def pF(a:Nat)(l:List Nat):Bool:= ~~~(a<256)&&~~~(a+U l<=256)
def DQ(p:Piece)(o:Op):Bool:=
 if o.op=2 then ~~~(o.dst<256)&&~~~(o.a<U p.axes)
 else if o.op=12 then(~~~(1<=o.dst)&&~~~(o.dst<=63))&&~~~(o.a<256)
 else if o.op=13 then(if 15<o.aux\/¬(1<=o.dst/\o.dst<=63)then ag else ~~~(max o.a o.b<=63))
 else if o.op=14 then(if U p.inputs<=o.aux\/256<=o.dst then ag else pF o.a (p.inputs.getD o.aux [0,[]]).lens)
 else if o.op=15 then(if U p.results<=o.aux\/256<=o.b\/3<o.c then ag else
  if(p.results.getD o.aux [[0,[]],0]).shape.lens.length=0\/pF o.a (p.results.getD o.aux [[0,[]],0]).shape.lens=ag then ag else o.c==0||!((p.results.getD o.aux [[0,[]],0]).shape.kind==0))
 else if o.op=16 then(if U p.results<=o.aux\/256<=o.a then ag else(p.results.getD o.aux [[0,[]],0]).shape.lens.length==0)
 else o.op==0||(o.op==17||(o.op==18||(o.op==19||(o.op==20||o.op==21))))
def eS(c:Code)(o:Op):Bool:=match eu o.op,jx o.op with|some f,_=>iQ o f&&lI o 1024|none,B f=>iQ o f&&uv c o|none,Z=>ag
def g9(p:Piece)(o:Op):Bool:=match eu o.op,lV o.op with|some f,_=>~~~(o.mask<=63)&&(iQ o (f++#["mask"])&&lI o 256)|none,B f=>~~~(o.mask<=63)&&(iQ o f&&DQ p o)|none,Z=>ag
theorem wX{α:Type}{l:List α}{i:Nat}{d x:α}(h:l[i]?=B x):l.getD i d=x:=by rw[cV,h];rfl
def fieldsOf(f:List String):qZ:=[f.contains "kind",f.contains "mask",f.contains "aux",f.contains "dst",f.contains "a",f.contains "b",f.contains "c",f.contains "imm",f.contains "to"]
def FR(o:Op)(f:List String):iQ o f=o.only (fieldsOf f):=by let h:∀(n:Nat)(s:String),mq n s f=zeroUnless (f.contains s) n:=λ_ _=>Bool.or_comm _ _;unfold iQ;rw[h,h,h,h,h,h,h,h,h];rfl
def Oq(e:fieldsOf f=F):iQ o f=o.only F:=by rw[FR,e]
def ac(h:A=Y->a=C):(A&&a)=(A&&C):=by cases A with|false=>rfl|true=>show h ()
def yA(h:zeroUnless b n=Y)(e:b=ag):n=0:=by subst e;show aaF.mp h
theorem FL{o:Op}{F:qZ}(h:o.only F=Y):(F.kind=ag->o.kind=0)/\(F.aux=ag->o.aux=0)/\(F.a=ag->o.a=0)/\(F.b=ag->o.b=0)/\(F.c=ag->o.c=0):=by unfold Op.only at h;simp only[a6]at h;show [yA h.1,yA h.2.2.1,yA h.2.2.2.2.1,yA h.2.2.2.2.2.1,yA h.2.2.2.2.2.2.1]
def rP(h:isFlt k=Y):k<13:=by unfold isFlt at h;simp only[a6,aaK]at h;lia
def alR(h:isWhole k=Y):k<13:=by unfold isWhole at h;simp only[a6,aaK]at h;lia
theorem Mh{k x n m:Nat}{b:Bool}(h:(if isFlt k=Y then ~~~(x<=n)else if isWhole k=Y then ~~~(x<=m)else k==0&&b)=Y):k<13:=by by_cases a:isFlt k=Y;{show rP a};by_cases c:isWhole k=Y;{show alR c};rw[aaa a,aaa c,a6]at h;rw[aaF.mp h.1];decide
def h9(h:A=Y->k<13):(~~~(k<om)&&(A&&a))=(A&&a):=by cases A with|false=>cases ~~~(k<om)<;>rfl|true=>rw[aae (show k<om from h ())];rfl
theorem xw{a b c d n:Nat}{f:Bool}:(if¬max (max (max a b) c) d<n then ag else f)=(f&&(~~~(a<n)&&(~~~(b<n)&&(~~~(c<n)&&~~~(d<n))))):=by let e: ~~~(max (max (max a b) c) d<n)=(~~~(a<n)&&(~~~(b<n)&&(~~~(c<n)&&~~~(d<n)))):=(by simp only[Nat.max_lt,Bool.decide_and,j1]);rw[<-e];by_cases h:max (max (max a b) c) d<n;{rw[aaa<|not_not_intro h,aae h,iW]};rw[aab h,aac h,fY]
def mr(h:0<n): ~~~(0<n)=Y:=aae h
def Ar: ~~~(k<om)= ~~~(k<=12):=by rw[aaP];show Js
abbrev iA:List<|List String×String:=#[(#["kind","dst","imm"],"kdi"),(#["dst","a"],"da"),(#["kind","aux","dst","a","b"],"kxdab"),(#["kind","aux","dst","a","imm"],"kxdai"),(#["kind","dst","a","b","c"],"kdabc"),(#["kind","dst","a"],"kda"),(#["kind","aux","dst","a"],"kxda"),(#["dst","a","b","c"],"dabc"),(#["kind","dst","a","b"],"kdab")]
def rN(F G:qZ):Bool:=F.kind==G.kind&&F.mask==G.mask&&F.aux==G.aux&&F.dst==G.dst&&F.a==G.a&&F.b==G.b&&F.c==G.c&&F.imm==G.imm&&F.to==G.to
def wO(h:rN F G=Y):F=G:=by let[a,b,c,d,e,f,g,i,j]:=F;let[l,m,n,o,p,q,r,s,t]:=G;unfold rN at h;simp only[a6,aaF]at h;let[[[[[[[[rfl,rfl],rfl],rfl],rfl],rfl],rfl],rfl],rfl]:=h;rfl
structure iK (mk:List String) (m:String):Prop where
 eq:(iA.all λq=>rN (fieldsOf<|q.1++mk)<|fields<|q.2++m)=Y
 dr:rN (fieldsOf<|#["kind","aux","dst","a","b"]++mk) (fields<|"kxda"++"b"++m)=Y
 dn:rN (fields<|"kxda"++""++m) {fieldsOf (#["kind","aux","dst","a","b"]++mk)with b:=ag}=Y
 no:(iA.all λq=>#["kind","aux","a","b","c"].all λs=>(q.1++mk).contains s==q.1.contains s)=Y
def Fq:iK [] "":=[by decide+kernel,by decide+kernel,by decide+kernel,by decide+kernel]
def mkM:iK #["mask"] "m":=[by decide+kernel,by decide+kernel,by decide+kernel,by decide+kernel]
theorem ahb{o:Op}{F:qZ}(h:F.b=Y):o.only {F with b:=ag}=(o.only F&&o.b==0):=by
 unfold Op.only;simp only[zeroUnless,h,B8,B9,kX]
 ac_rfl
section
variable{mk:List String}{m:String}(K:iK mk m){o:Op}{places:Nat}(hp:0<places)
include K
def lH(q:(f,s)∈iA)(h:(f.contains "kind"=ag->o.kind=0)->(f.contains "aux"=ag->o.aux=0)->(f.contains "a"=ag->o.a=0)->(f.contains "b"=ag->o.b=0)->(f.contains "c"=ag->o.c=0)->d=C):B (o.only (fields<|s++m)&&d)=B (iQ o (f++mk)&&C):=by rw[FR,<-wO<|cq.mp K.eq _ q];show aad B<|ac λz=>?_;let[g,i,j,l,p]:=FL z;let n:=cq.mp K.no _ q;let n:∀x∈ #["kind","aux","a","b","c"],(f++mk).contains x=f.contains x:=λx hx=>aaF.mp<|cq.mp n x hx;show h (λe=>g<|(n _ @d_).trans e) (λe=>i<|(n _ @d_).trans e) (λe=>j<|(n _ @d_).trans e) (λe=>l<|(n _ @d_).trans e) λe=>p<|(n _ @d_).trans e
end
theorem nT{o:Op}{places:Nat}{A X:Bool}(h:o.op≠28/\o.op≠4/\o.op≠5)(d:Aq o=A)(hx: ~~~(o.aux<=AB o.op)=X):lI o places=((A&&X)&&(~~~(o.dst<places)&&(~~~(o.a<places)&&(~~~(o.b<places)&&~~~(o.c<places))))):=by unfold lI;rw[xw,aaa h.1,aaa h.2.1,aaa h.2.2,d,hx]
def et(h:(n==28||n==4||n==5)=ag):n≠28/\n≠4/\n≠5:=by simp only[sV,aaR]at h;show [h.1.1,h.1.2,h.2]
theorem Lx{kind aux dst a b places:Nat}(i:0<places)(j:aux=1\/b=0)(o:Op)(e:o={o with kind:=kind,aux:=aux,dst:=dst,a:=a,b:=b,c:=0,op:=28}):(~~~(kind<om)&&(~~~(aux<=3)&&((if aux<=1 then kind==8 else isFlt kind)&&(~~~(dst<places)&&(~~~(a+3<places)&&~~~(b<places))))))=lI o places:=by(rw[e];unfold lI;rw[xw];change _=((if places<=a+3\/3<aux then ag else if aux≠1/\b≠0 then ag else if aux<=1 then kind==8 else isFlt kind)&&(~~~(dst<places)&&(~~~(a<places)&&(~~~(b<places)&&~~~(0<places)))));rw[mr i];let g:(if aux<=1 then kind==8 else isFlt kind)=Y->kind<13:=λz=>by by_cases h:aux<=1;{rw[aab h]at z;rw[aaF.mp z];decide};rw[aaa h]at z;show rP z);generalize (if aux<=1 then kind==8 else isFlt kind)=v at g⊢;by_cases d:a+3<places;{by_cases f:aux<=3;{rw[aaa @o_,aaa @o_,aae d,aae f,aae (show a<places by lia),kX,kX,kX,iW];show h9 g};rw[aab<|.inr<|Nat.lt_of_not_le f,aac f,jj,jj,fY]};rw[aab<|.inl<|Jr d,aac d,jj,jj,fY,fY,fY,fY]
section
variable{mk:List String}{m:String}(K:iK mk m){places:Nat}(hp:0<places)
include K hp
def P_(o:Op):numberOp o places m=(eu o.op).map λf=>iQ o (f++mk)&&lI o places:=by let[op,kind,mask,aux,dst,a,b,j,l,imm,p,z]:=o;match op with|0=>rfl|1=>show lH K (bY (i:=0) ()) λ_ hx g O c=>?_;cases hx ();cases g ();cases O ();cases c ();rw[nT (et ()) (A:= ~~~(kind<=12)) () (X:=Y) (),mr hp,Ar];simp only[iW]|2=>rfl|3=>show lH K (bY (i:=1) ()) λ_ hx _ O c=>?_;cases hx ();cases O ();cases c ();rw[nT (et ()) (A:=Y) () (X:=Y) (),mr hp];simp only[iW,kX]|4=>show lH K (bY (i:=2) ()) λ_ _ _ _ c=>?_;cases c ();show(h9 (A:=hasTwo kind aux) λh=>Mh h).trans ?_;unfold lI;rw[xw,mr hp,iW];rfl|5=>show lH K (bY (i:=3) ()) λ_ _ _ O c=>?_;cases O ();cases c ();show(h9 (A:=hasOne kind aux) λh=>Mh h).trans ?_;unfold lI;rw[xw,mr hp,iW,iW];change _=((hasOne kind aux&&~~~(imm<=3))&&_);rw[j1,show ~~~(imm<4)= ~~~(imm<=3)from by rw[aaP];show Js]|6=>show lH K (bY (i:=4) ()) λ_ hx _ _ _=>?_;cases hx ();rw[nT (et ()) (A:=isFlt kind) () (X:=Y) (),iW];show h9 rP|7=>show lH K (bY (i:=5) ()) λ_ hx _ O c=>?_;cases hx ();cases O ();cases c ();rw[nT (et ()) (A:=isFlt kind) () (X:=Y) (),mr hp];simp only[iW];show h9 rP|8=>show lH K (bY (i:=6) ()) λ_ _ _ O c=>?_;cases O ();cases c ();rw[nT (et ()) (A:= ~~~(kind<=12)) () (X:= ~~~(aux<=13)) (),mr hp,Ar];simp only[iW,j1]|9=>show lH K (bY (i:=2) ()) λ_ _ _ _ c=>?_;cases c ();rw[nT (et ()) (A:= ~~~(kind<=12)) () (X:= ~~~(aux<=7)) (),mr hp,Ar];simp only[iW,j1]|10=>show lH K (bY (i:=5) ()) λ_ hx _ O c=>?_;cases hx ();cases O ();cases c ();rw[nT (et ()) (A:=isFlt kind) () (X:=Y) (),mr hp];simp only[iW];show h9 rP|11=>show lH K (bY (i:=7) ()) λ_ hx _ _ _=>?_;cases hx ();rw[nT (et ()) (A:=Y) () (X:=Y) ()];rfl|12=>rfl|13=>rfl|14=>rfl|15=>rfl|16=>rfl|17=>rfl|18=>rfl|19=>rfl|20=>rfl|21=>rfl|22=>rfl|23=>rfl|24=>rfl|25=>rfl|26=>show lH K (bY (i:=6) ()) λ_ _ _ O c=>?_;cases O ();cases c ();rw[nT (et ()) (A:=isFlt kind) () (X:= ~~~(aux<=8)) (),mr hp];simp only[iW,j1];show h9 rP|27=>show lH K (bY (i:=8) ()) λ_ hx _ _ c=>?_;cases hx ();cases c ();rw[nT (et ()) (A:=isFlt kind) () (X:=Y) (),mr hp];simp only[iW];show h9 rP|28=>change B (Op.only _ (fields<|"kxda"++(if aux=1 then "b" else "")++m)&&_)=B (iQ _ (#["kind","aux","dst","a","b"]++mk)&&_);show aad B ?_;let c:(#["kind","aux","dst","a","b"]++mk).contains "c"=ag:=aaF.mp<|cq.mp (cq.mp K.no _<|bY (i:=2) ()) "c" @d_;rw[FR];by_cases d:aux=1;{rw[aab d,<-wO K.dr];show ac λy=>?_;cases(FL y).2.2.2.2 c;show Lx hp (.inl d) _ ()};rw[aaa d,wO K.dn,ahb (by change (#["kind","aux","dst","a","b"]++mk).contains "b"=Y;rfl),j1];show ac λy=>?_;cases(FL y).2.2.2.2 c;change (b==0&&_)=_;by_cases O:b=0;{rw[O];show Lx hp (.inr ()) _ ()};rw[aaR.mpr O,jj];unfold lI;rw[xw];change _=((if places<=a+3\/3<aux then ag else if aux≠1/\b≠0 then ag else _)&&_);by_cases e:places<=a+3\/3<aux;{rw[aab e];rfl};rw[aaa e,aab [d,O]];rfl|n+29=>rfl
end
def on(e:rN (fieldsOf f) F=Y)(h:a=C):(iQ o f&&a)=(o.only F&&C):=by rw[Oq<|wO e,h]
def qC(e:rN (fieldsOf f) F=Y):(iQ o f&&Y)=o.only F:=by rw[Oq<|wO e,iW]
def am(h:A=b):(a&&A)=(a&&b):=by rw[h]
theorem R6{l:List Shape}{x d a n:Nat}:(if U l<=x\/n<=d then ag else ~~~(a<n)&&~~~(a+(l.getD x [0,[]]).lens.length<=n))=(~~~(d<n)&&match l[x]? with|some s=>spanOk n a s|none=>ag):=by by_cases b:d<n;{cases e:l[x]? with|none=>rw[aab<|.inl<|vt.mp e,fY]|some s=>let hx:x<U l:=(el.mp e).1;rw[aaa @o_,aae b,wX e];rfl};rw[aab<|.inr<|Jr b,aac b,jj]
def V1:vg c o t=(if o.aux=0 then ~~~(o.kind<om)&&~~~(t<NUMBERS)else o.aux==1&&(o.kind==0&&~~~(t<U c.slots))):=by unfold vg;rw[Ar];by_cases a:o.aux=1;{rw[aab a,aaa @o_,a];rfl};rw[aaa a];by_cases b:o.aux=0;{rw[aab b,b];rfl};rw[aaa b,aaR.mpr b,aaR.mpr a];rfl
def FU(c:Code)(o:Op):eS c o=mainOp c o:=by{
unfold eS mainOp;rw[P_ Fq @d_];cases e:eu o.op with|some f=>rw[gC,j3];rfl|none=>
let[op,kind,mask,aux,dst,a,b,j,l,imm,m,z]:=o;dsimp only[XB];match op,e with
|0,_=>show qC @k_|14,_=>show on @k_ ?_;show Eq.trans ?_ R6;change (if U c.slots<=aux\/1024<=dst\/1024<=a then ag else _)=(if U c.slots<=aux\/1024<=dst then ag else ~~~(a<1024)&&_);by_cases h:U c.slots<=aux\/1024<=dst;{rw[aab @o_,aab h]};rw[aaa h];by_cases i:a<1024;{rw[aaa @o_,aae i];rfl};rw[aab @o_,aac i];rfl
|17,_=>show qC @k_
|18,_=>
 show on @k_ ?_;change (if aux=1 then a==0 else aux==0&&~~~(a<1024))=(~~~(aux<=1)&&(~~~(a<1024)&&(aux==0||a==0)));match aux with
 |0=>cases ~~~(a<1024)<;>rfl|1=>match a with|0=>rfl|a+1=>cases ~~~(a+1<1024)<;>rfl
 |x+2=>rfl
|19,_=>show on @k_ ()|21,_=>show on @k_ ()
|22,_=>show on @k_ ()|23,_=>show on @k_ V1
|24,_=>show on @k_ (aad (~~~(imm<U c.names)&&·) V1)|25,_=>(show on @k_ ?_;change (if U c.slots<=max dst a then ag else(c.slots.getD dst [0,[]]==c.slots.getD a [0,[]]))=match c.slots[dst]?,c.slots[a]? with|some s,B t=>s==t|_,_=>ag);cases d:c.slots[dst]? with|none=>rw[aab (by let:=vt.mp d;lia)]|some s=>cases g:c.slots[a]? with|none=>rw[aab (by let:=vt.mp g;lia)]|some t=>let p:=(el.mp d).1;let q:=(el.mp g).1;rw[aaa @o_,wX d,wX g]
|2,_=>rfl|12,_=>rfl
|13,_=>rfl|15,_=>rfl
|16,_=>rfl|20,_=>rfl
|n+29,_=>rfl}
def xm: ~~~(n<=63)= ~~~(n<MASKS):=by rw[aaP];show Js.symm
def FT(p:Piece)(o:Op):g9 p o=pieceOp p o:=by{
unfold g9 pieceOp;rw[P_ mkM @d_,<-xm];cases e:eu o.op with|some f=>rfl|none=>
let[op,kind,mask,aux,dst,a,b,cc,q,imm,s,z]:=o;dsimp only[XB];match op,e with
|0,_=>show am (qC<|by decide+kernel)|2,_=>show am (on @k_ ())
|12,_=>show am<|on @k_ ?_;change ((~~~(1<=dst)&&~~~(dst<=63))&&~~~(a<256))=_;rw[xm,j1];rfl|13,_=>show am<|on @k_ ?_;change (if 15<aux\/¬(1<=dst/\dst<=63)then ag else ~~~(max a b<=63))=(~~~(1<=dst)&&(~~~(dst<MASKS)&&(~~~(aux<=15)&&(~~~(a<MASKS)&&~~~(b<MASKS)))));rw[<-xm,<-xm,<-xm];by_cases g:1<=dst;{by_cases h:dst<=63;{by_cases i:aux<=15;{rw[aaa @o_,aae g,aae h,aae i];by_cases j:a<=63;{rw[aae j];change ~~~(max a b<=63)= ~~~(b<=63);rw[aaP];lia};rw[aac j];show aac @o_};rw[aab @o_,aac i,jj,fY,fY]};rw[aab @o_,aac h,jj,fY]};rw[aab @o_,aac g,jj]
|14,_=>show am (on @k_ R6)|15,_=>show am<|on @k_ ?_;change (if U p.results<=aux\/256<=b\/3<cc then ag else if(p.results.getD aux [[0,[]],0]).shape.lens.length=0\/pF a (p.results.getD aux [[0,[]],0]).shape.lens=ag then ag else cc==0||!((p.results.getD aux [[0,[]],0]).shape.kind==0))=(~~~(b<REGS)&&match p.results[aux]? with|some r=>r.shape.lens !=[]&&(spanOk REGS a r.shape&&(~~~(cc<=3)&&(r.shape.kind !=0||cc==0)))|none=>ag);cases c:p.results[aux]? with|none=>rw[aab<|.inl<|vt.mp c,fY]|some r=>let g:=(el.mp c).1;rw[wX c];change _=(~~~(b<REGS)&&(r.shape.lens !=[]&&(pF a r.shape.lens&&(~~~(cc<=3)&&(r.shape.kind !=0||cc==0)))));by_cases O:b<REGS;{let d:b<256:=O;rw[aae O,kX];by_cases l:cc<=3;{rw[aaa @o_,aae l,kX];cases t:r.shape.lens with|nil=>rw[aab<|.inl ()];rfl|cons y m=>cases u:pF a (y::m)with|false=>rw[aab<|.inr ()];rfl|true=>rw[aaa @s_];change (cc==0||!(r.shape.kind==0))=(!(r.shape.kind==0)||cc==0);show Bool.or_comm _ _};rw[aab @o_,aac l,jj,fY,fY]};let d:¬b<256:=O;rw[aab @o_,aac O,jj]
|16,_=>show am<|on @k_ ?_;change (if U p.results<=aux\/256<=a then ag else(p.results.getD aux [[0,[]],0]).shape.lens.length==0)=(~~~(a<REGS)&&match p.results[aux]? with|some r=>r.shape.lens==[]|none=>ag);cases c:p.results[aux]? with|none=>rw[aab<|.inl<|vt.mp c,fY]|some r=>let g:=(el.mp c).1;rw[wX c];by_cases O:a<REGS;{let d:a<256:=O;rw[aae O,kX,aaa @o_];change (U r.shape.lens==0)=(r.shape.lens==[]);cases r.shape.lens<;>rfl};let d:¬a<256:=O;rw[aab @o_,aac O,jj]
|17,_=>show am (qC<|by decide+kernel)|18,_=>show am (qC<|by decide+kernel)
|19,_=>show am (qC<|by decide+kernel)|20,_=>show am (qC<|by decide+kernel)
|21,_=>show am (qC<|by decide+kernel)|22,_=>show(fY _).symm
|23,_=>show(fY _).symm|24,_=>show(fY _).symm
|25,_=>show(fY _).symm|n+29,_=>show(fY _).symm}
abbrev bP(l:List Op)(i:Nat):Option Nat:=(a0 l i).head?
def nu(l:List Op)(i:Nat):Bool:=((l.getD i noOp).op==0)==(i+1==U l)
def sH(l:List Op)(i:Nat):Bool:=if(l.getD i noOp).to<=i\/U l<=(l.getD i noOp).to then ag else bP l (l.getD i noOp).to==bP l i
def xA(l:List Op)(i:Nat):Bool:=match bP l i with|none=>Y|some h=>U ((dX l l.length h).filter λk=>~~~(i<k)&&~~~(k<(l.getD i noOp).to))==0
def qy(l:List Op)(i:Nat):Bool:= ~~~(U (a0 l i)<=15)&&(eM l l.length i).isSome
def mainLoop(l:List Op)(i:Nat):Bool:=qy l i&&((l.getD i noOp).to==(eM l l.length i).getD 0+1&&~~~((l.getD i noOp).imm<=1048576))
def qo(l:List Op)(i:Nat):Bool:=(bP l i).isSome&&(l.getD i noOp).to==(bP l i).getD 0+1
def xp(l:List Op)(i:Nat):Bool:=qo l i&&((l.getD i noOp).dst==(l.getD ((bP l i).getD 0) noOp).dst&&(l.getD i noOp).imm==(l.getD ((bP l i).getD 0) noOp).imm)
def uP(l:List Op)(i:Nat):Bool:=match bP l i with|none=>ag|some h=>(eM l l.length h).isSome&&(~~~((l.getD i noOp).imm<=1048576)&&(l.getD i noOp).to==(eM l l.length h).getD 0+1)
def qF(c:Code)(o:Op):List Nat:=if o.op=22 then((c.calls.getD o.imm [ag,0,0,0,0,[],[]]).results.filter λ(h:c5)=>h.number).map λ(h:c5)=>h.i
 else if(o.op=21\/o.op=25)\/(((eu o.op).getD<|(jx o.op).getD []).contains "dst")=ag then[]else if o.op=24/\o.aux=1 then[]else#[o.dst]
def xK(c:Code)(i:Nat):Bool:=!(qF c<|c.main.getD i noOp).any λp=>((a0 c.main i).map λh=>(c.main.getD h noOp).dst).contains p
def qz(c:Code)(i:Nat):Bool:=let o:=(c.main.getD i noOp).op
 if nu c.main i=ag\/xK c i=ag then ag else if o=19 then mainLoop c.main i else if o=21 then xp c.main i else if o=18 then sH c.main i else Y
def ju(l:List Op)(i:Nat):Bool:=let o:=(l.getD i noOp).op
 if nu l i=ag then ag else if o=19 then qy l i&&U (dX l l.length i)==1 else if o=21 then qo l i else if o=20 then uP l i else if o=18 then sH l i&&xA l i else Y
def Sd:bP l a=bP l b<->a0 l a=a0 l b:=by{
constructor
.intro h;cases d:a0 l a with
 |nil=>cases c:a0 l b with|nil=>rfl|cons y t=>simp only[bP,d,c]at h;cases h
 |cons x s=>cases c:a0 l b with|nil=>simp only[bP,d,c]at h;cases h|cons y t=>simp only[bP,d,c,W6,Option.some.injEq]at h;subst h;rw[<-Ie d,<-Ie c]
intro h;simp only[bP,h]}
def Qd(c:i<U l):sH l i=skipOk Y l i:=by unfold sH skipOk;dsimp only;by_cases b:i<(l.getD i noOp).to;{by_cases a:(l.getD i noOp).to<U l;{rw[aaa @o_];let d:=jB l i c;let e:=jB l _ a;rw[<-d,<-e,cb];simp only[aaF,Sd,b,a,decide_true,kX,B9,iW]};rw[aab @o_,aac a];simp only[jj,fY]};rw[aab @o_,aac b];simp only[jj]
def akp(g:i<U l):(sH l i&&xA l i)=skipOk ag l i:=by let n:=Qd g;rw[n];unfold skipOk;dsimp only;by_cases j:i<(l.getD i noOp).to;{by_cases m:(l.getD i noOp).to<U l;{simp only[j,m,decide_true,kX,B9,iW,B8];congr 1;let o:=jB l i g;unfold xA;rw[<-o];generalize p:(l.getD i noOp).to=to;cases q:a0 l i with|nil=>simp only[bP,q,List.head?_nil];symm;rw[iX,pR];intro k a;let w:=jB l k<|gk.mp a;simp only[a6,not_and];intro _ _ _ r b;let:loopsAt l k=[]:=(r:);rw[this]at b;simp at b|cons h t=>(simp only[bP,q,W6];rw[cb];simp only[aaF,iG,WT,iX,pR,dX,qX,gk,a6,aaK,not_and,mh];let key:∀k,k<U l->(((a0 l k).head?=B h)<->(loopsAt l k=h::t/\(loopsAt l k !=[])=Y)):=λk a=>by rw[<-jB l k a];constructor;{intro z;let b:bP l k=bP l i:=(by change (a0 l k).head?=(a0 l i).head?;rw[z,q];rfl);rw[Sd]at b;rw[b,q];simp};rintro⟨z,_⟩;rw[z];rfl);constructor;{intro z k a c d e f s;show z k [a,e,(key k a).mpr [f,s]] c d};rintro z k ⟨a,e,f⟩ c d;let[u,v]:=(key k a).mp f;show z k a c d e u v};simp only[aac m,jj,fY]};simp only[aac j,jj]
def back_eq(a:i<U l):qo l i=backOk ag l i:=by unfold qo backOk bP;rw[jB l i a];cases(loopsAt l i).head?<;>simp
def af0(a:i<U l):xp l i=backOk Y l i:=by unfold xp qo backOk bP;rw[jB l i a];cases(loopsAt l i).head?<;>simp
def aj4(a:i<U l):uP l i=roundOk l i:=by unfold uP roundOk bP;rw[jB l i a];cases(loopsAt l i).head? with|none=>rfl|some h=>dsimp only;rw[DH];cases eM l l.length h with|none=>simp|some j=>rw[cb];simp[yM];intro _;constructor<;>intro z<;>lia
def K_(n:Nat): ~~~(n<=15)= ~~~(n<DEEP):=aaP.mpr<|by unfold DEEP;lia
def af2(a:i<U l):mainLoop l i=loopOk Y l i:=by unfold mainLoop qy loopOk;rw[jB l i a,DH,K_];cases eM l l.length i with|none=>simp|some j=>simp[yM]
def Ze(a:i<U l):(qy l i&&U (dX l l.length i)==1)=loopOk ag l i:=by unfold qy loopOk;rw[jB l i a,DH,PL,K_];cases eM l l.length i with|none=>simp|some j=>simp
def Zd(a:i<U l):ju l i=flowOk ag l i:=by unfold ju flowOk nu;dsimp only;cases((l.getD i noOp).op==0)==(i+1==U l)with|false=>simp|true=>simp only[WM,abG,kX];rw[Ze a,back_eq a,aj4 a,akp a]
def ug(o:Op):Prop:=(eu o.op).isSome=Y\/(jx o.op).isSome=Y
def Ot(h:eS c o=Y):ug o:=by unfold eS at h;unfold ug;cases q:eu o.op with|some f=>show .inl ()|none=>cases q2:jx o.op with|some f=>show .inr ()|none=>rw[q,q2]at h;cases h
def ajg(h:ug o):qF c o=putsOf c o:=by{
let[d,kind,mask,aux,dst,a,b,e,f,imm,g,z]:=o;rcases d with _|_|_|_|_|_|_|_|_|_|_|_|_|_|_|_|_|_|_|_|_|_|_|_|_|_|_|_|_|n<;>first
 |rfl
 |(rcases h with h|h<;>cases h;done)
 |(show(if 24=24/\aux=1 then[]else#[dst])=if(!(Y&&aux==1))=Y then#[dst]else[]
   by_cases hx:aux=1
   .subst hx;rfl
   .rw[aaa λy=>hx y.2,aaR.mpr hx];rfl)}
def agE(h:ug o):o.op≠20:=by intro e;unfold ug at h;rw[e]at h;rcases h with h|h<;>cases h
def af1(a:i<U c.main)(h:ug<|c.main.getD i noOp):qz c i=(flowOk Y c.main i&&mainPuts c i):=by unfold qz flowOk nu;dsimp only;let b:=agE h;let d:xK c i=mainPuts c i:=(by unfold xK mainPuts;rw[jB c.main i a,ajg h,cb];simp only[iX,pR,cq,List.contains_eq_mem,c4,aaK,not_exists,not_and,aaS];constructor;{intro z x hx m;show z _ m x hx ()};intro z p f x hx e;show z x hx (by rw[e];show f));rw[d,aaa b];cases((c.main.getD i noOp).op==0)==(i+1==U c.main)with|false=>simp|true=>cases mainPuts c i with|false=>simp|true=>simp only[WM,or_self,abG,kX,iW];rw[af2 a,af0 a,Qd a]
def kl:List Nat->Nat|[]=>0|c::s=>c+256*kl s
def Nw:∀(l:List Nat)(c:Nat),kl (l++#[c])=kl l+c*256^U l|[],c=>by simp[kl]|a::l,c=>by rw[vo];unfold kl;rw[Nw l c,bR,CB,Nat.mul_add,abZ];congr 1;congr 1;rw[yZ (256^U l) 256,<-Jv,<-Jv,yZ 256 c]
def AS:∀(w:Nat)(s:Bytes),numR w s=if U s<w then Z else B (kl<|(s.take w).map fz,s.drop w)
|0,s=>by simp[numR,kl]|w+1,[]=>by simp[numR]
|w+1,c::s=>by unfold numR;rw[AS w s];by_cases h:U s<w;{rw[aab h,aab<|by simp;omega];rfl};rw[aaa h,aaa<|by simp;omega];simp[kl]
def NH:∀(w n:Nat),low (w+1) n=low w n++#[eB<|n/256^w % 256]|0,n=>by simp[low]|w+1,n=>by rw[low,NH w<|n/256];rw[low,vo,Xr,CB,yZ 256]
def Fj:∀w n:Nat,U (low w n)=w|0,_=>rfl|w+1,n=>by rw[low,bR,Fj w]
def Nv:∀l:List Nat,(∀c∈l,c<256)->kl l<256^U l|[],_=>by simp[kl]|c::l,h=>by let a:=h c @s_;let b:=Nv l λx hx=>h x (by simp[hx]);unfold kl;rw[bR,CB];lia
def VX:∀(n:Nat)(s:Bytes),takeR n s=(timesR (numR 1) n s).map λx=>(x.1.map eB,x.2)
|0,s=>by simp[takeR,timesR]|n+1,[]=>by simp[takeR,timesR,numR]
|n+1,c::s=>by let a:=VX n s;unfold takeR at a⊢;simp only[timesR,numR,k7];by_cases h:U s<n;{rw[aab h]at a;rw[aab @m_];cases e:timesR (numR 1) n s with|none=>rfl|some x=>rw[e]at a;simp[k7]at a};rw[aaa h]at a;rw[aaa @m_];cases e:timesR (numR 1) n s with|none=>rw[e]at a;simp[k7]at a|some x=>rw[e]at a;simp[k7]at a;simp[a.1,a.2]
def gN(c:UInt8):Bool:= ~~~(48<=c)&&~~~(c<=57)
def val(w:Bytes):Nat:=w.foldl (λ(s:Nat) (c:UInt8)=>10*s+(c.toNat-48)) 0
def Wh(w:Bytes)(c:UInt8):val (w++#[c])=10*val w+(c.toNat-48):=by unfold val;rw[WW];rfl
def Eh:∀d:Nat,d<10->eB (Nat.digitChar d).toNat=eB (48+d):=by decide
def dec_lt(h:n<10):decimal n=#[eB<|48+n]:=by unfold decimal ascii;rw[show toString n=n.repr from(),CC,C8,Nat.toDigits_of_lt_base h];simp[Eh n h]
def Eg(h:10<=n):decimal n=decimal (n/10)++#[eB<|48+n % 10]:=by unfold decimal ascii;rw[show toString n=n.repr from(),show toString (n/10)=(n/10).repr from(),CC,CC,C8,C8,Nat.toDigits_of_base_le @o_ h];simp[Eh (n % 10) @o_]
def aax(n:Nat):decimal n≠[]:=by by_cases h:n<10;{rw[dec_lt h];simp};rw[Eg @o_];simp
def zV(h:gN c=Y):48<=c.toNat/\c.toNat<=57:=by unfold gN at h;rw[a6,aaQ,aaQ]at h;show [Kg.mp h.1,Kg.mp h.2]
def Of(h:gN c=Y):eB (48+(c.toNat-48))=c:=by let:=zV h;rw[show 48+(c.toNat-48)=c.toNat by omega];show zk
theorem snoc_ind{α:Type}{P:List α->Prop}(b:P [])(c:∀l a,P l->P (l++#[a]))(l:List α):P l:=by(let:∀r:List α,P r.reverse:=λr=>by induction r with|nil=>show b|cons a r d=>rw[Jf];show c _ _ d);rw[<-List.reverse_reverse l];show this _
theorem alp(w:Bytes):∀(c:UInt8)(r:Bytes),w=c::r->gN c=Y->c≠48->0<val w:=by show snoc_ind (P:=λw=>∀(c:UInt8)(r:Bytes),w=c::r->gN c=Y->c≠48->0<val w) (λc r e=>by cases e) (λl a h c r e d f=>?_) w;rw[Wh];cases l with|nil=>cases e;let:=zV d;let:a.toNat≠48:=λz=>f<|tP.mp (by rw[z];rfl);lia|cons b l=>(rw[vo]at e;injection e with g i);let:=h b l () (by rw[g];show d) (by rw[g];show f);lia
theorem aay(w:Bytes):w≠[]->w.all gN=Y->(w.head?≠B 48\/U w=1)->decimal (val w)=w:=by show snoc_ind (P:=λw=>w≠[]->w.all gN=Y->(w.head?≠B 48\/U w=1)->decimal (val w)=w) (λh=>absurd () h) (λl a f _ c g=>?_) w;rw[List.all_append,a6]at c;let d:gN a=Y:=(c.2:);let i:=zV d;rw[Wh];cases l with|nil=>rw[show val []=0 from(),dec_lt @O_,Nat.mul_zero,vJ,Of d];rfl|cons b l=>(let O:b≠48:=λz=>by(rcases g with h|h);{show h (by rw[z];rfl)};simp at h);let e:gN b=Y:=(cq.mp c.1) b @s_;let j:=alp (b::l) b l () e O;rw[Eg @O_,show(10*val (b::l)+(a.toNat-48))/10=val (b::l)by omega,show(10*val (b::l)+(a.toNat-48)) % 10=a.toNat-48 by omega,f @s_ c.1<|.inl λz=>O (z:),Of d]
def aaw(n:Nat):(decimal n).head?=B 48->n=0:=by induction n using Nat.strongRecOn with|_ n a=>intro h;by_cases c:n<10;{rw[dec_lt c]at h;let:eB (48+n)=48:=(h:);let:=aad fz this;rw[rn]at this;let e:(48:UInt8).toNat=48:=();lia};rw[Eg @o_]at h;let:(decimal<|n/10).head?=B 48:=(by cases e:decimal (n/10)with|nil=>show absurd e (aax _)|cons b l=>rw[e]at h;show h);let:=a (n/10) @o_ this;lia
def pNum(most:Nat)(w:Bytes):Option Nat:=if U w=0\/w.all gN=ag\/20<U w then Z else if w.head?=B 48/\1<U w then Z else if most<val w then Z else B<|val w
def FV(most:Nat)(w:Bytes):pNum most w=numOf most w:=by{
unfold pNum numOf;by_cases h:U w=0\/w.all gN=ag\/20<U w
.let d:U w=0\/20<U w\/(w.all λ(c:UInt8)=>~~~(48<=c)&&~~~(c<=57))=ag:=by{
rcases h with h|h|h
.show .inl h
.show .inr<|.inr h
show .inr<|.inl h};rw[aab h,aab d]
let d:¬(U w=0\/20<U w\/(w.all λ(c:UInt8)=>~~~(48<=c)&&~~~(c<=57))=ag):=λz=>h (by
rcases z with z|z|z
.show .inl z
.show .inr<|.inr z
show .inr<|.inl z)
rw[aaa h,aaa d];let g:w.all gN=Y:=by cases e:w.all gN with|true=>rfl|false=>show absurd (.inr<|.inl e) h
let f:w≠[]:=λz=>h<|.inl<|by rw[z];rfl
change _=(if most<val w\/decimal (val w)≠w then Z else B<|val w);by_cases a:w.head?=B 48/\1<U w
.let:decimal (val w)≠w:=λz=>by let i:=aaw (val w) (by rw[z];show a.1);rw[i,dec_lt @o_]at z;let:=a.2;rw[<-z]at this;simp at this
 rw[aab a,aab<|.inr this]
rw[aaa a];let e:decimal (val w)=w:=aay w f g (by by_cases z:w.head?=B 48;{let:¬1<U w:=λy=>a [z,y];let:U w≠0:=λy=>h<|.inl y;show .inr @o_};show .inl z);by_cases b:most<val w;{rw[aab b,aab<|.inl b]};rw[aaa b,aaa<|by rw[e];simp[b]]}
def kf{α:Type}:List α->List (α×α)|a::b::r=>(a,b)::kf r|_=>[]
def K1{α:Type}:∀l:List α,U (kf l)=U l/2
|[]=>by simp[kf]| #[_]=>by simp[kf]
|a::b::r=>by rw[kf,bR,K1 r,bR,bR];lia
def K0{α:Type}:∀(l:List α)(i:Nat)(x y:α),l[2*i]?=B x->l[2*i+1]?=B y->(kf l)[i]?=B (x,y)
|[],i,x,y,h,_=>by simp at h| #[_],i,x,y,_,h=>by simp at h
|a::b::r,0,x,y,c,d=>by simp at c d;subst c d;rfl|a::b::r,i+1,x,y,c,d=>by rw[kf,WZ];show K0 r i x y ?_ ?_;{rw[show 2*(i+1)=2*i+1+1 by lia]at c;simpa using c};rw[show 2*(i+1)+1=2*i+1+1+1 by lia]at d;simpa using d
def qw(x:Bytes×Bytes):Option c5:=match numOf 65535 x.2 with|none=>Z|some i=>if x.1=#[115]then B [ag,i]else if x.1=#[110]then B [Y,i]else Z
def NL{α c:Type}(f:α->Option c)(a:α)(l:List α):(a::l).mapM f=(f a).bind λb=>(l.mapM f).map λbs=>b::bs:=by rw[W9];cases f a with|none=>rfl|some b=>change ((l.mapM f).bind λbs=>B<|b::bs)=(l.mapM f).map _;cases l.mapM f<;>rfl
def EM:∀l:List Bytes,holdsOf l=if U l % 2=0 then(kf l).mapM qw else Z
|[]=>rfl| #[_]=>rfl
|a::b::r=>by{
let g:=EM r;rw[holdsOf,kf,NL,g,bR,bR];let e:(U r+1+1) % 2=U r % 2:=by lia
rw[e];unfold qw;let j:(#[110]:Bytes)≠ #[115]:=by decide
cases O:numOf 65535 b with|none=>simp|some i=>by_cases h:U r % 2=0;{rw[aab h,aab h];cases c:(kf r).mapM qw with|none=>unfold qw at c;simp[c]|some l=>unfold qw at c;by_cases d:a=#[115];{subst d;simp[c]};by_cases f:a=#[110];{subst f;simp[c]};simp[d,f]};rw[aaa h,aaa h];simp}
def nB(x:UInt8×UInt8):Option UInt8:=match hexDigit x.1,hexDigit x.2 with|some a,B b=>B (eB<|16*a+b)|_,_=>Z
def Iy:∀w:Bytes,unhex w=if U w % 2=0 then(kf w).mapM nB else Z
|[]=>rfl| #[_]=>rfl
|a::b::r=>by let f:=Iy r;rw[unhex,kf,NL,f,bR,bR];let e:(U r+1+1) % 2=U r % 2:=@o_;rw[e];cases d:hexDigit a with|none=>let c:nB (a,b)=Z:=(by simp[nB,d]);rw[c];simp|some x=>cases O:hexDigit b with|none=>let c:nB (a,b)=Z:=(by simp[nB,d,O]);rw[c];simp|some y=>let c:nB (a,b)=B (eB<|16*x+y):=(by simp[nB,d,O]);rw[c];by_cases h:U r % 2=0;{rw[aab h,aab h];cases g:(kf r).mapM nB with|none=>rfl|some l=>rfl};rw[aaa h,aaa h]
structure ng (o:Op):Prop where
 op:o.op<256
 kind:o.kind<256
 mask:o.mask<256
 aux:o.aux<256
 dst:o.dst<65536
 a:o.a<65536
 b:o.b<65536
 c:o.c<65536
 where_:o.where_<4294967296
 imm:o.imm<18446744073709551616
 to:o.to<4294967296
 zero:o.zero<4294967296
structure qk (s:Shape):Prop where
 kind:s.kind<256
 len:U s.lens<=4
 lens:∀n∈s.lens,n<4294967296
structure wd (r:Result):Prop where
 shape:qk r.shape
 join:r.join<256
structure NHead (p:Piece):Prop where
 wt:U p.axes<=4
 axes:∀n∈p.axes,n<4294967296
 inl:U p.inputs<=8
 inputs:∀s∈p.inputs,qk s
 rel:U p.results<=8
 results:∀s∈p.results,wd s
 place:p.place<4294967296
structure tR (p:Piece):Prop extends NHead p where
 body:∀o∈p.body,ng o
structure m9 (c:Call):Prop where
 which:c.which<256
 kind:c.kind<256
 u:c.u<18446744073709551616
 v:c.v<18446744073709551616
 qD:U c.operands<=8
 operands:∀h∈c.operands,h.i<65536
 rel:U c.results<=8
 results:∀h∈c.results,h.i<65536
structure eK (c:Code):Prop where
 sl:U c.slots<=256
 slots:∀s∈c.slots,qk s
 data:c.data<4294967296
 nl:U c.names<=256
 names:∀b∈c.names,U b<=255
 pl:U c.pieces<=256
 pieces:∀p∈c.pieces,tR p
 cl:U c.calls<=4096
 calls:∀x∈c.calls,m9 x
 main:∀o∈c.main,ng o
 ops:U c.main+(c.pieces.map λ(p:Piece)=>U p.body).sum<=65536
def f9(h:numR w s=B (n,r)):n<256^w:=by{
rw[AS]at h;by_cases z:U s<w;{rw[aab z]at h;cases h};rw[aaa z]at h;injection h with h
injection h with a d
subst a;let:=Nv ((s.take w).map fz) λc b=>by let[x,_,rfl]:=c4.mp b;show x.toNat_lt
rw[aP,gj,CA @o_]at this;show this}
def gz(h:upR w m s=B (n,r)):n<=m:=by unfold upR at h;cases e:numR w s with|none=>rw[e]at h;cases h|some x=>let[a,b]:=x;rw[e]at h;dsimp only at h;by_cases z:m<a;{rw[aab z]at h;cases h};rw[aaa z]at h;injection h with h;injection h with c d;lia
theorem kU{α:Type}{f:R α}{P:α->Prop}(b:∀s x r,f s=B (x,r)->P x):∀(n:Nat){s:Bytes}{l:List α}{r:Bytes},timesR f n s=B (l,r)->U l=n/\∀x∈l,P x|0,s,l,r,h=>by cases h;show [(),λ_ h=>by cases h]|n+1,s,l,r,h=>by{
rw[timesR]at h;cases e:f s with|none=>rw[e]at h;cases h|some y=>
let[y,r1]:=y;rw[e]at h;dsimp only at h;cases a:timesR f n r1 with|none=>rw[a]at h;cases h|some z=>
let[z,r2]:=z;rw[a]at h;injection h with h
injection h with c i
subst c;let[d,g]:=kU b n a;show [by rw[bR,d],λx hx=>?_];rcases bh.mp hx with rfl|hx
.show b _ _ _ e
show g x hx}
theorem Aw{α:Type}{f:R α}{P:α->Prop}(a:∀s x r,f s=B (x,r)->P x){w m:Nat}{s:Bytes}{l:List α}{r:Bytes}(h:manyR f w m s=B (l,r)):U l<=m/\∀x∈l,P x:=by unfold manyR at h;cases e:upR w m s with|none=>rw[e]at h;cases h|some y=>let[n,r1]:=y;rw[e]at h;let[b,c]:=kU a n h;show [by rw[b];show gz e,c]
def gO(h:numR 4 s=B (x,r)):x<4294967296:=f9 h
def Hb(s:Bytes)(x:Shape)(r:Bytes)(h:shapeR s=B (x,r)):qk x:=by(simp only[shapeR,bind,jk,Prod.exists,pure]at h;let[k,r1,d,l,r2,e,c]:=h;injection c with c;injection c with c f;subst c);let[a,b]:=Aw (λ_ _ _=>gO) e;show [f9 d,a,b]
def aj3(s:Bytes)(x:Result)(r:Bytes)(h:resultR s=B (x,r)):wd x:=by(simp only[resultR,bind,jk,Prod.exists,pure]at h;let[k,r1,b,l,r2,c,a]:=h;injection a with a;injection a with a d;subst a);show [Hb _ _ _ b,f9 c]
def Mt(s:Bytes)(x:c5)(r:Bytes)(h:holdR s=B (x,r)):x.i<65536:=by(simp only[holdR,bind,jk,Prod.exists,pure]at h;let[k,r1,c,l,r2,b,a]:=h;injection a with a;injection a with a d;subst a);show f9 b
def Oj(s:Bytes)(x:Op)(r:Bytes)(h:opR s=B (x,r)):ng x:=by(simp only[opR,bind,jk,Prod.exists,pure]at h;let[z,r1,e,A,r2,f,C,r3,g,E,r4,i,F,r5,j,G,r6,l,H,r7,m,I,r8,n,J,r9,o,p,q,b,t,u,c,v,w,d,a]:=h;injection a with a;injection a with a y;subst a);show [f9 e,f9 f,f9 g,f9 i,f9 j,f9 l,f9 m,f9 n,f9 o,f9 b,f9 c,f9 d]
theorem Zq(s:Bytes)(x:Call)(r:Bytes)(h:callR s=B (x,r)):m9 x:=by(simp only[callR,bind,jk,Prod.exists,pure]at h;let[q,r1,t,u,r2,b,v,r3,c,w,r4,d,y,r5,e,z,r6,f,A,r7,g,i,r8,j,l,r9,m,a]:=h;injection a with a;injection a with a n;subst a);let[o,p]:=kU Mt _ j;let[q1,q2]:=kU Mt _ m;show [f9 b,f9 c,f9 f,f9 g,by change U i<=8;rw[o];show gz d,p,by change U l<=8;rw[q1];show gz e,q2]
def ab4(s:Bytes)(x:Piece×Nat)(r:Bytes)(h:headR s=B (x,r)):NHead x.1:=by(simp only[headR,bind,jk,Prod.exists,pure]at h;let[m,r1,b,n,r2,c,o,r3,d,p,r4,e,q,r5,t,u,r6,v,a]:=h;injection a with a;injection a with a f;subst a);let[g,i]:=Aw (λ_ _ _=>gO) b;let[q1,q2]:=Aw Hb c;let[j,l]:=Aw aj3 d;show [g,i,q1,q2,j,l,f9 e]
theorem KH:∀{l:List<|Piece×Nat}{s:Bytes}{ps:List Piece}{r:Bytes},(∀x∈l,NHead x.1)->bodiesR l s=B (ps,r)->U ps=U l/\(∀p∈ps,tR p)/\(ps.map λ(p:Piece)=>U p.body).sum=(l.map λ(h:Piece×Nat)=>h.2).foldr (λ(a b:Nat)=>a+b) 0|[],s,ps,r,_,h=>by cases h;show [(),(λ_ h=>by cases h),()]|(p,n)::l,s,ps,r,f,h=>by{
rw[bodiesR]at h;cases e:timesR opR n s with|none=>rw[e]at h;cases h|some y=>
let[b,r1]:=y;rw[e]at h;dsimp only at h;cases d:bodiesR l r1 with|none=>rw[d]at h;cases h|some z=>
let[u,r2]:=z;rw[d]at h;injection h with h
injection h with g v
subst g;let[i,j,m]:=KH (λx hx=>f x<|by simp[hx]) d;let[o,t]:=kU Oj n e;let c:=f (p,n) @s_;show [by rw[bR,bR,i],λq hq=>?_,?_]
.rcases bh.mp hq with rfl|hq
 {show{wt:=c.wt,axes:=c.axes,inl:=c.inl,inputs:=c.inputs,rel:=c.rel,results:=c.results,place:=c.place,body:=t}};show j q hq
rw[cC,oh,m,cC,tj];change U b+_=_;rw[o]}
def agv(s:Bytes)(x:Bytes)(r:Bytes)(h:nameR s=B (x,r)):U x<=255:=by simp only[nameR,bind,jk,Prod.exists]at h;let[n,r1,b,a]:=h;unfold takeR at a;by_cases z:U r1<n;{rw[aab z]at a;cases a};(rw[aaa z]at a;injection a with a;injection a with a c;subst a);let:=f9 b;rw[gj];lia
theorem FK(h:ofBytes b=B c):eK c:=by{
unfold ofBytes at h;let n:∃r,codeR b=B (c,r):=by cases e:codeR b with|none=>rw[e]at h;cases h|some x=>let[Q,r]:=x;rw[e]at h;cases r with|nil=>cases h;show [_,()]|cons _ _=>cases h
let[r,h]:=n;simp only[codeR,bind,jk,Prod.exists,pure]at h;let[m,r0,T,h]:=h;split at h;{cases h};simp only[jk,Prod.exists]at h;let[W,r1,o,d,r2,p,nn,r3,q,X,r4,s,nc,r5,t,nm,r6,h6,slots,r7,u,f,r8,v,heads,r9,w,calls,y,i,h]:=h;split at h;{cases h};rename_i g;simp only[jk,Prod.exists]at h;let[main,z,j,pieces,A,l,a]:=h;injection a with a;injection a with a C;subst a
let[s1,E]:=kU Hb _ u;let[n1,F]:=kU agv _ v;let[e1,G]:=kU ab4 _ w;let[c1,H]:=kU Zq _ i;let[I,J]:=kU Oj _ j;let[p1,M,P]:=KH G l;let u1:=gz o;let u3:=gz q;let u4:=gz s;let u5:=gz t;unfold SLOTS at u1;unfold NAMES at u3;unfold PIECES at u4;unfold CALLS at u5;unfold OPS at g;show [by change U slots<=256;lia,E,gO p,by change U f<=256;lia,F,by change U pieces<=256;lia,M,by change U calls<=4096;lia,H,J,by change U main+_<=65536;rw[P,I];lia]}
def jP(h:numOf m w=B n):n<=m:=by unfold numOf at h;split at h;{cases h};dsimp only at h;split at h;{cases h};(rename_i z;injection h with h);subst h;lia
theorem mn{α c:Type}{f:α->Option c}{P:c->Prop}(g:∀a b,f a=B b->P b):∀{l:List α}{r:List c},l.mapM f=B r->U r=U l/\∀b∈r,P b|[],r,h=>by let:r=[]:=(h.symm:);subst this;show [(),λ_ h=>by cases h]|a::l,r,h=>by{
rw[mapM_cons]at h;cases e:f a with|none=>rw[e]at h;cases h|some b=>
rw[e]at h;cases d:l.mapM f with|none=>rw[d]at h;cases h|some bs=>
rw[d]at h;injection h with h
subst h;let[i,j]:=mn g d;show [by rw[bR,bR,i],λx hx=>?_];rcases bh.mp hx with rfl|hx
.show g _ _ e
show j x hx}
def wo(h:n<=any 4):n<4294967296:=by unfold any at h;lia
def Dv(h:n<=any 8):n<18446744073709551616:=by unfold any at h;lia
theorem G_(l:List Bytes)(s:Shape)(h:shapeOf l=B s):qk s:=by unfold shapeOf at h;split at h;{cases h};split at h;{cases h};rename_i z;split at h;{(rename_i c d;injection h with h);subst h;let[f,e]:=mn (P:=λn=>n<4294967296) (λa b O=>wo<|jP O) d;let:=jP c;unfold kx at z;show [by dsimp only;lia,by dsimp only;lia,e]};cases h
def aj1(l:List Bytes)(s:Result)(h:resultOf l=B s):wd s:=by unfold resultOf at h;split at h;{split at h;{(rename_i a b;injection h with h);subst h;let:=jP a;show [G_ _ _ b,by dsimp only;lia]};cases h};cases h
theorem ahd(x:Line)(o:Op)(h:opOf x=B o):ng o:=by let[_,_,_,_,_,_,_,_,_,_,_,_,_,_,_,_,_,_,_,_,_,f,_,g,i,j,l,rfl]:=AZ h;let[_,d]:=mn (P:=λn=>n<256) (λa b O=>by let:=jP O;lia) g;let[_,c]:=mn (P:=λn=>n<65536) (λa b O=>by let:=jP O;lia) i;let[_,e]:=mn (P:=λn=>n<4294967296) (λa b O=>wo<|jP O) j;let m:=Dv<|jP l;let[z,p,r]:=Ad f;let s:=(el.mp p).1;let q:U (opNames.map ascii)=29:=@d_;show [by dsimp only;lia,d _ @s_,d _ @s_,d _ @s_,c _ @s_,c _ @s_,c _ @s_,c _ @s_,e _ @s_,m,e _ @s_,by change 0<_;lia]
def EO:∀(n:Nat){l:List Bytes}{s:List c5},U l<=n->holdsOf l=B s->2*U s=U l/\∀h∈s,h.i<65536
|_,[],s,_,h=>by cases h;show [(),λ_ h=>by cases h]|_,#[_],s,_,h=>by cases h
|0,_::_::_,_,c,_=>by simp at c|n+1,a::b::r,s,c,h=>by rw[holdsOf]at h;split at h;{split at h;{(rename_i d e;injection h with h);(subst h;let[g,f]:=EO n (by simp at c;lia) e;let:=jP d;show [by simp;lia,λx hx=>?_];rcases bh.mp hx with rfl|hx);{dsimp only;lia};show f x hx};cases h};cases h
def Zo(l:List Bytes)(c:Call)(h:callOf l=B c):m9 c:=by unfold callOf at h;split at h;{split at h;{rename_i j a b d e;dsimp only at h;split at h;{cases h};rename_i z;split at h;{(rename_i f g;injection h with h);subst h;let[m,i]:=EO _ (bD _) f;let[q1,q2]:=EO _ (bD _) g;let n:=jP a;let o:=jP b;show [by dsimp only;lia,by dsimp only;lia,Dv<|jP d,Dv<|jP e,by dsimp only;lia,i,by dsimp only;lia,q2]};cases h};cases h};cases h
def Ey:∀(l:List Line),∀o∈(frontOps l).1,ng o|[],o,h=>by cases h|x::l,o,h=>by rw[frontOps]at h;split at h;{(rename_i a e;rcases bh.mp h with rfl|h);{show ahd _ _ e};show Ey l o h};cases h
theorem OB:∀(n:Nat)(l:List Line)(ps:List Piece),piecesOf n l=B ps->∀p∈ps,tR p
|n,[],ps,h,p,hp=>by unfold piecesOf at h;cases h;cases hp|0,_::_,ps,h,p,hp=>by unfold piecesOf at h;cases h
|n+1,x::l,ps,h,p,hp=>by unfold piecesOf at h;split at h;{split at h;{cases h};rename_i z;split at h;{rename_i c o d;dsimp only at h;split at h;{cases h};rename_i y;split at h;{(rename_i e f g;injection h with h);(subst h;rcases bh.mp hp with rfl|hp);{let[q,i]:=mn (P:=λn=>n<4294967296) (λa b O=>wo<|jP O) d;let[r,j]:=mn G_ e;let[s,m]:=mn aj1 f;unfold kx at z;show{wt:=(by dsimp only;lia),axes:=i,inl:=(by dsimp only;lia),inputs:=j,rel:=(by dsimp only;lia),results:=m,place:=wo<|jP c,body:=Ey _}};show OB n _ _ g p hp};cases h};cases h};cases h
def Wa:∀(n:Nat){w r:Bytes},U w<=n->unhex w=B r->2*U r=U w
|_,[],r,_,h=>by cases h;rfl|_,#[_],r,_,h=>by cases h
|0,_::_::_,_,c,_=>by simp at c|n+1,a::b::w,r,c,h=>by rw[unhex]at h;split at h;{(rename_i e f d;injection h with h);subst h;let:=Wa n (by simp at c;lia) d;simp;lia};cases h
theorem Og(h:ofText t=B c):eK c:=by unfold ofText at h;split at h;{split at h;{cases h};split at h;{dsimp only at h;split at h;{split at h;{cases h};split at h;{rename_i d e f g i;split at h;{(rename_i j;injection h with h);subst h;let a:=j;unfold Code.few SLOTS NAMES PIECES CALLS OPS at a;simp only[a6,aaQ]at a;let[u1,u2,u3,u4,u5]:=a;rw[FQ]at u5;let[o,l]:=mn G_ e;let[p,m]:=mn Zo g;let[q,n]:=mn (P:=λ(b:Bytes)=>U b<=255) (λx b O=>by split at O;{split at O;{cases O};let:=Wa _ (bD _) O;lia};cases O) f;show [u1,l,wo<|jP d,u2,n,u3,OB _ _ _ i,u4,m,Ey _,u5]};cases h};cases h};cases h};cases h};cases h
open PyYqlnoa
def alS:∀c:List<|List Int,whole c=c
|[]=>rfl|[]::_=>rfl
|(.negSucc n::a)::l=>rfl|(.ofNat n::a)::l=>by rcases n with _|_|_|_|_|_|_|_|_|_|_|_|_|n<;>first|rfl|(rcases a with _|⟨y,_|⟨z,_|⟨w,e⟩⟩⟩<;>first|rfl|(rcases l with _|⟨b,_|⟨d,l⟩⟩<;>rfl))
def NZ:List Int:=#[0,0,0,0,1,1,2,2,1,1,0,0,0]
def PM:List Int:=#[0,1,1,0,0,0,0,0,0,0,0,0,1]
def Hc(h:shape p=B (n,k)):1<=p/\p<=12/\NZ[p.toNat]?=B (n:Int)/\PM[p.toNat]?=B (k:Int)/\(k=0\/k=1):=by by_cases f:p=1;{subst f;let h:B ((0,1):Nat×Nat)=B (n,k):=h;injection h with h;injection h with a b;subst a b;decide};by_cases g:p=2;{subst g;let h:B ((0,1):Nat×Nat)=B (n,k):=h;injection h with h;injection h with a b;subst a b;decide};by_cases i:p=3;{subst i;let h:B ((0,0):Nat×Nat)=B (n,k):=h;injection h with h;injection h with a b;subst a b;decide};by_cases j:p=4;{subst j;let h:B ((1,0):Nat×Nat)=B (n,k):=h;injection h with h;injection h with a b;subst a b;decide};by_cases l:p=5;{subst l;let h:B ((1,0):Nat×Nat)=B (n,k):=h;injection h with h;injection h with a b;subst a b;decide};by_cases m:p=6;{subst m;let h:B ((2,0):Nat×Nat)=B (n,k):=h;injection h with h;injection h with a b;subst a b;decide};by_cases o:p=7;{subst o;let h:B ((2,0):Nat×Nat)=B (n,k):=h;injection h with h;injection h with a b;subst a b;decide};by_cases q:p=8;{subst q;let h:B ((1,0):Nat×Nat)=B (n,k):=h;injection h with h;injection h with a b;subst a b;decide};by_cases r:p=9;{subst r;let h:B ((1,0):Nat×Nat)=B (n,k):=h;injection h with h;injection h with a b;subst a b;decide};by_cases c:p=10;{subst c;let h:B ((0,0):Nat×Nat)=B (n,k):=h;injection h with h;injection h with a b;subst a b;decide};by_cases d:p=11;{subst d;let h:B ((0,0):Nat×Nat)=B (n,k):=h;injection h with h;injection h with a b;subst a b;decide};by_cases e:p=12;{subst e;let h:B ((0,1):Nat×Nat)=B (n,k):=h;injection h with h;injection h with a b;subst a b;decide};unfold shape at h;rw[aaa f,aaa g,aaa i,aaa j,aaa l,aaa m,aaa o,aaa q,aaa r,aaa c,aaa d,aaa e]at h;cases h
def Pos(l:List Int)(i:Nat)(cs:List<|List<|List Int):Prop:=∃f,p7 shape f (l.drop i)=B cs
def aiU(h:Ke l=B cs):Pos l 0 cs:=by unfold Ke at h;cases e:p7 shape l.length l with|none=>rw[e]at h;cases h|some x=>rw[e]at h;let:x.map whole=cs:=(by injection h);show [l.length,?_];rw[IP,e,<-this];congr 1;rw[show(whole:List (List Int)->_)=id from funext alS,yI]
def aiS(h:Pos l i []):U l<=i:=by let[f,h]:=h;cases e:l.drop i with|nil=>show List.drop_eq_nil_iff.mp e|cons p r=>rw[e]at h;cases f with|zero=>simp[p7]at h|succ f=>rw[p7]at h;cases a:Jx shape (p::r)with|none=>rw[a]at h;cases h|some x=>rw[a]at h;let[c,t]:=x;dsimp only at h;cases b:p7 shape f t with|none=>rw[b]at h;cases h|some y=>rw[b]at h;cases h
def Gh(h:Pos l i<|c::cs):∃p n k,l[i]?=B p/\shape p=B (n,k)/\i+1+n<=U l/\(k=0->c=#[p::(l.drop<|i+1).take n]/\Pos l (i+1+n) cs)/\(k=1->∃m,l[i+1+n]?=B m/\0<=m/\i+1+n+1+m.toNat<=U l/\c=#[p::(l.drop<|i+1).take n,(l.drop<|i+1+n+1).take m.toNat]/\Pos l (i+1+n+1+m.toNat) cs):=by{
let[f,h]:=h;cases e:l.drop i with|nil=>rw[e]at h;unfold p7 at h;cases h|cons p r=>
rw[e]at h;let G:l[i]?=B p:=by let:=aad (λx=>x[0]?) e;simpa using this
let j:l.drop (i+1)=r:=by rw[<-pS,e];rfl
let hlen:U r+i+1=U l:=by let:=aad U e;rw[kY,bR]at this;omega
cases f with|zero=>simp[p7]at h|succ f=>
rw[p7]at h;cases d:Jx shape (p::r)with|none=>rw[d]at h;cases h|some x=>
rw[d]at h;let[P,t]:=x;dsimp only at h;cases o:p7 shape f t with|none=>rw[o]at h;cases h|some y=>
rw[o]at h;injection h with h
injection h with H I
subst H I;rw[Jx]at d;cases q:shape p with|none=>rw[q]at d;cases d|some J=>
let[n,k]:=J;rw[q]at d;dsimp only at d;by_cases F:U r<n;{rw[aab F]at d;cases d};rw[aaa F]at d;show [p,n,k,G,q,by omega,λu=>?_,λu=>?_]
.subst u;rw[CI]at d;injection d with d
 injection d with a b
 subst a b;show [by rw[j],f,by rw[<-pS,j];show o]
subst u;let M:CI 1 (r.drop n)=match CH (r.drop n)with|none=>Z|some (x,s)=>B (#[x],s):=by rw[CI];cases CH (r.drop n)with|none=>rfl|some v=>let[x,s]:=v;simp[CI]
rw[M]at d;cases g:CH (r.drop n)with|none=>rw[g]at d;cases d|some v=>
let[x,s]:=v;rw[g]at d;dsimp only at d;injection d with d
injection d with a b
subst a b;cases w:r.drop n with|nil=>rw[w]at g;cases g|cons m z=>
rw[w,CH]at g;by_cases A:0<=m/\m.toNat<=U z
.rw[aab A]at g;injection g with g
 injection g with a b
 subst a b;let C:l.drop (i+1+n)=m::z:=by rw[<-pS,j,w]
 let hd2:l.drop (i+1+n+1)=z:=by rw[<-pS,C];rfl
 let E:=aad U C;rw[kY,bR]at E;show [m,?_,A.1,by omega,by rw[j,hd2],f,by rw[<-pS,hd2];show o];let:=aad (λx=>x[0]?) C;simpa using this
rw[aaa A]at g;cases g}
def Ae{α b:Type}(g:α->b)(p:b->Bool)(l:List α):(l.map g).findIdx? p=l.findIdx? λx=>p<|g x:=by induction l with|nil=>rfl|cons a l c=>rw[cC,pU,pU,c]
def Es{α d:Type}(g:α->List d)(p:d->Bool):∀ps:List α,(∀n x,ps.findIdx? (λx=>(g x).any p)=B n->ps[n]?=B x->(ps.flatMap g).findIdx? p=((g x).findIdx? p).map λi=>((ps.take n).map λx=>U (g x)).sum+i)/\(ps.findIdx? (λx=>(g x).any p)=Z->(ps.flatMap g).findIdx? p=Z)|[]=>[λn x h=>by simp at h,λ_=>rfl]|a::ps=>by{
let[j,l]:=Es g p ps;rw[pU,qT,IT];cases e:(g a).any p with
|true=>(rw[aab ()];show [λn x b hx=>?_,λb=>by cases b];injection b with b);subst b;let:x=a:=(hx.symm:);subst this;let[y,c,o]:=sY.mp e;cases f:(g x).findIdx? p with|none=>show absurd o ((iE.mp f) y c:)|some i=>simp
|false=>
rw[aaa @s_];let f:(g a).findIdx? p=Z:=iE.mpr λy c=>((pR.mp e) y c:);rw[f,tK];show [λn x b hx=>?_,λb=>?_];{cases k:ps.findIdx? (λx=>(g x).any p)with|none=>rw[k]at b;cases b|some m=>rw[k]at b;let b:n=m+1:=(b.symm:);subst b;rw[j m x k (hx:),jF];congr 1;funext i;simp;lia};let k:ps.findIdx? (λx=>(g x).any p)=Z:=by cases k:ps.findIdx? (λx=>(g x).any p)with|none=>rfl|some m=>rw[k]at b;cases b
rw[l k];rfl}
def BO{α:Type}(f:α->Nat)(l:List α)(n:Nat)(x:α)(h:l[n]?=B x):((l.take<|n+1).map f).sum=((l.take n).map f).sum+f x:=by rw[qY,h];simp
def lJ(c:List<|List Int):Nat:=(c.map U).sum+(U c-1)
def je(cs:List<|List<|List Int):Nat:=(cs.map lJ).sum
def Qc(a b:List<|List<|List Int):je (a++b)=je a+je b:=by unfold je;rw[eV,List.sum_append]
def m3(h:a+n<=U l):U ((l.drop a).take n)=n:=by rw[gj,kY];show CA<|Nat.le_sub_of_add_le' h
def acm(x:Int)(a:List Int):lJ #[x::a]=1+U a:=by simp[lJ,Nat.add_comm]
def acn(x:Int)(a b:List Int):lJ #[x::a,b]=1+U a+1+U b:=by simp[lJ];lia
def aiT(h:Pos l i<|c::cs):Pos l (i+lJ c) cs:=by(let[p,n,k,g,d,b,e,f]:=Gh h;rcases(Hc d).2.2.2.2 with hk|hk);{let[rfl,q]:=e hk;rw[acm,m3 b,<-abZ];show q};let[m,j,o,a,rfl,q]:=f hk;rw[acn,m3 b,m3 a,<-abZ,<-abZ,<-abZ];show q
def pos_at(h:Pos l 0 cs):∀j,j<=U cs->Pos l (je<|cs.take j) (cs.drop j)|0,_=>by simpa[je]using h|j+1,c=>by let a:=pos_at h j @o_;let b:j<U cs:=@o_;rw[vp b]at a;let:=aiT a;rw[Xn b,Qc];change Pos l (je (cs.take j)+je #[cs[j]]) _;rw[show je #[cs[j]]=lJ cs[j]by simp[je]];show this
abbrev S:=LnNeutral.S
def after(s:S)(cs:List<|List<|List Int):S:=cs.foldl (λs c=>(j5 s c).1) s
def Gg(s:S):∀(a b:List<|List<|List Int),vL j5 s (a++b)=vL j5 s a++vL j5 (after s a) b|[],b=>rfl|c::a,b=>by change (j5 s c).2::vL j5 (j5 s c).1 (a++b)=_;rw[Gg _ a b];rfl
def YI(s:S)(a b:List<|List<|List Int):after s (a++b)=after (after s a) b:=by unfold after;rw[WW]
def V0(a b:List<|List Int):vM (a++b)=vM a++vM b:=by unfold vM;rw[vq]
abbrev n9(s:S)(cs:List<|List<|List Int):List Int:=vM<|vL j5 s cs
def akZ(s:S)(a:List<|List<|List Int)(c:List<|List Int):n9 s (a++#[c])=n9 s a++#[((j5 (after s a) c).2.length:Int)]++(j5 (after s a) c).2:=by unfold n9;rw[Gg,V0];simp[vM,vL]
def akY(s:S)(j:Nat):U (n9 s<|cs.take j)<=U (n9 s cs):=by(conv=>rhs;rw[<-vw j cs]);unfold n9;rw[Gg,V0,cA];lia
def DT(h:(r.all λz=>~~~(0<=z)&&~~~(z<=255))=Y):kC (yY r)=r:=by unfold kC yY LnNeutral.nats;rw[cD,cD];(conv=>rhs;rw[<-yI r]);show qV λz a=>?_;let:=cq.mp h z a;simp only[a6,aaK]at this;simp[rn];lia
def cn:tq->Nat|.load _=>1|.read _=>2|.counts=>3|.slot _=>4|.name _=>5|.at_ _ _=>6|.where_ _ _=>7|.uses _=>8|.most _=>9|.text=>10|.bytes=>11|.same _=>12
def vj:tq->List Nat|.slot i=>#[i]|.name i=>#[i]|.at_ n i=>#[n,i]|.where_ n i=>#[n,i]|.uses i=>#[i]|.most n=>#[n]|_=>[]
def qG:tq->aj|.load b=>b|.read b=>b|.same b=>b|_=>[]
def Ki(p:Int)(ws r:List Int)(c:List<|List Int):Prop:=∃a,Jq c=B a/\p=cn a/\ws=LnNeutral.ints (vj a)/\r=kC (qG a)
def one(h:U ws=1):∃x,ws=#[x]:=by cases ws with|nil=>cases h|cons x t=>cases t with|nil=>show [x,()]|cons y t=>simp at h
def two(h:U ws=2):∃x y,ws=#[x,y]:=by cases ws with|nil=>cases h|cons x t=>let[y,rfl]:=one (ws:=t) (h:);show [x,y,()]
def abM(p:Int)(k:Nat)(ws r:List Int):Prop:=(k=0->Jp #[p::ws]=Y->Ki p ws [] #[p::ws])/\(k=1->Jp #[p::ws,r]=Y->Ki p ws r #[p::ws,r])
def abX(q: ~~~(0<=x)=Y):#[x]=#[(x.toNat:Int)]:=aad (λz=>#[z]) (qQ<|aaL q).symm
def acj(q:(~~~(0<=x)&&~~~(0<=y))=Y):#[x,y]=#[(x.toNat:Int),(y.toNat:Int)]:=by rw[a6]at q;rw[<-abX q.2,qQ<|aaL q.1]
def ab0(c:shape p=B (n,k))(d:U ws=n)(e:shape p=B (a,b)):U ws=a/\k=b:=by rw[c]at e;injection e with e;injection e with f g;show [d.trans f,g]
section
variable{p:Int}{n k:Nat}{ws r:List Int}(hs:shape p=B (n,k))(hw:U ws=n)
include hs hw
def aci(e:shape p=B (0,1))(f:Jp #[#[p],r]=Y->Ki p [] r #[#[p],r]):abM p k ws r:=by let[h,rfl]:=ab0 hs hw e;obtain rfl:=iG.mp h;show [@j_,λ_=>f]
def ace(e:shape p=B (0,0))(f:Ki p [] [] #[#[p]]):abM p k ws r:=by let[h,rfl]:=ab0 hs hw e;obtain rfl:=iG.mp h;show [λ_ _=>f,λz=>by cases z]
def ab2(e:shape p=B (1,0))(f:∀x,Jp #[#[p,x]]=Y->Ki p #[x] [] #[#[p,x]]):abM p k ws r:=by let[h,rfl]:=ab0 hs hw e;let[x,rfl]:=one h;show [λ_=>f x,λz=>by cases z]
def ack(e:shape p=B (2,0))(f:∀x y,Jp #[#[p,x,y]]=Y->Ki p #[x,y] [] #[#[p,x,y]]):abM p k ws r:=by let[h,rfl]:=ab0 hs hw e;let[x,y,rfl]:=two h;show [λ_=>f x y,λz=>by cases z]
end
def isNat:∀m:Nat,m<13->∀{n k:Nat}{ws r:List Int},shape (m:Int)=B (n,k)->U ws=n->abM m k ws r
|0,_,_,_,_,_,a,_=>absurd (Hc a).1 @d_|1,_,_,_,_,r,a,b=>aci a b () λq=>[.load<|yY r,(),(),(),(DT q).symm]
|2,_,_,_,_,r,a,b=>aci a b () λq=>[.read<|yY r,(),(),(),(DT q).symm]|3,_,_,_,_,_,a,b=>ace a b () [.counts,(),(),(),()]
|4,_,_,_,_,_,a,b=>ab2 a b () λx q=>[.slot x.toNat,(),(),abX q,()]|5,_,_,_,_,_,a,b=>ab2 a b () λx q=>[.name x.toNat,(),(),abX q,()]
|6,_,_,_,_,_,a,b=>ack a b () λx y q=>[.at_ x.toNat y.toNat,(),(),acj q,()]|7,_,_,_,_,_,a,b=>ack a b () λx y q=>[.where_ x.toNat y.toNat,(),(),acj q,()]
|8,_,_,_,_,_,a,b=>ab2 a b () λx q=>[.uses x.toNat,(),(),abX q,()]|9,_,_,_,_,_,a,b=>ab2 a b () λx q=>[.most x.toNat,(),(),abX q,()]
|10,_,_,_,_,_,a,b=>ace a b () [.text,(),(),(),()]|11,_,_,_,_,_,a,b=>ace a b () [.bytes,(),(),(),()]
|12,_,_,_,_,r,a,b=>aci a b () λq=>[.same<|yY r,(),(),(),(DT q).symm]|m+13,h,_,_,_,_,_,_=>absurd h @o_
def MK(a:shape p=B (n,k))(b:U ws=n):abM p k ws r:=by let[l1,l2,_]:=Hc a;let[m,rfl]:=B_<|Int.le_trans @d_ l1;show isNat m @o_ a b
end Mx
namespace L2
open PySem PySem.Spec PyProof.Rows
structure Ext (G H G1 H1:Hp):Prop where
 gg:ba G G1
 gh:ba G1 H1
 hh:ba H H1
 nw:∀b o,H b=B o->G1 b=G b
def Ext.refl(h:ba G H):Ext G H G H:=[ba.refl G,h,ba.refl H,λ_ _ _=>rfl]
def ba.aln(h:ba G H)(hl:H l=Z):ba (upd G l o)<|upd H l o:=λb u e=>by by_cases z:b=l;{subst z;rw[fI]at e⊢;show e};rw[cJ z]at e⊢;show h b u e
def ba.new(hl:H l=Z):ba H<|upd H l o:=λb u e=>by rw[cJ<|jy e hl];show e
def Ext.new(h:ba G H)(hl:H l=Z):Ext G H (upd G l o)<|upd H l o:=[ba.new<|h.free hl,h.aln hl,ba.new hl,λb u e=>cJ<|jy e hl]
structure As where
 p:V->Hp->Prop
 up:∀{v:V}{H H':Hp},ba H H'->p v H->p v H'
abbrev En:=List<|Option As
inductive Cl where
 |lst (l:List As)
 |obj (C:aa) (fs:List<|Str×As)
 |fC (kvs:List<|Key×As)
abbrev Mu:=aa->Option Cl
abbrev c9(F:Hp):List V->List As->Prop:=Paired λv a=>a.p v F
abbrev fA{a:Type}(F:Hp):List (a×V)->List (a×As)->Prop:=Paired λg f=>g.1=f.1/\f.2.p g.2 F
def Cl.ok(F:Hp):Cl->HO->Prop
|.lst l,o=>∃b,o=.lst b/\c9 F b l|.obj C fs,o=>∃c aE,o=.ins C c aE/\fA F aE fs
|.fC a,o=>∃aE,o=.dK aE/\fA F aE a
section
variable{F F':Hp}
theorem c9.up{vs:List V}{l:List As}(s:ba F F')(h:c9 F vs l):c9 F' vs l:=Paired.xq h λ_ a=>a.up s
theorem fA.up{a:Type}{vs:List<|a×V}{l:List<|a×As}(s:ba F F')(h:fA F vs l):fA F' vs l:=Paired.xq h λ_ f z=>[z.1,f.2.up s z.2]
theorem Cl.up{c:Cl}{o:HO}(s:ba F F')(h:c.ok F o):c.ok F' o:=by cases c with|lst l=>let[a,e,z]:=h;show [a,e,c9.up s z]|obj C fs=>let[b,aE,e,z]:=h;show [b,aE,e,fA.up s z]|fC d=>let[aE,e,z]:=h;show [aE,e,fA.up s z]
theorem kQ{α a:Type}{R:α->a->Prop}:∀{l:List α}{m:List a}{i:Nat}{y:a},Paired R l m->m[i]?=B y->∃x,l[i]?=B x/\R x y
|_,_,_,_,.nil,e=>by simp at e|_,_,0,_,.cons r _,e=>by simp at e;subst e;show [_,(),r]
|_,_,i+1,y,.cons _ t,e=>by let[x,b,c]:=kQ (i:=i) (y:=y) t (e:);show [x,(b:),c]
theorem sx{α a:Type}{R:α->a->Prop}:∀{l b:List α}{m c:List a},Paired R l m->Paired R b c->Paired R (l++b) (m++c)|_,_,_,_,.nil,h=>h|_,_,_,_,.cons r t,h=>.cons r<|sx t h
theorem Gk{α a:Type}{R:α->a->Prop}:∀{l:List α}{m:List a}(n:Nat),Paired R l m->Paired R (l.take n) (m.take n)
|_,_,n,.nil=>by simp;show .nil|_,_,0,.cons r t=>.nil
|_,_,n+1,.cons r t=>.cons r<|Gk n t
theorem ON{α a:Type}{R:α->a->Prop}:∀{l:List α}{m:List a}(n:Nat),Paired R l m->Paired R (l.drop n) (m.drop n)
|_,_,n,.nil=>by simp;show .nil|_,_,0,.cons r t=>.cons r t
|_,_,n+1,.cons r t=>ON n t
theorem Gj{α a:Type}{R:α->a->Prop}:∀{l:List α}{m:List a}(n:Nat){x:α}{y:a},Paired R l m->R x y->Paired R (l.set n x) (m.set n y)
|_,_,n,_,_,.nil,_=>by simp;show .nil|_,_,0,_,_,.cons r t,h=>.cons h t
|_,_,n+1,_,_,.cons r t,h=>.cons r<|Gj n t h
theorem aiV{α a:Type}{R:α->a->Prop}{l:List α}{m:List a}(h:Paired R l m):Paired R l.dropLast m.dropLast:=by rw[IL,IL,di h];show Gk _ h
theorem EA{aE:List<|Str×V}{fs:List<|Str×As}(h:fA F aE fs){f:Str}:(∀a,fs.lookup f=B a->∃v,aE.lookup f=B v/\a.p v F)/\(fs.lookup f=Z->aE.lookup f=Z):=by induction h with|nil=>show [λ_ e=>by simp at e,λ_=>rfl]| @cons g b aE fs r t c=>let[n,v]:=g;let[d,j]:=b;let[e,i]:=r;let e:n=d:=e;subst e;rw[kZ,kZ];cases q:f==n with|true=>show [λa z=>by cases z;show [v,(),i],λz=>by cases z]|false=>show c
end
structure Wf (F H:Hp) (M:Mu):Prop where
 fh:ba F H
 hs:∀p c,M p=B c->F p=Z/\∃o,H p=B o/\c.ok F o
structure Go (F H:Hp) (M:Mu) (F' H':Hp) (M':Mu):Prop where
 ff:ba F F'
 wf:Wf F' H' M'
 kp:∀b o,H b=B o->M b=Z->H' b=B o/\F' b=F b/\M' b=Z
def mu(M:Mu)(p:aa)(c:Cl):Mu:=λb=>if b=p then B c else M b
def mx(M:Mu)(p:aa):Mu:=λb=>if b=p then Z else M b
def bO:mu M p c p=B c:=by unfold mu;rw[aab ()]
def bG(h:q≠p):mu M p c q=M q:=by unfold mu;rw[aaa h]
def gu:mu (mu M p c) p d=mu M p d:=by funext b;unfold mu;by_cases h:b=p<;>simp[h]
def jO(h:M p=B c):mu M p c=M:=by funext b;unfold mu;by_cases e:b=p<;>simp[e,h]
def o9(h:M p=Z):mx (mu M p c) p=M:=by funext b;unfold mx mu;by_cases e:b=p<;>simp[e,h]
section
variable{F H F' H' F1 H1:Hp}{M M' M1:Mu}
def Wf.free(w:Wf F H M)(h:H l=Z):F l=Z/\M l=Z:=[w.fh.free h,by cases e:M l with|none=>rfl|some c=>let[_,o,z,_]:=w.hs l c e;rw[h]at z;cases z]
def Go.refl(w:Wf F H M):Go F H M F H M:=[ba.refl F,w,λ_ _ e z=>[e,(),z]]
def Go.trans(a:Go F H M F1 H1 M1)(b:Go F1 H1 M1 F' H' M'):Go F H M F' H' M':=[a.ff.trans b.ff,b.wf,λc o e z=>by let[d,f,g]:=a.kp c o e z;let[h,i,j]:=b.kp c o d g;show [h,i.trans f,j]]
def Go.ext(w:Wf F H M)(e:Ext F H F' H'):Go F H M F' H' M:=[e.gg,[e.gh,λp c h=>by let[z,o,a,k]:=w.hs p c h;show [(e.nw p o a).trans z,o,e.hh _ _ a,Cl.up e.gg k]],λb o h z=>[e.hh _ _ h,e.nw b o h,z]]
def Go.new(w:Wf F H M)(hl:H l=Z):Go F H M (upd F l o) (upd H l o) M:=Go.ext w<|Ext.new w.fh hl
def Go.cell(w:Wf F H M)(hl:H l=Z)(a:c.ok F o):Go F H M F (upd H l o)<|mu M l c:=[ba.refl F,[λb u e=>by
 rw[cJ<|jy (w.fh _ _ e) hl];show w.fh _ _ e,λp d h=>by
 by_cases z:p=l
 .subst z;rw[bO]at h;cases h;show [(w.free hl).1,o,fI,a]
 .rw[bG z]at h;let[q,u,f,k]:=w.hs p d h;show [q,u,by rw[cJ z];show f,k]],λb u e z=>by
 let:=jy e hl;show [by rw[cJ this];show e,(),by rw[bG this];show z]]
def Go.set(w:Wf F H M)(a:M p=B c)(f:c'.ok F o):Go F H M F (upd H p o)<|mu M p c':=[ba.refl F,[λb u e=>by
 let:b≠p:=λz=>by subst z;rw[(w.hs b c a).1]at e;cases e
 rw[cJ this];show w.fh _ _ e,λq d h=>by
 by_cases z:q=p
 .subst z;rw[bO]at h;cases h;show [(w.hs q c a).1,o,fI,f]
 .rw[bG z]at h;let[k,u,g,j]:=w.hs q d h;show [k,u,by rw[cJ z];show g,j]],λb u e z=>by
 let:b≠p:=λy=>by subst y;rw[a]at z;cases z
 show [by rw[cJ this];show e,(),by rw[bG this];show z]]
def Go.freeze(w:Wf F H M)(a:M p=B c)(g:H p=B o):Go F H M (upd F p o) H<|mx M p:=by let f:=(w.hs p c a).1;show [ba.new f,[λb u e=>?_,λq d h=>?_],λb u e z=>?_];{by_cases z:b=p;{subst z;rw[fI]at e;cases e;show g};rw[cJ z]at e;show w.fh _ _ e};{unfold mx at h;by_cases z:q=p;{rw[aab z]at h;cases h};rw[aaa z]at h;let[k,u,i,j]:=w.hs q d h;show [by rw[cJ z];show k,u,i,Cl.up (ba.new f) j]};(let:b≠p:=λy=>by subst y;rw[a]at z;cases z);show [e,by rw[cJ this],by unfold mx;rw[aaa this];show z]
theorem Go.drop(g:Go F H M F' H' M'){M2:Mu}(h:∀p c,M2 p=B c->M' p=B c):Go F H M F' H' M2:=[g.ff,[g.wf.fh,λp c e=>g.wf.hs p c<|h p c e],λb o e z=>by let[x,y,q]:=g.kp b o e z;show [x,y,?_];cases k:M2 b with|none=>rfl|some c=>rw[h b c k]at q;cases q]
end
structure Rel (F:Hp) (σ:St) (ρ:En):Prop where
 ln:U σ=U ρ
 at_:∀(i:Nat)(a:As),ρ[i]?=B (B a)->∃v,σ[i]?=B (B v)/\a.p v F
theorem Rel.up{F b:Hp}{c:St}{ρ:En}(r:Rel F c ρ)(s:ba F b):Rel b c ρ:=[r.ln,λi a h=>let⟨v,e,k⟩:=r.at_ i a h;[v,e,a.up s k]]
def Rel.set(r:Rel F c ρ)(i:Nat)(h:a.p v F):Rel F (c.set i<|B v)<|ρ.set i<|B a:=[by rw[og,og];show r.ln,λj b e=>by rw[vu]at e⊢;by_cases z:i=j;{rw[aab z]at e⊢;by_cases l:i<U ρ;{rw[aab l]at e;rw[aab<|by rw[r.ln];show l];cases e;show [v,(),h]};rw[aaa l]at e;cases e};rw[aaa z]at e⊢;show r.at_ j b e]
def gX(ρ ρ':En):Prop:=U ρ'=U ρ/\∀(i:Nat)(a:As),ρ'[i]?=B (B a)->ρ[i]?=B (B a)
def Rel.less(r:Rel F b ρ)(h:gX ρ ρ'):Rel F b ρ':=[r.ln.trans h.1.symm,λi a e=>r.at_ i a<|h.2 i a e]
def gX.refl(ρ:En):gX ρ ρ:=[(),λ_ _ h=>h]
def gX.nil:gX [] []:=gX.refl _
def gX.cons(h:gX ρ ρ'):gX (a::ρ)<|a::ρ':=[by simp[h.1],λi b e=>by cases i with|zero=>show e|succ i=>show h.2 i b (e:)]
def gX.tZ(e:a=b)(h:gX ρ ρ'):gX (B a::ρ)<|B b::ρ':=e▸gX.cons h
def gX.aC(h:gX ρ ρ'):gX (a::ρ)<|Z::ρ':=[by simp[h.1],λi b e=>by cases i with|zero=>cases e|succ i=>show h.2 i b (e:)]
def j0(ρ:En):List Nat->En|[]=>ρ|v::a=>(j0 ρ a).set v Z
def Rel.aki(r:Rel F a ρ)(i:Nat)(x:Option V):Rel F (a.set i x)<|ρ.set i Z:=[by rw[og,og];show r.ln,λj b e=>by rw[vu]at e⊢;by_cases z:i=j;{rw[aab z]at e;by_cases l:i<U ρ;{rw[aab l]at e;cases e};rw[aaa l]at e;cases e};rw[aaa z]at e⊢;show r.at_ j b e]
def Rel.wipe(r:Rel F a ρ):∀is:List Nat,Rel F (L2.wipe a is) (j0 ρ is)|[]=>r|i::is=>(Rel.wipe r is).aki i Z
def B5(a:St):∀(is:List Nat)(j:Nat),(L2.wipe a is)[j]?=if j∈is then(if j<U a then B Z else Z)else a[j]?|[],j=>by simp[L2.wipe]|i::is,j=>by change ((L2.wipe a is).set i Z)[j]?=_;rw[vu,vk,B5 a is j];by_cases z:i=j;{subst z;simp};let:j≠i:=λe=>z e.symm;simp[z,this]
def WA(hl:U a=U b)(h:∀j,j∉is->a[j]?=(L2.wipe b is)[j]?):L2.wipe a is=L2.wipe b is:=by apply Cf;intro j;rw[B5,B5,hl];by_cases z:j∈is;{rw[aab z,aab z]};rw[aaa z,aaa z,h j z,B5,aaa z]
inductive Rz (β:Type) where
 |vl (b:β) (M:Mu)
 |xc (C:aa) (M:Mu)
def Fin{α e:Type}(p:e->α->Hp->Prop)(E:XK)(F H:Hp)(M:Mu)(Q:α->Hp->Prop):Rz e->Prop|.vl b d=>∀v c a,Go F H M c a d->p b v c->Q v a|.xc C d=>∀c a,Go F H M c a d->E (.ref C) Z a
def JD{α a:Type}(p:a->α->Hp->Prop)(E:XK)(t:St->Hp->(α->Hp->Prop)->Prop)(ρ:En)(M:Mu)(r:Rz a):Prop:=∀b F H,Rel F b ρ->Wf F H M->∀Q:α->Hp->Prop,Fin p E F H M Q r->t b H Q
abbrev pE:As->V->Hp->Prop:=λa v F=>a.p v F
abbrev pA:List As->List V->Hp->Prop:=λl a F=>c9 F a l
abbrev pT:Bool->Bool->Hp->Prop:=λb c _=>c=b
structure Walks (J:It) (F:Hp) (l:List As):Prop where
 go:∀i F1 H1,ba F F1->ba F1 H1->i<U l->J.go i H1
 kW:∀i F1 H1 x H',ba F F1->ba F1 H1->J.kW i H1 x H'->∀a,l[i]?=B a->∃F',Ext F1 H1 F' H'/\a.p x F'
 stop:∀i F1 H1,ba F F1->ba F1 H1->U l<=i->J.stop i H1
abbrev pW:List As->It->Hp->Prop:=λl J F=>Walks J F l
abbrev pO:Option Int->Option Int->Hp->Prop:=λb c _=>c=b
abbrev ED(E:XK)(te:TE)(ρ:En)(M:Mu)(r:Rz As):Prop:=JD pE E te ρ M r
abbrev AD(E:XK)(te:TA)(ρ:En)(M:Mu)(r:Rz<|List As):Prop:=JD pA E te ρ M r
abbrev TD(E:XK)(te:TT)(ρ:En)(M:Mu)(r:Rz Bool):Prop:=JD pT E te ρ M r
abbrev WD(E:XK)(te:TI)(ρ:En)(M:Mu)(r:Rz<|List As):Prop:=JD pW E te ρ M r
abbrev OD(E:XK)(te:TO)(ρ:En)(M:Mu)(r:Rz<|Option Int):Prop:=JD pO E te ρ M r
def CD(sp:Sp)(l:List As)(M:Mu)(r:Rz As):Prop:=∀a F H,c9 F a l->Wf F H M->∀(Q:VK)(E:XK),Fin pE E F H M Q r->sp a H Q E
def bW(E:XK)(c:R2)(a b:As)(M:Mu)(r:Rz As):Prop:=∀x y F H,Wf F H M->a.p x F->b.p y F->∀Q:VK,Fin pE E F H M Q r->c x y H Q
def hI(E:XK)(b:List V->Hp->VK->Prop)(l:List As)(M:Mu)(r:Rz As):Prop:=∀a F H,Wf F H M->c9 F a l->∀Q:VK,Fin pE E F H M Q r->b a H Q
def wb(E:XK)(c:V->List V->Hp->VK->Prop)(a:As)(l:List As)(M:Mu)(r:Rz As):Prop:=∀x b F H,Wf F H M->a.p x F->c9 F b l->∀Q:VK,Fin pE E F H M Q r->c x b H Q
inductive Oc where
 |rt (a:As) (M:Mu)
 |nx (ρ:En) (M:Mu)
 |xc (C:aa) (M:Mu)
def zp(E:XK)(F H:Hp)(M:Mu)(b:Ends):Oc->Prop
|.rt a e=>∀v d c,Go F H M d c e->a.p v d->b.rt v c|.nx g e=>∀f d c,Go F H M d c e->Rel d f g->b.nx f c
|.xc C e=>∀d c,Go F H M d c e->E (.ref C) Z c
def SD(E:XK)(t:TS)(ρ:En)(M:Mu)(o:Oc):Prop:=∀b F H,Rel F b ρ->Wf F H M->∀a:Ends,zp E F H M a o->t a b H
def Oc.out:Oc->Bool|.nx _ _=>ag|_=>Y
section
variable{α β:Type}{p:β->α->Hp->Prop}{E:XK}{F H F1 H1:Hp}{M M1 M2 M3:Mu}
theorem Fin.after{Q:α->Hp->Prop}{r:Rz β}(q:Fin p E F H M Q r)(g:Go F H M F1 H1 M1):Fin p E F1 H1 M1 Q r:=by cases r with|vl b e=>show λv a c d k=>q v a c (g.trans d) k|xc C e=>show λa c d=>q a c<|g.trans d
theorem zp.after{b:Ends}{o:Oc}(q:zp E F H M b o)(g:Go F H M F1 H1 M1):zp E F1 H1 M1 b o:=by cases o with|rt a f=>show λv c d e k=>q v c d (g.trans e) k|nx h f=>show λv c d e k=>q v c d (g.trans e) k|xc C f=>show λc d e=>q c d<|g.trans e
theorem Fin.fin{Q:α->Hp->Prop}{b:β}{v:α}(q:Fin p E F H M Q<|.vl b M)(w:Wf F H M)(h:p b v F):Q v H:=q v F H (Go.refl w) h
end
def aV(v:V):As:=[λx _=>x=v,λ_ h=>h]
abbrev aI(i:Int):As:=aV<|.int i
abbrev aN(n:Nat):As:=aV<|.int (n:Int)
abbrev aS(s:Str):As:=aV<|.str s
abbrev aB(b:Bool):As:=aV<|.bl b
abbrev aU:As:=aV .aC
def aL(l:List As):As:=[λv H=>∃a b,v=.ref a/\H a=B (.lst b)/\c9 H b l,λs h=>let⟨a,b,e,g,k⟩:=h;[a,b,e,s _ _ g,c9.up s k]]
theorem ba.jW{K:aR}{H b:Hp}{a:aa}{xs:List V}(e:ba H b)(h:cP K H a xs):cP K b a xs:=by{
rcases h with(h|⟨o,h⟩)|h
.show .inl<|.inl<|e _ _ h
.show .inl<|.inr [o,e _ _ h]
show .inr h}
def aT(K:aR)(l:List As):As:=[λv H=>∃a b,v=.ref a/\cP K H a b/\c9 H b l,λs h=>let⟨a,b,e,g,k⟩:=h;[a,b,e,ba.jW s g,c9.up s k]]
def aQ(K:aR)(l:List As):As:=[λv H=>∃a b,v=.ref a/\bE K H a b/\c9 H b l,λs h=>let⟨a,b,e,g,k⟩:=h;[a,b,e,ba.seq s g,c9.up s k]]
def i3(C:aa)(fs:List<|Str×As):As:=[λv H=>∃a b aE,v=.ref a/\H a=B (.ins C b aE)/\fA H aE fs,λs h=>let⟨a,b,aE,e,g,k⟩:=h;[a,b,aE,e,s _ _ g,fA.up s k]]
def aD(kvs:List<|Key×As):As:=[λv H=>∃a aE,v=.ref a/\H a=B (.dK aE)/\fA H aE kvs,λs h=>let⟨a,aE,e,g,k⟩:=h;[a,aE,e,s _ _ g,fA.up s k]]
section
variable{E:XK}{ρ:En}{M M1 M2 M3:Mu}{ta tb tc te:TE}{a b c d:As}{r:Rz As}{K:aR}
def af(h:ρ[i]?=B (B a)):ED E (ay i) ρ M$ a:=λf F H R w Q q=>let⟨v,e,k⟩:=R.at_ i a h;[v,e,q.fin w k]
def aM:ED E (tC v) ρ M$ aV v:=λe F H R w Q q=>q.fin w ()
def wH(h:∀F,a.p v F):ED E (tC v) ρ M$ a:=λe F H R w Q q=>q.fin w<|h F
theorem eD{α j n l:Type}{p:n->α->Hp->Prop}{o:l->j->Hp->Prop}{t:St->Hp->(α->Hp->Prop)->Prop}{u:St->Hp->(j->Hp->Prop)->Prop}{f:α->St->Hp->(j->Hp->Prop)->Prop}{b:n}{r:Rz l}(h:JD p E t ρ M<|.vl b M1)(e:∀i H Q,(t i H λx m=>f x i m Q)->u i H Q)(k:∀x i F H,Rel F i ρ->Wf F H M1->p b x F->∀Q,Fin o E F H M1 Q r->f x i H Q):JD o E u ρ M r:=λi F H R w Q q=>e i H Q (h i F H R w _ λx s m g v=>k x i s m (R.up g.ff) g.wf v Q<|q.after g)
theorem qx{α i n l:Type}{p:n->α->Hp->Prop}{o:l->i->Hp->Prop}{t:St->Hp->(α->Hp->Prop)->Prop}{u:St->Hp->(i->Hp->Prop)->Prop}{f:α->St->Hp->(i->Hp->Prop)->Prop}{C:aa}(h:JD p E t ρ M<|.xc C M1)(e:∀j H Q,(t j H λx m=>f x j m Q)->u j H Q):JD o E u ρ M<|.xc C M1:=λj F H R w Q q=>e j H Q<|h j F H R w _ λs m g=>q s m g
theorem aam{C:aa}{f:Str}{fs:List<|Str×As}(h:ED E te ρ M<|.vl (i3 C fs) M1)(i:jG K C)(j:ni K C f)(l:fs.lookup f=B a):ED E (fV K te f) ρ M<|.vl a M1:=eD h @p_ λx t F H R w m Q q=>by let[n,o,aE,e,g,k]:=m;let[v,p,s]:=(EA k).1 a l;show [n,C,o,aE,v,e,w.fh _ _ g,i,j,p,q.fin w s]
theorem aan{x:aa}{C:aa}{f:Str}{fs:List<|Str×As}(h:ED E te ρ M<|.vl (aV<|.ref x) M1)(g:M1 x=B (.obj C fs))(i:jG K C)(j:ni K C f)(l:fs.lookup f=B a):ED E (fV K te f) ρ M<|.vl a M1:=eD h @p_ λy u F H R w m Q q=>by let[z,o,n,p,aE,e,k]:=w.hs x _ g;subst e;let[v,s,t]:=(EA k).1 a l;show [x,C,p,aE,v,m,n,i,j,s,q.fin w t]
def ax(i:ED E ta ρ M<|.vl a M1)(O:ED E tb ρ M1<|.vl b M2)(j:bW E g a b M2 r):ED E (aq g ta tb) ρ M r:=λh F H R w Q q=>i h F H R w _ λx l m e n=>O h l m (R.up e.ff) e.wf _ λy o p f s=>j x y o p f.wf (a.up f.ff n) s Q<|q.after<|e.trans f
def Ed(f:ED E ta ρ M<|.xc C M1):ED E (aq e ta tb) ρ M<|.xc C M1:=qx f λ_ _ _ z=>z
def au:AD E aX ρ M$ []:=λe F H R w Q q=>q.fin w .nil
def ai(i:ED E ta ρ M<|.vl a M1)(j:AD E f ρ M1<|.vl l M2):AD E (aJ ta f) ρ M<|.vl (a::l) M2:=λg F H R w Q q=>i g F H R w _ λx m n e o=>j g m n (R.up e.ff) e.wf _ λu p s h t=>q _ p s (e.trans h)<|.cons (a.up h.ff o) t
def j9(f:ED E ta ρ M<|.xc C M1):AD E (aJ ta e) ρ M<|.xc C M1:=qx f λ_ _ _ z=>z
theorem oI(h:ED E ta ρ M<|.vl a M1)(i:AD E e ρ M1<|.xc C M2):AD E (aJ ta e) ρ M<|.xc C M2:=eD (f:=λx g j Q=>e g j λl m=>Q (x::l) m) h @p_ λx g F H R w n Q q=>i g F H R w _ q
def az(e:AD E t ρ M<|.vl l M1)(f:CD sp l M1 r):ED E (dq sp [] E t) ρ M r:=eD e @p_ λg i F H R w h Q q=>by rw[j3];show f g F H h w Q E q
def Lc(e:AD E t ρ M<|.xc C M1):ED E (dq sp [] E t) ρ M<|.xc C M1:=qx e λ_ _ _ z=>z
theorem dm(f:AD E t ρ M<|.vl l M1)(g:hI E e l M1 r):ED E (cz e t) ρ M r:=eD f @p_ λh j F H R w i Q q=>g h F H w i Q q
def aai(f:AD E t ρ M<|.xc C M1):ED E (cz e t) ρ M<|.xc C M1:=qx f λ_ _ _ z=>z
theorem hU{tab:List<|aa×Sp}{m:Str}{t:TA}{x C:aa}{sp:Sp}{fs:List<|Str×As}{l:List As}(h:ED E ta ρ M<|.vl (aV<|.ref x) M1)(i:M1 x=B (.obj C fs))(j:(C,sp)∈tab)(n:fs.lookup m=Z)(hl:AD E t ρ M1<|.vl l M2)(p:CD sp (aV (.ref x)::l) M2 r):ED E (bC tab m E ta t) ρ M r:=eD h @p_ λy s F H R w f Q q=>by let[z,o,u,v,aE,e,k]:=w.hs x _ i;subst e;show [x,C,sp,v,aE,f,j,u,(EA k).2 n,hl s F H R w _ λJ A G g I=>p _ A G (.cons f I) g.wf Q E<|q.after g]
def lY(f:ED E ta ρ M<|.vl (aV<|.ref x) M1)(g:(x,sp)∈tab)(hl:AD E t ρ M1<|.vl l M2)(h:CD sp l M2 r):ED E (BR tab E ta t) ρ M r:=eD f @p_ λy i F H R w j Q q=>[x,sp,j,g,hl i F H R w _ λp m n e o=>h _ m n o e.wf Q E<|q.after e]
def kg(e:ED E ta ρ M<|.vl (aB x) M1)(O:x=Y->ED E tb ρ M1 (.vl (aB y) M1)):ED E (da ta tb) ρ M<|.vl (aB<|x&&y) M1:=eD e @p_ λv f F H R w g Q q=>[x,g,by cases x with|false=>show rY (q.fin w ())|true=>show rZ<|O () f F H R w _ q]
def Ee(e:ED E ta ρ M<|.vl (aB x) M1)(O:x=ag->ED E tb ρ M1 (.vl (aB y) M1)):ED E (nY ta tb) ρ M<|.vl (aB<|x||y) M1:=eD e @p_ λv f F H R w g Q q=>[x,g,by cases x with|true=>show rZ (q.fin w ())|false=>show rY<|O () f F H R w _ q]
def Lg(e:ED E ta ρ M<|.vl (aB x) M1):ED E (BU ta) ρ M<|.vl (aB<|!x) M1:=eD e @p_ λv g F H R w f Q q=>[x,f,q.fin w ()]
theorem zP(f:TD E t ρ M<|.vl x M1)(g:x=Y->ED E ta ρ M1 r)(O:x=ag->ED E tb ρ M1 r):ED E (qM t ta tb) ρ M r:=eD f @p_ λv e F H R w h Q q=>by cases h;cases x with|true=>show rZ (g () e F H R w _ q)|false=>show rY<|O () e F H R w _ q
theorem Ld{f g:Int->Int->Bool}{i j k:Int}(o:ED E ta ρ M<|.vl (aI i) M1)(O:ED E tb ρ M1<|.vl (aI j) M2)(p:ED E tc ρ M2$ aI k):ED E (ig (iC λi j=>.bl<|f i j) (iC λi j=>.bl<|g i j) ta tb tc) ρ M (.vl (aB<|f i j&&g j k) M2):=λm F H R w Q q=>o m F H R w _ λx s t h u=>O m s t (R.up h.ff) h.wf _ λy v A l n=>[i,j,u,n,f i j,(),by let q:=q.after<|h.trans l;cases e:f i j with|false=>rw[e]at q;show rY (q.fin l.wf ())|true=>rw[e]at q;show rZ<|p m v A (R.up<|h.ff.trans l.ff) l.wf _ λz C G I J=>[j,k,n,J,q _ C G I ()]]
def a9(h:ED E te ρ M<|.vl (aB x) M1):TD E (tB te) ρ M<|.vl x M1:=eD h @p_ λv f F H R w e Q q=>[x,e,q.fin w ()]
def S6(h:ED E te ρ M<|.xc C M1):TD E (tB te) ρ M<|.xc C M1:=qx h λ_ _ _ z=>z
theorem fi(h:TD E t ρ M<|.vl x M1):TD E (cw t) ρ M<|.vl (!x) M1:=eD h @p_ λv f F H R w e Q q=>by cases e;show q.fin w ()
theorem n0(e:TD E t ρ M<|.vl x M1)(O:x=Y->TD E u ρ M1 (.vl y M1)):TD E (jZ t u) ρ M<|.vl (x&&y) M1:=eD e @p_ λv f F H R w g Q q=>by cases g;cases x with|false=>show rY (q.fin w ())|true=>show rZ<|O () f F H R w _ q
theorem iV(e:TD E t ρ M<|.vl x M1)(O:x=ag->TD E u ρ M1 (.vl y M1)):TD E (cW t u) ρ M<|.vl (x||y) M1:=eD e @p_ λv f F H R w g Q q=>by cases g;cases x with|true=>show rZ (q.fin w ())|false=>show rY<|O () f F H R w _ q
def uB:bW E (iC g) (aI i) (aI j) M$ aV<|g i j:=λx y F H w e f Q q=>[i,j,e,f,q.fin w ()]
def xC(h:C i j):bW E (rI C g) (aI i) (aI j) M$ aV<|g i j:=λx y F H w e f Q q=>[i,j,e,f,h,q.fin w ()]
def g8:bW E (ib K) (aI i) (aI j) M$ aI<|i+j:=λx y F H w e f Q q=>.inl [i,j,e,f,q.fin w ()]
def N3(h:i.length+j.length<=sizeLine):bW E (ib K) (aS i) (aS j) M$ aS<|i++j:=λx y F H w e f Q q=>.inr<|.inl [i,j,e,f,h,q.fin w ()]
def jz(h:l.length+m.length<=sizeLine):bW E (ib K) (aL l) (aL m) M$ aL<|l++m:=λx y F H w i j Q q=>by let[a,n,rfl,o,e]:=i;let[b,s,rfl,O,f]:=j;show .inr<|.inr<|.inl [a,b,n,s,(),(),w.fh _ _ o,w.fh _ _ O,by rw[di e,di f];show h,λp g=>?_];show q _ _ _ (Go.new w g) [p,_,(),fI,c9.up (ba.new (w.free g).1)<|sx e f]
def agL(o:l≠[])(h:l.length+m.length<=sizeLine):bW E (ib K) (aT K l) (aT K m) M$ aT K<|l++m:=λx y F H w s t Q q=>by(let[a,g,rfl,j,f]:=s;let[b,u,rfl,O,i]:=t;let v:g≠[]:=λz=>by subst z;cases f;show o ());show .inr<|.inr<|.inr [a,b,g,u,(),(),ba.jW w.fh j,ba.jW w.fh O,v,by rw[di f,di i];show h,?_];show [λe=>?_,λ_ p n=>q _ _ _ (Go.new w n) [p,_,(),cP.of fI,c9.up (ba.new (w.free n).1)<|sx f i]];subst e;cases i;rw[j3]at q;show q.fin w [a,g,(),j,f]
def uz(h:Bt x y=Y):bW E (ic K) (aV x) (aV y) M$ aB<|~~~(x=y):=λg i F H w e f Q q=>by cases e;cases f;show .inl [h,q.fin w ()]
def Oa(h:Bt x y=Y):bW E (eE K) (aV x) (aV y) M$ aB<|!~~~(x=y):=λg i F H w e f Q q=>by cases e;cases f;show .inl [h,q.fin w ()]
def Lp: ~~~(V.int i=V.int j)= ~~~(i=j):=aaP.mpr [λh=>V.int.inj h,λh=>by rw[h]]
def Lr: ~~~(V.str i=V.str j)= ~~~(i=j):=aaP.mpr [λh=>V.str.inj h,λh=>by rw[h]]
def kP:bW E (ic K) (aI i) (aI j) M$ aB<|~~~(i=j):=by rw[<-Lp];show uz ()
def nN:bW E (eE K) (aI i) (aI j) M$ aB<|!~~~(i=j):=by rw[<-Lp];show Oa ()
def uA:bW E (ic K) (aS i) (aS j) M$ aB<|~~~(i=j):=by rw[<-Lr];show uz ()
def Od:bW E (eE K) (aS i) (aS j) M$ aB<|!~~~(i=j):=by rw[<-Lr];show Oa ()
def FC:bW E nO (aV x) aU M$ aB<|~~~(x=.aC):=λg h F H w e f Q q=>by cases e;show [f,q.fin w ()]
def qB:bW E fT (aV x) aU M$ aB<|!~~~(x=.aC):=λg h F H w e f Q q=>by cases e;show [f,q.fin w ()]
def FD(h:∀v F,a.p v F->v≠.aC):bW E nO a aU M$ aB ag:=λg i F H w e f Q q=>[f,by rw[aac<|h _ _ e];show q.fin w ()]
def AX(h:∀v F,a.p v F->v≠.aC):bW E fT a aU M$ aB Y:=λg i F H w e f Q q=>[f,by rw[aac<|h _ _ e];show q.fin w ()]
theorem kn{D:aH}{l:List As}{i:Nat}{j:Int}(e:j=(i:Int))(h:l[i]?=B a):bW E (fg D) (aL l) (aI j) M$ a:=λx y F H w f g Q q=>by let[p,m,rfl,n,o]:=f;let[v,s,t]:=kQ o h;cases g;show .inl<|.inl [p,m,j,v,(),(),bE.of<|w.fh _ _ n,by rw[e];show zF s,q.fin w t]
theorem agW{D:aH}{l:List As}{i:Nat}{j:Int}(e:j=(i:Int))(h:l[i]?=B a):bW E (fg D) (aQ D.K l) (aI j) M$ a:=λx y F H w f g Q q=>by let[p,m,rfl,n,o]:=f;let[v,s,t]:=kQ o h;cases g;show .inl<|.inl [p,m,j,v,(),(),ba.seq w.fh n,by rw[e];show zF s,q.fin w t]
theorem jQ{D:aH}{l:List As}{i:Nat}{j:Int}(e:j=(i:Int))(h:l[i]?=B a):bW E (fg D) (aT D.K l) (aI j) M$ a:=λx y F H w f g Q q=>by let[p,m,rfl,n,o]:=f;let[v,s,t]:=kQ o h;cases g;show .inl<|.inr<|.inl [p,m,j,v,(),(),ba.jW w.fh n,by rw[e];show zF s,q.fin w t]
theorem FE{D:aH}{z:Str}{i:Nat}{j:Int}{cp:Nat}(e:j=(i:Int))(f:z.length<=sizeLine)(h:z.cps.toList[i]?=B cp):bW E (fg D) (aS z) (aI j) M$ aS [(bS #[cp])]:=λx y F H w g l Q q=>by cases g;cases l;show .inl<|.inr<|.inr [z,j,cp,(),(),f,by rw[e];show zF h,q.fin w ()]
theorem pP{i:Type}[DecidableEq i]{F:Hp}{aE:List<|i×V}{fs:List<|i×As}(h:fA F aE fs){k:i}:(∀a,((fs.find? λf=>~~~(f.1=k)).map (·.2))=B a->∃v,eF aE k=B v/\a.p v F)/\(((fs.find? λf=>~~~(f.1=k)).map (·.2))=Z->eF aE k=Z):=by induction h with|nil=>show [λ_ e=>by simp at e,λ_=>rfl]| @cons g l aE fs r t j=>let[n,v]:=g;let[m,s]:=l;let[e,o]:=r;let e:n=m:=e;subst e;unfold eF at j⊢;rw[jD,jD];by_cases q:n=k;{simp[q];show o};simp only[aac q];show j
def fj(kvs:List<|Key×As)(k:Key):Option As:=(kvs.find? λf=>~~~(f.1=k)).map (·.2)
theorem agS{D:aH}{kvs:List<|Key×As}{k:Key}(h:fj kvs k=B a):bW E (fg D) (aD kvs) (aV<|kV k) M$ a:=λx y F H w e f Q q=>by let[p,aE,rfl,g,i]:=e;cases f;let[v,j,l]:=(pP i).1 a h;show .inr [p,v,(),.inl<|j▸k9.k (w.fh _ _ g),q.fin w l]
theorem agO{D:aH}{neg:Bool}{kvs:List<|Key×As}{k:Key}:bW E (dy D neg) (aV<|kV k) (aD kvs) M$ aB (if neg then !(fj kvs k).isSome else(fj kvs k).isSome):=λx y F H w g h Q q=>by let[p,aE,rfl,i,f]:=h;cases g;show .inr [p,eF aE k,(),.inl<|k9.k<|w.fh _ _ i,?_];let e:(eF aE k).isSome=(fj kvs k).isSome:=(by cases z:fj kvs k with|none=>rw[(pP f).2 z];rfl|some a=>let[v,j,_]:=(pP f).1 a z;rw[j];rfl);rw[e];show q.fin w ()
def zB:∀{vs xs:List V},c9 F vs (xs.map aV)->vs=xs|_,[],.nil=>rfl|_,x::xs,.cons h t=>by rw[zB t,show _=x from h]
def Fz(hx:fM x=Y)(e:xs.all fM=Y):bW E (dy D neg) (aV x) (aL<|xs.map aV) M$ aB (if neg then !jL x xs else jL x xs):=λj y F H w f g Q q=>by let[p,l,rfl,h,i]:=g;cases f;cases zB i;show .inl [p,_,(),.inl<|bE.of<|w.fh _ _ h,hx,e,q.fin w ()]
def uD(hx:fM x=Y)(e:xs.all fM=Y):bW E (dy D neg) (aV x) (aT D.K<|xs.map aV) M$ aB (if neg then !jL x xs else jL x xs):=λj y F H w f g Q q=>by let[p,l,rfl,h,i]:=g;cases f;cases zB i;show .inl [p,_,(),.inr<|ba.jW w.fh h,hx,e,q.fin w ()]
def lU:hI E (gP K) #[aL l] M$ aN l.length:=λj F H w e Q q=>by cases e with|cons h t=>cases t;let[p,f,rfl,g,i]:=h;show .inl [p,f,(),.inl<|bE.of<|w.fh _ _ g,by rw[di i];show q.fin w ()]
def Kv:hI E (gP K) #[aQ K l] M$ aN l.length:=λj F H w e Q q=>by cases e with|cons h t=>cases t;let[p,f,rfl,g,i]:=h;show .inl [p,f,(),.inl<|ba.seq w.fh g,by rw[di i];show q.fin w ()]
def DE:hI E (gP K) #[aT K l] M$ aN l.length:=λj F H w e Q q=>by cases e with|cons h t=>cases t;let[p,f,rfl,g,i]:=h;show .inl [p,f,(),.inr<|ba.jW w.fh g,by rw[di i];show q.fin w ()]
def Kw(h:z.length<=sizeLine):hI E (gP K) #[aS z] M$ aN z.length:=λg F H w e Q q=>by cases e with|cons f t=>cases t;cases f;show .inr [z,(),h,q.fin w ()]
def wx(h:M x=B (.lst l)):hI E (gP K) #[aV<|.ref x] M$ aN l.length:=λm F H w e Q q=>by cases e with|cons f t=>cases t;cases f;let[z,o,g,i,rfl,j]:=w.hs x _ h;show .inl [x,i,(),.inl<|bE.of g,by rw[di j];show q.fin w ()]
theorem all_map{α:Type}{F:Hp}{f:α->V}:∀{vs:List V}{xs:List α},c9 F vs (xs.map λx=>aV<|f x)->vs=xs.map f|_,[],.nil=>rfl|_,x::xs,.cons h t=>by rw[all_map t,show _=f x from h];rfl
theorem Y0{bs:List Bool}:hI E (pB K) #[aL<|bs.map aB] M$ aB<|bs.all id:=λi F H w e Q q=>by cases e with|cons h t=>cases t;let[p,j,rfl,f,g]:=h;cases all_map g;show [p,bs,(),bE.of<|w.fh _ _ f,q.fin w ()]
theorem Y1{bs:List Bool}:hI E (uK K) #[aL<|bs.map aB] M$ aB<|bs.any id:=λi F H w e Q q=>by cases e with|cons h t=>cases t;let[p,j,rfl,f,g]:=h;cases all_map g;show [p,bs,(),bE.of<|w.fh _ _ f,q.fin w ()]
theorem Y7{ns:List Int}:hI E (mz K) #[aL<|ns.map aI] M$ aI ns.sum:=λi F H w e Q q=>by cases e with|cons h t=>cases t;let[p,j,rfl,f,g]:=h;cases all_map g;show [p,ns,(),bE.of<|w.fh _ _ f,q.fin w ()]
def Y3:hI E sC #[aI i,aI j] M$ aI (if j>i then j else i):=λg F H w e Q q=>by cases e with|cons h t=>cases t with|cons f t=>cases t;cases h;cases f;show .inl [i,j,(),q.fin w ()]
def Y4:hI E sC #[aI i,aI j,aI k,aI l] M$ aI<|max (max (max i j) k) l:=λn F H w e Q q=>by cases e with|cons h t=>cases t with|cons f t=>cases t with|cons g t=>cases t with|cons m t=>cases t;cases h;cases f;cases g;cases m;show .inr [i,j,k,l,_,(),(),q.fin w ()]
def Ky(h:z.length=1):hI E xQ #[aS z] M$ aN<|z.cps.getD 0 0:=λg F H w e Q q=>by cases e with|cons f t=>cases t;cases f;show [z,(),h,q.fin w ()]
def Y6(h:i.natAbs.log2<1920):hI E sD #[aI i] M$ aS<|toString i:=λg F H w e Q q=>by cases e with|cons f t=>cases t;cases f;show [i,(),h,q.fin w ()]
def Kx(h:ED E te ρ M<|.vl (aI i) M1):ED E (iU jc te) ρ M<|.vl (aI<|-i) M1:=eD h @p_ λv f F H R w e Q q=>[i,e,q.fin w ()]
end
section
variable{E:XK}{ρ ρ1 ρ2:En}{M M1 M2 M3:Mu}{ta tb tc te to:TE}{a b c d:As}{r:Rz As}{K:aR}{t u:TS}{o:Oc}
theorem kh{t:TA}{l:List As}(g:AD E t ρ M<|.vl l M1)(h:l.length<=sizeLine):ED E (bJ t) ρ M<|.vl (aL l) M1:=eD g @p_ λi j F H R w e Q q=>[by rw[di e];show h,λp f=>q _ _ _ (Go.new w f) [p,i,(),fI,c9.up (ba.new (w.free f).1) e]]
theorem iq{t:TA}{l:List As}(g:AD E t ρ M<|.vl l M1)(h:l.length<=sizeLine):ED E (fu t) ρ M<|.vl (aT K l) M1:=eD g @p_ λi j F H R w e Q q=>[by rw[di e];show h,λp f=>q _ _ _ (Go.new w f) [p,i,(),cP.of fI,c9.up (ba.new (w.free f).1) e]]
theorem qH{t:TA}{l:List As}{i:Nat}(n:AD E t ρ M<|.vl l M1)(h:l.length<=sizeLine)(k:∀p,M1 p=Z->SD E u (ρ.set i<|B<|aV<|.ref p) (mu M1 p<|.lst l) o):SD E (bQ (b_ (bJ t)<|aY i) u) ρ M o:=λs F H R w e q=>n s F H R w _ λv x y g f=>[by rw[di f];show h,λp j=>by let m:=Go.cell (c:=.lst l) g.wf j [v,(),f];show k p (g.wf.free j).2 _ x _ ((R.up g.ff).set i ()) m.wf e<|q.after<|g.trans m]
theorem lq{C:aa}{sp:Sp}{t:TA}{l:List As}{fs:List<|Str×As}(y:AD E t ρ M<|.vl l M1)(A:∀x,M1 x=Z->CD sp (aV (.ref x)::l) (mu M1 x<|.obj C []) (.vl aU<|mu M1 x<|.obj C fs)):ED E (dN C sp [] E t) ρ M<|.vl (i3 C fs) M1:=eD y @p_ λG T F H R w I Q q x e hx f J=>by rw[j3];let g:=Go.new (o:=.own x) w f;let h:upd H e (.own x) x=Z:=(by rw[cJ<|Ne.symm J];show hx);let i:=Go.cell (c:=.obj C []) (o:=.ins C e []) g.wf h [e,[],(),.nil];show A x (w.free hx).2 (.ref x::G) _ _ (.cons () (c9.up (g.trans i).ff I)) i.wf _ E λv X H2 j m=>[m,?_];let[_,o,P,n,aE,rfl,k]:=j.wf.hs x _ bO;let p:=Go.freeze j.wf bO P;let s:=((g.trans i).trans j).trans p;rw[o9 (w.free hx).2]at s;show q _ _ _ s [x,n,aE,(),fI,fA.up p.ff k]
theorem oO{C X:aa}{sp:Sp}{t:TA}(e:AD E t ρ M<|.xc X M1):ED E (dN C sp [] E t) ρ M<|.xc X M1:=qx e λ_ _ _ z=>z
theorem xY{C:aa}{sp:Sp}{t:TA}{l:List As}{fs:List<|Str×As}{i:Nat}(z:AD E t ρ M<|.vl l M1)(A:∀x,M1 x=Z->CD sp (aV (.ref x)::l) (mu M1 x<|.obj C []) (.vl aU<|mu M1 x<|.obj C fs))(k:∀x,M1 x=Z->SD E u (ρ.set i<|B<|aV<|.ref x) (mu M1 x<|.obj C fs) o):SD E (bQ (b_ (dN C sp [] E t)<|aY i) u) ρ M o:=λG F H R w e q=>z G F H R w _ λI F1 J g P x f hx h Q=>by rw[j3];let j:=Go.new (o:=.own x) g.wf h;let m:upd J f (.own x) x=Z:=(by rw[cJ<|Ne.symm Q];show hx);let n:=Go.cell (c:=.obj C []) (o:=.ins C f []) j.wf m [f,[],(),.nil];show A x (g.wf.free hx).2 (.ref x::I) _ _ (.cons () (c9.up (j.trans n).ff P)) n.wf _ E λv T X s p=>[p,?_];let y:=(j.trans n).trans s;show k x (g.wf.free hx).2 _ T X ((R.up<|g.ff.trans y.ff).set i ()) s.wf e<|q.after<|g.trans y
def bV(h:ED E te ρ M<|.vl a M1):SD E (ah te) ρ M<|.rt a M1:=λf F H R w e q=>h f F H R w _ q
def PX(h:ED E te ρ M<|.xc C M1):SD E (ah te) ρ M<|.xc C M1:=λf F H R w e q=>h f F H R w _ q
def aF(h:ED E te ρ M<|.vl a M1)(e:a=b):SD E (ah te) ρ M<|.rt b M1:=e▸bV h
def pJ(h:ED E te ρ M<|.vl (aV<|.ref x) M1)(f:M1 x=B (.lst l)):SD E (ah te) ρ M<|.rt (aL l)<|mx M1 x:=λj F H R w e q=>h j F H R w _ λv s y g m=>by let[_,o,n,p,rfl,k]:=g.wf.hs x _ f;let i:=Go.freeze g.wf f n;show q v _ _ (g.trans i) [x,p,m,fI,c9.up i.ff k]
def ed:SD E bw ρ M<|.nx ρ M:=λf F H R w e q=>q f F H (Go.refl w) R
def bg(h:SD E t ρ M<|.nx ρ1 M1)(k:SD E u ρ1 M1 o):SD E (bQ t u) ρ M o:=λi F H R w e q=>h i F H R w _ λf j l g R1=>k f j l R1 g.wf e<|q.after g
def ee(h:SD E t ρ M o)(k:o.out=Y):SD E (bQ t u) ρ M o:=λg F H R w e q=>h g F H R w _ (by cases o with|rt a f=>show q|nx ρ f=>cases k|xc C f=>show q)
def gR(h:SD E t ρ M<|.nx ρ1 M1)(k:gX ρ1 ρ2):SD E t ρ M<|.nx ρ2 M1:=λi F H R w e q=>h i F H R w e λf j l g R1=>q f j l g<|R1.less k
def Br(h:SD E t ρ M<|.nx ρ1 M1)(k:gX ρ1 ρ2)(e:M1=M2):SD E t ρ M<|.nx ρ2 M2:=e▸gR h k
def jU(h:ED E te ρ M<|.vl a M1):SD E (b_ te<|aY i) ρ M<|.nx (ρ.set i<|B a) M1:=λf F H R w e q=>h f F H R w _ λv j l g m=>q _ j l g<|(R.up g.ff).set i m
def mB(h:ED E te ρ M<|.xc C M1):SD E (b_ te<|aY i) ρ M<|.xc C M1:=λf F H R w e q=>h f F H R w _ λj l g=>q j l g
def bt(h:ED E te ρ M<|.vl a M1)(k:SD E u (ρ.set i<|B a) M1 o):SD E (bQ (b_ te<|aY i) u) ρ M o:=bg (jU h) k
def hB(h:ED E te ρ M<|.vl a M1):SD E (cG te) ρ M<|.nx ρ M1:=λf F H R w e q=>h f F H R w _ λv i j g l=>q f i j g<|R.up g.ff
def G2(h:ED E te ρ M<|.xc C M1):SD E (cG te) ρ M<|.xc C M1:=λf F H R w e q=>h f F H R w _ λi j g=>q i j g
def bX(j:TD E tt ρ M<|.vl x M1)(l:x=Y->SD E t ρ M1 o)(O:x=ag->SD E u ρ M1 o):SD E (bu tt t u) ρ M o:=λf F H R w e q=>j f F H R w _ λc h i g m=>by cases m;cases x with|true=>show rZ (l () f h i (R.up g.ff) g.wf e<|q.after g)|false=>show rY<|O () f h i (R.up g.ff) g.wf e<|q.after g
def PV(f:TD E tt ρ M<|.xc C M1):SD E (bu tt t u) ρ M<|.xc C M1:=λh F H R w e q=>f h F H R w _ λi j g=>q i j g
def br(e:TD E tt ρ M<|.vl x M1)(f:x=Y->SD E t ρ M1 o)(g:o.out=Y)(O:x=ag->SD E u ρ M1 o):SD E (bQ (bu tt t bw) u) ρ M o:=by cases x with|true=>show ee (bX e f λz=>by cases z) g|false=>show bg (bX (o:=.nx ρ M1) e @j_ λ_=>ed)<|O ()
def jV:SD E (dB C E) ρ M<|.xc C M:=λf F H R w e q=>q F H<|Go.refl w
def G5(O:∀E,SD E (body E) ρ M o)(g:∀X f,o≠.xc X f):SD E (sR C body h) ρ M o:=λi F H R w e q=>O _ i F H R w e (by cases o with|rt a f=>show q|nx ρ f=>show q|xc C f=>show absurd () (g C f))
def G6(O:∀E,SD E (body E) ρ M<|.xc C M1)(l:SD E h (ρ.map λ_=>Z) M1 o):SD E (sR C body h) ρ M o:=λm F H R w f q=>O _ m F H R w f λn p g=>[(),λj s=>l j n p [by rw[aP,s];show R.ln,λi a e=>by rw[du]at e;cases z:ρ[i]?<;>rw[z]at e<;>cases e] g.wf f (q.after g)]
def ph(f:Str)(v:As):List (Str×As)->List (Str×As)|[]=>#[(f,v)]|(g,x)::r=>if g=f then(g,v)::r else(g,x)::ph f v r
def L9(i:a.p v F):∀{aE:List<|Str×V}{fs:List<|Str×As},fA F aE fs->fA F (iS f v aE) (ph f a fs)|_,_,.nil=>.cons [(),i] .nil|(g,x)::aE,(j,l)::fs,.cons h t=>by let[e,k]:=h;let e:g=j:=e;subst e;unfold iS ph;by_cases z:g=f;{rw[aab z,aab z];show .cons [(),i] t};rw[aaa z,aaa z];show .cons [(),k]<|L9 i t
def aj_(p:ED E te ρ M<|.vl a M1)(i:ED E to ρ M1<|.vl (aV<|.ref x) M2)(l:M2 x=B (.obj C fs))(s:jG K C)(z:ni K C f)(hl:fs.length<1000):SD E (cj K to te f) ρ M (.nx ρ<|mu M2 x<|.obj C<|ph f a fs):=λm F H R w e q=>p m F H R w _ λy A G h I=>i m A G (R.up h.ff) h.wf _ λv J Q g P=>by let[_,o,i,n,aE,rfl,k]:=g.wf.hs x _ l;let j:=Go.set (c':=.obj C<|ph f a fs) g.wf l [n,_,(),L9 (a.up g.ff I) k];show [x,C,n,aE,P,i,s,z,by rw[di k];show hl,q _ J _ ((h.trans g).trans j)<|R.up<|h.ff.trans g.ff]
def kM(h:M x=B (.lst l))(hl:l.length<sizeLine):wb E pC (aV<|.ref x) #[a] M<|.vl aU<|mu M x<|.lst<|l++#[a]:=λv m F H w e f Q q=>by cases f with|cons g t=>cases t;cases e;let[_,o,i,j,rfl,k]:=w.hs x _ h;show [x,j,_,(),(),i,by rw[di k];show hl,q _ F _ (Go.set (c':=.lst<|l++#[a]) w h [_,(),sx k<|.cons g .nil]) ()]
def Av(h:M x=B (.lst l))(hl:l.length+m.length<=sizeLine):wb E jb (aV<|.ref x) #[aL m] M<|.vl aU<|mu M x<|.lst<|l++m:=λv s F H w f g Q q=>by cases g with|cons i t=>cases t;cases f;let[b,j,rfl,O,e]:=i;let[_,o,n,p,rfl,k]:=w.hs x _ h;show [x,b,p,j,(),(),n,w.fh _ _ O,by rw[di k,di e];show hl,q _ F _ (Go.set (c':=.lst<|l++m) w h [_,(),sx k e]) ()]
def afZ(h:M x=B (.lst l))(hl:l[l.length-1]?=B a):wb E Bi (aV<|.ref x) [] M<|.vl a<|mu M x<|.lst l.dropLast:=λv n F H w e f Q q=>by cases f;cases e;let[_,o,g,i,rfl,k]:=w.hs x _ h;let[y,j,m]:=kQ k hl;show [x,i,y,(),(),g,by rw[di k];show j,q _ F _ (Go.set (c':=.lst l.dropLast) w h [_,(),aiV k]) m]
theorem i7{T:String}{x:aa}{l m:List As}{f:V->List V->Hp->VK->Prop}{t:TA}(h:T="list")(e:ED E to ρ M<|.vl (aV<|.ref x) M1)(i:M1 x=B (.lst l))(j:AD E t ρ M1<|.vl m M2)(n:wb E f (aV<|.ref x) m M2 r):ED E (gi K T f to t) ρ M r:=eD e @p_ λv p F H R w s Q q=>by let[_,o,e,y,rfl,k]:=w.hs x _ i;cases s;show [.inl [h,y,bE.of e],j p F H R w _ λA C G g I=>n _ A C G g.wf () I Q<|q.after g]
theorem Lb{T:String}{x X:aa}{l:List As}{f:V->List V->Hp->VK->Prop}{t:TA}(g:T="list")(e:ED E to ρ M<|.vl (aV<|.ref x) M1)(h:M1 x=B (.lst l))(i:AD E t ρ M1<|.xc X M2):ED E (gi K T f to t) ρ M<|.xc X M2:=eD e @p_ λv j F H R w m Q q=>by let[_,o,e,n,rfl,k]:=w.hs x _ h;cases m;show [.inl [g,n,bE.of e],i j F H R w _ q]
def aaf(g:T="list")(e:ED E to ρ M<|.vl (aV<|.ref x) M1)(h:M1 x=B (.lst l))(i:wb E f (aV<|.ref x) [] M1 r):ED E (BQ K T f to) ρ M r:=eD e @p_ λv n F H R w j Q q=>by let[_,o,e,m,rfl,k]:=w.hs x _ h;cases j;show [.inl [g,m,bE.of e],i _ [] F H w () .nil Q q]
theorem PZ{x:aa}{l:List As}{i:Nat}{j:Int}(C:ED E te ρ M<|.vl a M1)(n:ED E to ρ M1<|.vl (aV<|.ref x) M2)(G:ED E tb ρ M2<|.vl (aI j) M3)(A:M3 x=B (.lst l))(e:j=(i:Int))(hl:i<l.length):SD E (b_ te<|nA to tb nP) ρ M (.nx ρ<|mu M3 x<|.lst<|l.set i a):=λp F H R w f q=>C p F H R w _ λy I J g P=>n p I J (R.up g.ff) g.wf _ λv Q T h X=>G p Q T (R.up<|g.ff.trans h.ff) h.wf _ λz F3 H3 m pz=>by let[_,o,n,us,rfl,k]:=m.wf.hs x _ A;cases X;cases pz;let s:=Go.set (c':=.lst<|l.set i a) m.wf A [_,(),Gj i k<|a.up (h.ff.trans m.ff) P];show .inr [x,us,j,i,(),(),n,?_,q _ F3 _ (((g.trans h).trans m).trans s)<|R.up<|g.ff.trans<|h.ff.trans m.ff];unfold nD;rw[di k,e,aab @o_,aab @o_];simp
def putD(kvs:List<|Key×As)(k:Key)(v:As):List<|Key×As:=if(kvs.any λe=>~~~(e.1=k))=Y then kvs.map (λe=>if e.1=k then(e.1,v)else e)else kvs++#[(k,v)]
def L7:∀{aE:List<|Key×V}{fs:List<|Key×As},fA F aE fs->(aE.any λe=>~~~(e.1=k))=(fs.any λe=>~~~(e.1=k))|_,_,.nil=>rfl|g::aE,f::fs,.cons h t=>by rw[oa,oa,L7 t,h.1]
def L8(i:a.p v F):∀{aE:List<|Key×V}{fs:List<|Key×As},fA F aE fs->fA F (aE.map λe=>if e.1=k then(e.1,v)else e) (fs.map λe=>if e.1=k then(e.1,a)else e)|_,_,.nil=>.nil|g::aE,f::fs,.cons h t=>.cons (by dsimp only;rw[h.1];by_cases z:f.1=k;{rw[aab z,aab z];show [(),i]};rw[aaa z,aaa z];show h)<|L8 i t
def abx(e:a.p v F)(h:fA F aE fs):fA F (putK aE k v)<|putD fs k a:=by unfold putK putD;rw[L7 h];split;{show L8 e h};show sx h<|.cons [(),e] .nil
def Bs(p:ED E te ρ M<|.vl a M1)(i:ED E to ρ M1<|.vl (aV<|.ref x) M2)(s:ED E tb ρ M2<|.vl (aV<|kV k) M3)(n:M3 x=B (.fC kvs))(hl:kvs.length<sizeLine):SD E (b_ te<|nA to tb nP) ρ M (.nx ρ<|mu M3 x<|.fC<|putD kvs k a):=λl F H R w e q=>p l F H R w _ λy A C f G=>i l A C (R.up f.ff) f.wf _ λv I J g P=>s l I J (R.up<|f.ff.trans g.ff) g.wf _ λz Q X h T=>by let[_,o,i,us,rfl,j]:=h.wf.hs x _ n;cases P;cases T;let m:=Go.set (c':=.fC<|putD kvs k a) h.wf n [_,(),abx (a.up (g.ff.trans h.ff) G) j];show .inl [x,_,(),v9.k i<|by rw[di j];show hl,q _ Q _ (((f.trans g).trans h).trans m)<|R.up<|f.ff.trans<|g.ff.trans h.ff]
def FY:OD E gy ρ M<|.vl Z M:=λe F H R w Q q=>q.fin w ()
def sv(h:ED E te ρ M<|.vl (aI i) M1):OD E (ew te) ρ M<|.vl (B i) M1:=eD h @p_ λv f F H R w e Q q=>[i,e,q.fin w ()]
def kI(l:List As)(lo e:Option Int):List As:=(l.drop<|HT.gQ l.length 0 lo).take<|HT.gQ l.length l.length e-HT.gQ l.length 0 lo
theorem wm{F:Hp}{vs:List V}{l:List As}(h:c9 F vs l)(lo e:Option Int):c9 F (t4 vs lo e)<|kI l lo e:=by unfold t4 kI;rw[di h];show Gk _<|ON _ h
theorem zR{l:List As}{lo m:Option Int}{s v:TO}(h:ED E te ρ M<|.vl (aL l) M1)(hl:OD E s ρ M1<|.vl lo M1)(y:OD E v ρ M1<|.vl m M1):ED E (eU (eT K) te s v) ρ M<|.vl (aL<|kI l lo m) M1:=λn F H R w Q q=>h n F H R w _ λx z A f C=>hl n z A (R.up f.ff) f.wf _ λi G I g J=>y n G I (R.up<|f.ff.trans g.ff) g.wf _ λj F3 H3 e P=>by cases J;cases P;let[p,T,rfl,X,pa]:=(aL l).up (g.ff.trans e.ff) C;show [p,T,(),bE.of<|e.wf.fh _ _ X,λb O=>q _ _ _ (((f.trans g).trans e).trans<|Go.new e.wf O) [b,_,(),fI,c9.up (ba.new (e.wf.free O).1)<|wm pa lo m]]
theorem aav{l:List As}{lo m:Option Int}{s v:TO}(h:ED E te ρ M<|.vl (aQ K l) M1)(hl:OD E s ρ M1<|.vl lo M1)(y:OD E v ρ M1<|.vl m M1):ED E (eU (eT K) te s v) ρ M<|.vl (aL<|kI l lo m) M1:=λn F H R w Q q=>h n F H R w _ λx z A f C=>hl n z A (R.up f.ff) f.wf _ λi G I g J=>y n G I (R.up<|f.ff.trans g.ff) g.wf _ λj F3 H3 e P=>by cases J;cases P;let[p,T,rfl,X,pa]:=(aQ K l).up (g.ff.trans e.ff) C;show [p,T,(),ba.seq e.wf.fh X,λb O=>q _ _ _ (((f.trans g).trans e).trans<|Go.new e.wf O) [b,_,(),fI,c9.up (ba.new (e.wf.free O).1)<|wm pa lo m]]
end
section
variable{E:XK}{ρ ρ1 ρ2:En}{M M1 M2 M3:Mu}{ta tb tc te to tl:TE}{a b c d:As}{r:Rz As}{K:aR}{t u body:TS}{o:Oc}
def alJ(h:F x=B (.lst vs))(g:c9 F vs l):Walks (Dd K x) F l where
 go i j n e f m:=[vs,vs[i]'(by rw[di g];show m),bE.of<|f _ _<|e _ _ h,bF _]
 kW i j n y z e f p a q:=by let[rfl,k]:=p;let[v,s,w]:=kQ g q;let:=k vs<|bE.of<|f _ _<|e _ _ h;rw[s]at this;cases this;show [j,Ext.refl f,a.up e w]
 stop i j n e f m:=[vs,bE.of<|f _ _<|e _ _ h,by rw[di g];show m]
def alK(h:cP K F x vs)(g:c9 F vs l):Walks (De K x) F l where
 go i j n e f m:=[vs,vs[i]'(by rw[di g];show m),ba.jW (e.trans f) h,bF _]
 kW i j n y z e f p a q:=by let[rfl,k]:=p;let[v,s,w]:=kQ g q;let:=k vs<|ba.jW (e.trans f) h;rw[s]at this;cases this;show [j,Ext.refl f,a.up e w]
 stop i j n e f m:=[vs,ba.jW (e.trans f) h,by rw[di g];show m]
def ij(h:ED E tl ρ M<|.vl (aL l) M1):WD E (f7 K tl) ρ M<|.vl l M1:=eD h @p_ λv j F H R w f Q q=>by let[x,g,e,hx,i]:=f;show .inl [x,e,[g,bE.of<|w.fh _ _ hx],q.fin w<|alJ hx i]
def yw(h:ED E tl ρ M<|.vl (aT K l) M1):WD E (f7 K tl) ρ M<|.vl l M1:=eD h @p_ λv j F H R w f Q q=>by let[x,g,e,hx,i]:=f;show .inr<|.inl [x,e,[g,ba.jW w.fh hx],q.fin w<|alK hx i]
def IG(h:ED E tl ρ M<|.vl (aS z) M1):WD E (f7 K tl) ρ M<|.vl (z.cps.toList.map λc=>aS [(bS #[c])]) M1:=eD h @p_ λv s F H R w l Q q=>by cases l;show .inr<|.inr [z,(),q.fin w [λi e g _ _ f=>?_,λi e g y x A m n a j=>?_,λi e g _ _ f=>?_]];{change i<z.cps.size;simpa using f};{let[rfl,c,p,rfl]:=n;rw[du,WJ,p]at j;cases j;show [e,Ext.refl m,()]};change z.cps.size<=i;simpa using f
theorem sT{ta:TA}{n:Nat}{j:Int}(h:AD E ta ρ M<|.vl #[aI j] M1)(e:j=(n:Int))(p:n<2^62):WD E (fO ta) ρ M<|.vl ((dc n).map aN) M1:=eD h @p_ λv I F H R w s Q q=>by cases s with|cons x t=>cases t;cases x;let:(n:Int)<2^62:=(by exact_mod_cast p);show [j,(),by lia,by lia,q.fin w [λi g m _ _ l=>?_,λi g m y J P A C a f=>?_,λi g m _ _ l=>?_]];{subst e;simpa[wa]using l};{let[rfl,rfl]:=C;rw[du]at f;cases z:(dc n)[i]? with|none=>rw[z]at f;cases f|some k=>rw[z]at f;cases f;let[G,e]:=el.mp z;rw[W5]at e;subst e;show [g,Ext.refl A,by change V.int _=V.int _;congr 1;lia]};subst e;simpa[wa]using l
theorem Wn{ta:TA}{n:Nat}{i j k:Int}(h:AD E ta ρ M<|.vl #[aI i,aI j,aI k] M1)(s:Dk i j k n):WD E (w9 ta) ρ M<|.vl ((dc n).map λ(m:Nat)=>aI<|i+m*k) M1:=eD h @p_ λv T F H R w x Q q=>by cases x with|cons A t=>cases t with|cons C t=>cases t with|cons G t=>cases t;cases A;cases C;cases G;show [i,j,k,n,(),s,q.fin w [λi g p _ _ l=>?_,λm g p y X s1 I J a f=>?_,λi g p _ _ l=>?_]];{simpa[zt]using l};{let[rfl,rfl]:=J;rw[du]at f;cases z:(dc n)[m]? with|none=>rw[z]at f;cases f|some k=>rw[z]at f;cases f;let[P,e]:=el.mp z;rw[W5]at e;subst e;show [g,Ext.refl I,()]};simpa[zt]using l
def i8(K:aR)(l:List As):List As:=l.zipIdx.map λx=>aT K #[aN x.2,x.1]
def rL:U (i8 K l)=U l:=by unfold i8;rw[aP,W8]
def aaW(h:l[i]?=B a):(i8 K l)[i]?=B (aT K #[aN i,a]):=by unfold i8;rw[du,W3,h];simp
def lx(h:(i8 K l)[i]?=B x):∃a,l[i]?=B a/\x=aT K #[aN i,a]:=by cases e:l[i]? with|none=>let:U l<=i:=vt.mp e;rw[iF<|by rw[rL];show this]at h;cases h|some a=>rw[aaW e]at h;cases h;show [a,(),()]
theorem qO{ta:TA}{l:List As}(h:AD E ta ρ M<|.vl #[aL l] M1):WD E (i_ K ta) ρ M<|.vl (i8 K l) M1:=eD h @p_ λv σ F H R w G Q q=>by cases G with|cons I t=>cases t;let[x,g,rfl,hx,p]:=I;let s:∀{j m:Hp},ba F j->ba j m->bE K m x g:=λf e=>bE.of<|e _ _<|f _ _ hx;show [x,g,(),bE.of<|w.fh _ _ hx,q.fin w [λi j m f e n=>?_,λi j m y H' f e J a P=>?_,λi j m f e n=>?_]];{rw[rL,<-di p]at n;show [g,g[i],s f e,bF n]};{let[T,y',rfl,C,rfl,k]:=J;let[X,A,rfl]:=lx P;let[v,hv,pv]:=kQ p A;let:=k g<|s f e;rw[hv]at this;cases this;show [_,Ext.new e C,T,_,(),cP.of fI,.cons () (.cons (X.up (f.trans<|ba.new<|e.free C) pv) .nil)]};rw[rL,<-di p]at n;show [g,s f e,n]
def lL(K:aR)(l m:List As):List As:=(l.zip m).map λx=>aT K #[x.1,x.2]
theorem WC{l m:List As}{i:Nat}{x:As}(h:(lL K l m)[i]?=B x):∃a b,l[i]?=B a/\m[i]?=B b/\x=aT K #[a,b]:=by unfold lL at h;rw[du]at h;cases e:(l.zip m)[i]? with|none=>rw[e]at h;cases h|some y=>rw[e]at h;cases h;let[f,g]:=I0.mp e;show [y.1,y.2,f,g,()]
theorem alH{ta:TA}{l m:List As}(h:AD E ta ρ M<|.vl #[aL l,aL m] M1):WD E (rV K ta) ρ M<|.vl (lL K l m) M1:=eD h @p_ λv σ F H R w px Q q=>by cases px with|cons s t=>cases t with|cons A t=>cases t;let[x,n,rfl,hx,P]:=s;let[y,p,rfl,X,pb]:=A;let s:∀{g j:Hp},ba F g->ba g j->bE K j x n:=λf e=>bE.of<|e _ _<|f _ _ hx;let A:∀{g j:Hp},ba F g->ba g j->bE K j y p:=λf e=>bE.of<|e _ _<|f _ _ X;let hlen:(lL K l m).length=min n.length p.length:=(by unfold lL;rw[aP,vv,di P,di pb]);show [x,y,n,p,(),bE.of<|w.fh _ _ hx,.inl [bE.of<|w.fh _ _ X,q.fin w [λi g j f e C=>?_,λi g j z H' f e hz a ha=>?_,λi g j f e C=>?_]]];{rw[hlen]at C;show [n,p,n[i]'@o_,p[i]'@o_,s f e,A f e,bF _,bF _]};{let[T,v,u,rfl,G,rfl,k1,k2]:=hz;let[a',b',I,J,rfl]:=WC ha;let[v',hv,pv]:=kQ P I;let[u',hu,pu]:=kQ pb J;let e1:=k1 n<|s f e;let e2:=k2 p<|A f e;rw[hv]at e1;rw[hu]at e2;cases e1;cases e2;show [_,Ext.new e G,T,_,(),cP.of fI,.cons (a'.up (f.trans<|ba.new<|e.free G) pv)<|.cons (b'.up (f.trans<|ba.new<|e.free G) pu) .nil]};rw[hlen]at C;show [n,p,s f e,A f e,by lia]
theorem Wo{ta:TA}{l m:List As}(h:AD E ta ρ M<|.vl #[aL l,aT K m] M1):WD E (rV K ta) ρ M<|.vl (lL K l m) M1:=eD h @p_ λv σ F H R w px Q q=>by cases px with|cons s t=>cases t with|cons A t=>cases t;let[x,n,rfl,hx,P]:=s;let[y,p,rfl,X,pb]:=A;let s:∀{g j:Hp},ba F g->ba g j->bE K j x n:=λf e=>bE.of<|e _ _<|f _ _ hx;let A:∀{g j:Hp},ba F g->ba g j->cP K j y p:=λf e=>ba.jW (f.trans e) X;let hlen:(lL K l m).length=min n.length p.length:=(by unfold lL;rw[aP,vv,di P,di pb]);show [x,y,n,p,(),bE.of<|w.fh _ _ hx,.inr [ba.jW w.fh X,q.fin w [λi g j f e C=>?_,λi g j z H' f e hz a ha=>?_,λi g j f e C=>?_]]];{rw[hlen]at C;show [n,p,n[i]'@o_,p[i]'@o_,s f e,A f e,bF _,bF _]};{let[T,v,u,rfl,G,rfl,k1,k2]:=hz;let[a',b',I,J,rfl]:=WC ha;let[v',hv,pv]:=kQ P I;let[u',hu,pu]:=kQ pb J;let e1:=k1 n<|s f e;let e2:=k2 p<|A f e;rw[hv]at e1;rw[hu]at e2;cases e1;cases e2;show [_,Ext.new e G,T,_,(),cP.of fI,.cons (a'.up (f.trans<|ba.new<|e.free G) pv)<|.cons (b'.up (f.trans<|ba.new<|e.free G) pu) .nil]};rw[hlen]at C;show [n,p,s f e,A f e,by lia]
def GD(g:TG)(is:List Nat)(a:As)(ρ ρ':En):Prop:=∀v f F H,Rel F f ρ->ba F H->a.p v F->∀Q:St->Hp->Prop,(∀e,Rel F e ρ'->U e=U f->(∀j,j∉is->e[j]?=f[j]?)->Q e H)->g v f H Q
def bL:GD (aY i) #[i] a ρ<|ρ.set i<|B a:=λv g F H R s e Q q=>q _ (R.set i e) (by rw[og]) λj f=>by rw[vu,aaa λz=>f<|by simp[z]]
def iu:GD (hZ K 2<|dJ (aY i)<|dJ (aY k) hX) #[i,k] (aT K #[a,b]) ρ<|(ρ.set i<|B a).set k<|B b:=λv m F H R s f Q q=>by let[x,n,rfl,hx,g]:=f;cases g with|cons h t=>cases t with|cons l t=>cases t;show [x,_,(),ba.jW s hx,(),_,_,(),_,_,(),(),q _ ((R.set i h).set k l) (by rw[og,og]) λj e=>?_];rw[vu,aaa λz=>e<|by simp[z],vu,aaa λz=>e<|by simp[z]]
def jd(ρ:Nat->En)(v:Nat->Mu)(hw:WD E wi (ρ 0) M<|.vl l<|v 0)(hs:∀j a,l[j]?=B a->∃ρ1,GD g is a (ρ j) ρ1/\SD E body ρ1 (v j) (.nx (ρ<|j+1)<|v<|j+1)):SD E (fH wi g body) (ρ 0) M (.nx (ρ (U l))<|v (U l)):=λσ F H R w f q=>hw σ F H R w _ λJ P H1 X Q=>by show [λi m n y=>m=U l-i/\i<=U l/\∃s,Rel s n (ρ i)/\Go F H M s y (v i)/\ba P s,[_,(),iH _,P,R.up X.ff,X,ba.refl _],?_];rintro i m n y ⟨rfl,hi,s,R',gg,G⟩;by_cases p:i<U l;{show .inr [Q.go i s y G gg.wf.fh p,λC z=>∃A,Rel A C (ρ<|i+1)/\Go F H M A z (v<|i+1)/\ba P A,λC z h=>[U l-(i+1),by omega,(),p,h],λx z hy=>?_];let[A,I,px]:=Q.kW i s y x z G gg.wf.fh hy l[i]<|bF p;let[ρ1,hg,O]:=hs i l[i]<|bF p;let g2:=gg.trans<|Go.ext gg.wf I;show hg x n A z (R'.up I.gg) I.gh px _ λT R3 _ _=>O T A z R3 g2.wf _ λσ4 F4 H4 g4 R4=>[F4,R4,g2.trans g4,G.trans<|I.gg.trans g4.ff]};let e:i=U l:=@O_;subst e;show .inl [Q.stop _ s y G gg.wf.fh<|bD _,q n s y gg R']
def pH(ρ:Nat->En)(P:Nat->Mu)(n:Nat)(hn:n<U l)(hw:WD E wi (ρ 0) M<|.vl l<|P 0)(hs:∀j a,j<n->l[j]?=B a->∃ρ1,GD g is a (ρ j) ρ1/\SD E body ρ1 (P j) (.nx (ρ<|j+1)<|P<|j+1))(he:∀a,l[n]?=B a->∃ρ1,GD g is a (ρ n) ρ1/\SD E body ρ1 (P n) o)(ho:o.out=Y):SD E (fH wi g body) (ρ 0) M o:=λσ F H R w f q=>hw σ F H R w _ λJ F1 H1 g1 wk=>by{
show [λi m v Q=>m=n+1-i/\i<=n/\∃A,Rel A v (ρ i)/\Go F H M A Q (P i)/\ba F1 A,[_,(),iH _,F1,R.up g1.ff,g1,ba.refl _],?_];rintro i m v Q ⟨rfl,hi,A,R',gg,T⟩;let p:i<U l:=by omega
by_cases X:i<n;{show .inr [wk.go i A Q T gg.wf.fh p,λσ2 s=>∃y,Rel y σ2 (ρ<|i+1)/\Go F H M y s (P<|i+1)/\ba F1 y,λσ2 s h=>[n+1-(i+1),by omega,(),X,h],λx s hy=>?_];let[y,G,px]:=wk.kW i A Q x s T gg.wf.fh hy l[i]<|bF p;let[ρ1,hg,O]:=hs i l[i] X<|bF p;let g2:=gg.trans<|Go.ext gg.wf G;show hg x v y s (R'.up G.gg) G.gh px _ λI R3 _ _=>O I y s R3 g2.wf _ λσ4 F4 H4 g4 R4=>[F4,R4,g2.trans g4,T.trans<|G.gg.trans g4.ff]};let e:i=n:=by omega
subst e;show .inr [wk.go i A Q T gg.wf.fh p,λ_ _=>False,λ_ _ z=>z.elim,λx s hy=>?_];let[y,G,px]:=wk.kW i A Q x s T gg.wf.fh hy l[i]<|bF p;let[ρ1,hg,O]:=he l[i]<|bF p;let g2:=gg.trans<|Go.ext gg.wf G;show hg x v y s (R'.up G.gg) G.gh px _ λI R3 _ _=>O I y s R3 g2.wf _ ?_;let q':=q.after g2;cases o with|rt a M'=>show q'|nx ρ M'=>cases ho|xc C M'=>show q'}
def G7(n:Nat)(ρ:Nat->En)(l iK:Nat->Mu)(Q:∀j,j<n->TD E tt (ρ j) (l j) (.vl Y<|iK j))(O:∀j,j<n->SD E body (ρ j) (iK j) (.nx (ρ<|j+1)<|l<|j+1))(T:TD E tt (ρ n) (l n)<|.vl ag M1):SD E (mG tt body) (ρ 0) (l 0) (.nx (ρ n) M1):=λσ F H R w f q=>by show [λm g y=>∃i,m=n-i/\i<=n/\∃x,Rel x g (ρ i)/\Go F H (l 0) x y (l i),[_,0,(),iH _,F,R,Go.refl w],?_];rintro m g y ⟨i,rfl,hi,x,z,A⟩;by_cases p:i<n;{show Q i p g x y z A.wf _ λc G I v J=>?_;cases J;rw[aab ()];show [λs P=>∃C,Rel C s (ρ<|i+1)/\Go F H (l 0) C P (l<|i+1),λs P h=>[n-(i+1),by lia,i+1,(),p,h],O i p g G I (z.up v.ff) v.wf _ λs C P X R2=>[C,R2,(A.trans v).trans X]]};let e:i=n:=@o_;subst e;show T g x y z A.wf _ λc G I v J=>?_;cases J;rw[aaa @s_];show q g G I (A.trans v)<|z.up v.ff
def akc(n:Nat)(ρ:Nat->En)(l iK:Nat->Mu)(hc:∀j,j<=n->TD E tt (ρ j) (l j) (.vl Y<|iK j))(O:∀j,j<n->SD E body (ρ j) (iK j) (.nx (ρ<|j+1)<|l<|j+1))(he:SD E body (ρ n) (iK n) o)(ho:o.out=Y):SD E (mG tt body) (ρ 0) (l 0) o:=λσ F H R w f q=>by show [λm g A=>∃i,m=n+1-i/\i<=n/\∃x,Rel x g (ρ i)/\Go F H (l 0) x A (l i),[_,0,(),iH _,F,R,Go.refl w],?_];rintro m g A ⟨i,rfl,hi,x,G,I⟩;show hc i hi g x A G I.wf _ λc P Q s pc=>?_;cases pc;rw[aab ()];by_cases v:i<n;{show [λp J=>∃y,Rel y p (ρ<|i+1)/\Go F H (l 0) y J (l<|i+1),λp J h=>[n+1-(i+1),by omega,i+1,(),v,h],O i v g P Q (G.up s.ff) s.wf _ λp y J g2 R2=>[y,R2,(I.trans s).trans g2]]};let e:i=n:=@O_;subst e;show [λ_ _=>False,λ_ _ z=>z.elim,he g P Q (G.up s.ff) s.wf _ ?_];let T:=q.after<|I.trans s;cases o with|rt a X=>show T|nx ρ X=>cases ho|xc C X=>show T
theorem Go.own{F H i l:Hp}{M j:Mu}{f:aa}{u:HO}(g:Go F H M i l j)(m:H f=Z)(n:i f=Z)(q:j f=Z):Go F H M i (upd l f u) j:=by{
show [g.ff,[λb o e=>?_,λp c h=>?_],λb o e z=>?_]
.let:b≠f:=λy=>by subst y;rw[n]at e;cases e
 rw[cJ this];show g.wf.fh _ _ e
.let:p≠f:=λy=>by subst y;rw[q]at h;cases h
 rw[cJ this];show g.wf.hs p c h
rw[cJ<|jy e m];show g.kp b o e z}
theorem Go.ice{F H i j:Hp}{M l:Mu}{f:aa}{u:HO}(g:Go F H M i j l)(n:H f=Z)(m:i f=Z)(q:l f=Z)(s:j f=B u):Go F H M (upd i f u) j l:=by show [g.ff.trans<|ba.new m,[λb o e=>?_,λp c h=>?_],λb o e z=>?_];{by_cases y:b=f;{subst y;rw[fI]at e;cases e;show s};rw[cJ y]at e;show g.wf.fh _ _ e};{(let:p≠f:=λy=>by subst y;rw[q]at h;cases h);let[v,o,w,x]:=g.wf.hs p c h;show [by rw[cJ this];show v,o,w,Cl.up (ba.new m) x]};rw[cJ<|jy e n];show g.kp b o e z
def YD(E:XK)(g:TG)(tt:TT)(te:TE)(is:List Nat)(ρ:En)(a:As)(M e:Mu)(s f:List As):Prop:=∃ρ1,GD g is a (j0 ρ is) ρ1/\((∃b M1,TD E tt ρ1 M (.vl Y M1)/\ED E te ρ1 M1 (.vl b e)/\f=s++#[b])\/(TD E tt ρ1 M (.vl ag e)/\f=s))
def D_(A:Nat->Mu)(acc:Nat->List As)(n:Nat)(hw:WD E wi ρ M<|.vl l<|A 0)(h0:acc 0=[])(hz:l.length<=sizeLine)(hn:n<=l.length)(hl:∀j,(acc j).length<=j)(hs:∀j a,j<n->l[j]?=B a->YD E g tt te is ρ a (A j) (A<|j+1) (acc j) (acc<|j+1))(hf:(n=l.length/\r=.vl (aL<|acc n) (A n))\/∃C M',r=.xc C M'/\n<l.length/\∀a,l[n]?=B a->∃ρ1 M1,GD g is a (j0 ρ is) ρ1/\TD E tt ρ1 (A n) (.vl Y M1)/\ED E te ρ1 M1 (.xc C M')):ED E (cH wi g tt te is) ρ M r:=λσ F H R w Q q=>hw σ F H R w _ λJ F1 H1 g1 wk f hD=>by{
let T:=(g1.wf.free hD);show [λi m X=>m=n+1-i/\i<=n/\∃I G,Go F1 H1 (A 0) I X (A i)/\I f=Z/\A i f=Z/\X f=B (.lst G)/\c9 I G (acc i),[_,(),iH _,F1,[],(Go.refl g1.wf).own hD T.1 T.2,T.1,T.2,fI,by rw[h0];show .nil],?_];rintro i m X ⟨rfl,hi,I,G,gg,fD,mD,hv,pa⟩;by_cases ma:i<n
.let p:i<l.length:=by omega
 show .inr [wk.go i I X gg.ff gg.wf.fh p,λv=>∃P G,Go F1 H1 (A 0) P v (A<|i+1)/\P f=Z/\A (i+1) f=Z/\v f=B (.lst G)/\c9 P G (acc<|i+1),λv h=>[n+1-(i+1),by omega,(),ma,h],λx v hy=>?_];let[P,ex,px]:=wk.kW i I X x v gg.ff gg.wf.fh hy l[i]<|bF p;let[ρ1,hg,O]:=hs i l[i] ma<|bF p;let ge:=Go.ext gg.wf ex;show hg x _ P v ((((R.up g1.ff).up gg.ff).up ex.gg).wipe is) ex.gh px _ λs R3 l3 k3=>[WA (by rw[l3,vk]) k3,?_];rcases O with⟨b,M1,ht,O,e⟩|⟨ht,e⟩
 {show ht s P v R3 ge.wf _ λc F3 H3 g3 pc=>?_;cases pc;rw[aab ()];show O s F3 H3 (R3.up g3.ff) g3.wf _ λy F4 H4 g4 py=>?_;let gt:=(ge.trans g3).trans g4;let[EH,Ab,Au]:=gt.kp f _ hv mD;show [G,EH,?_,F4,G++#[y],(gg.trans gt).own hD (Ab.trans fD) Au,Ab.trans fD,Au,fI,?_];{rw[di pa];let:=hl i;omega};rw[e];show sx (c9.up gt.ff pa)<|.cons py .nil};show ht s P v R3 ge.wf _ λc F3 H3 g3 pc=>?_;cases pc;rw[aaa @s_];let gt:=ge.trans g3;let[EH,Ab,Au]:=gt.kp f _ hv mD;show [F3,G,gg.trans gt,Ab.trans fD,Au,EH,by rw[e];show c9.up gt.ff pa]
let e:i=n:=by omega
subst e;rcases hf with⟨e,rfl⟩|⟨C,M',rfl,p,hx⟩
.show .inl [wk.stop _ I X gg.ff gg.wf.fh<|tI e.symm,q _ (upd I f<|.lst G) X (g1.trans<|gg.ice hD fD mD hv) [f,G,(),fI,c9.up (ba.new fD) pa]]
show .inr [wk.go i I X gg.ff gg.wf.fh p,λ_=>False,λ_ z=>z.elim,λx v hy=>?_];let[P,ex,px]:=wk.kW i I X x v gg.ff gg.wf.fh hy l[i]<|bF p;let[ρ1,M1,hg,ht,O]:=hx l[i]<|bF p;let ge:=Go.ext gg.wf ex;show hg x _ P v ((((R.up g1.ff).up gg.ff).up ex.gg).wipe is) ex.gh px _ λs R3 l3 k3=>[WA (by rw[l3,vk]) k3,?_];show ht s P v R3 ge.wf _ λc F3 H3 g3 pc=>?_;cases pc;rw[aab ()];show O s F3 H3 (R3.up g3.ff) g3.wf _ λF4 H4 g4=>q F4 H4<|((g1.trans gg).trans<|ge.trans g3).trans g4}
theorem BW:TD E dA ρ M$ Y:=λe F H R w Q q=>q.fin w ()
theorem t6{α:Type}{wi:TI}{g:TG}{tt:TT}{is:List Nat}{xs:List α}{f h:α->As}{p:α->Bool}(n:WD E wi ρ M<|.vl (xs.map f) M1)(q:U xs<=sizeLine)(s:∀x,x∈xs->∃ρ1,GD g is (f x) (j0 ρ is) ρ1/\TD E tt ρ1 M1 (.vl (p x) M1)/\(p x=Y->ED E te ρ1 M1 (.vl (h x) M1))):ED E (cH wi g tt te is) ρ M<|.vl (aL<|(xs.filter p).map h) M1:=by show D_ (λ_=>M1) (λj=>((xs.take j).filter p).map h) xs.length n () (by rw[aP];show q) (by rw[aP];show bD _) (λj=>?_) (λj a i m=>?_)<|.inl [by rw[aP],by rw[lO]];{rw[aP];show cu (Cn _ _) ?_;rw[gj];lia};rw[du,bF i]at m;cases m;let[ρ1,v,l,O]:=s xs[j]<|lN i;show [ρ1,v,?_];cases e:p xs[j]with|true=>rw[e]at l;show .inl [h xs[j],M1,l,O e,?_];rw[qY,bF i,IS,eV];change _=_++#[_];congr 1;change abW h (Cg p #[xs[j]])=#[h xs[j]];simp[e]|false=>rw[e]at l;show .inr [l,?_];rw[qY,bF i,IS,eV];change _++abW h (Cg p #[xs[j]])=_;simp[e]
theorem dQ{α:Type}{wi:TI}{g:TG}{is:List Nat}{xs:List α}{f h:α->As}(e:WD E wi ρ M<|.vl (xs.map f) M1)(i:U xs<=sizeLine)(j:∀x,x∈xs->∃ρ1,GD g is (f x) (j0 ρ is) ρ1/\ED E te ρ1 M1 (.vl (h x) M1)):ED E (cH wi g dA te is) ρ M<|.vl (aL<|xs.map h) M1:=by(let:=t6 (p:=λ_=>Y) (tt:=dA) e i λx hx=>by let[ρ1,l,O]:=j x hx;show [ρ1,l,BW,λ_=>O]);rwa[List.filter_eq_self.mpr λ_ _=>rfl]at this
def Eb(e:Nat->Mu)(f:WD E wi ρ M<|.vl l<|e 0)(i:U bs=U l)(m:U l<=sizeLine)(n:∀j a b,l[j]?=B a->bs[j]?=B b->∃ρ1,GD g is a (j0 ρ is) ρ1/\ED E te ρ1 (e j) (.vl b<|e<|j+1)):ED E (cH wi g dA te is) ρ M<|.vl (aL bs)<|e (U l):=by show D_ e (λj=>bs.take j) l.length f () m (bD _) (λj=>by rw[gj];lia) (λj a s p=>?_)<|.inl [(),by rw[<-i,lO]];let O:bs[j]?=B (bs[j]'@o_):=bF _;let[ρ1,q,h]:=n j a _ p O;show [ρ1,q,.inl [_,e j,BW,h,by rw[qY,O];rfl]]
def Ec(e:Nat->Mu)(n:Nat)(p:WD E wi ρ M<|.vl l<|e 0)(m:n<U l)(O:U bs=n)(q:U l<=sizeLine)(s:∀j a b,l[j]?=B a->bs[j]?=B b->∃ρ1,GD g is a (j0 ρ is) ρ1/\ED E te ρ1 (e j) (.vl b<|e<|j+1))(hx:∀a,l[n]?=B a->∃ρ1,GD g is a (j0 ρ is) ρ1/\ED E te ρ1 (e n) (.xc C M2)):ED E (cH wi g dA te is) ρ M<|.xc C M2:=by show D_ e (λj=>bs.take j) n p () q (rd m) (λj=>by rw[gj];lia) (λj a v f=>?_)<|.inr [C,M2,(),m,λa f=>?_];{let O:bs[j]?=B (bs[j]'@o_):=bF _;let[ρ1,i,h]:=s j a _ f O;show [ρ1,i,.inl [_,e j,BW,h,by rw[qY,O];rfl]]};let[ρ1,i,h]:=hx a f;show [ρ1,e n,i,BW,h]
def aas(e:WD E wi ρ M<|.xc C M1):ED E (cH wi g tt te is) ρ M<|.xc C M1:=qx e λ_ _ _ z=>z
def jY(n:Nat)(l:List As):En:=l.map B++yK (n-U l) Z
def xW(h:c9 F vs l):Rel F (vs.map B++yK (k-vs.length) Z)<|jY k l:=[by unfold jY;rw[cA,cA,aP,aP,Co,Co,di h],λi a e=>by unfold jY at e;rw[List.getElem?_append]at e⊢;rw[aP]at e⊢;rw[di h];by_cases z:i<l.length;{rw[aab z]at e⊢;rw[du]at e⊢;cases y:l[i]? with|none=>rw[y]at e;cases e|some j=>rw[y]at e;cases e;let[v,f,g]:=kQ h y;show [v,by rw[f];rfl,g]};rw[aaa z]at e;rw[IW]at e;split at e<;>cases e]
section
variable{tf:aH->XK->TS}{G:aH}{i k n:Nat}{l:List As}
def aK(h:∀E,SD E (tf G E) (jY k l) M<|.rt a M1)(hl:l.length=n):CD (qS i k n tf G) l M<|.vl a M1:=by rw[sy];show λf F H e w Q E q=>[by rw[di e];show hl,h E _ F H (xW e) w _ q]
def jJ(h:∀E,SD E (tf G E) (jY k l) M<|.nx ρ' M1)(hl:l.length=n):CD (qS i k n tf G) l M<|.vl aU M1:=by rw[sy];show λp F H e w Q E q=>[by rw[di e];show hl,h E _ F H (xW e) w _ λf j m g _=>q _ j m g ()]
def lp(h:∀E,SD E (tf G E) (jY k l) M<|.xc C M1)(hl:l.length=n):CD (qS i k n tf G) l M<|.xc C M1:=by rw[sy];show λf F H e w Q E q=>[by rw[di e];show hl,h E _ F H (xW e) w _ q]
end
def aj9(h:SD E t ρ M<|.rt a M1)(k:∀p c,M2 p=B c->M1 p=B c):SD E t ρ M<|.rt a M2:=λf F H R w e q=>h f F H R w e λv i j g l=>q v i j (g.drop k) l
def pG(h:SD E t ρ M<|.xc C M1)(k:∀p c,M2 p=B c->M1 p=B c):SD E t ρ M<|.xc C M2:=λf F H R w e q=>h f F H R w e λi j g=>q i j<|g.drop k
end
def pf:List Str:=(#["end","const","place","move","two","one","fused","mantissa","convert","compare","isnan","choose","test","masks","cell","store","hand","fail","skip","loop","round","back","call","tell","ask","copy","function","power","draw"]:List String).map dj
def ck(o:Nat):Str:=pf.getD o ""
def cK(b:Bool):Nat:=if b then 1 else 0
def qr:List Str:=(#["Shape","Result","Hold","Call","Instruction","Piece","Code","ByteReader","LineReader","Loops","Holder"]:List String).map dj
def attrL:List Str:=(#["kind","lengths","shape","joining","bank","number","form","which","u","v","operands","results","op","mask","aux","dst","a","b","c","where","imm","to","twelfth","word","axes","inputs","place","flag","body","data_slots","slots","names","pieces","calls","main","row","spot","lines","code","innermost","back_of_loop","loop_of_back","depth","rounds"]:List String).map dj
def eI(l:List String):List V:=l.map λs=>V.str<|dj s
def ez(l:List Int):List V:=l.map V.int
def Iq:List<|String×List V:=#[("ASKING_NO_MORE",eI #["end","fail","skip","loop","round","back"]),("BEGINNING",ez #[76,87,67,49]),("CALL_HEAD_MOST",ez #[1,255,255,18446744073709551615,18446744073709551615]),("CELL_BYTES",ez #[1,1,2,4,8,1,2,4,8,2,2,4,8]),("FOLDS",ez #[0,2,3]),("INSTRUCTION_MOST",ez #[255,255,255,65535,65535,65535,65535,4294967295,18446744073709551615,4294967295]),("INSTRUCTION_WIDTHS",ez #[1,1,1,1,2,2,2,2,4,8,4,4]),("KINDLESS",eI #["move","choose"]),("NO_CODE",ez #[1,0]),("NUMBERS_OF_CALL",ez #[0,0,0,0,1,1,2,2,1,1,0,0,0]),("OF_ANY_KIND",eI #["const","convert","compare"]),("OPERANDS_OF",ez #[1,2,1,1,1,2,1,2,1,1,0]),("OP_WORDS",pf.map V.str),("PUTTING_NO_DST",eI #["back","copy"]),("ROWS_OF_CALL",ez #[0,1,1,0,0,0,0,0,0,0,0,0,1]),("U_NAMED_BY",ez #[0,6,7]),("V_NAMED_BY",ez #[0,6])]
def uQ:List String:=#["fold_is_good","product_is_good","turn_is_good","sorted_is_good","order_is_good","pick_is_good","part_is_good","join_is_good","as_is_good","fill_is_good","places_is_good"]
def pK:List<|String×List String:=#[("const",#["kind","dst","imm"]),("move",#["dst","a"]),("two",#["kind","aux","dst","a","b"]),("one",#["kind","aux","dst","a","imm"]),("fused",#["kind","dst","a","b","c"]),("mantissa",#["kind","dst","a"]),("convert",#["kind","aux","dst","a"]),("compare",#["kind","aux","dst","a","b"]),("isnan",#["kind","dst","a"]),("choose",#["dst","a","b","c"]),("function",#["kind","aux","dst","a"]),("power",#["kind","dst","a","b"]),("draw",#["kind","aux","dst","a","b"])]
def oM:List<|String×List String:=#[("end",[]),("place",#["mask","dst","a"]),("test",#["mask","dst","a"]),("masks",#["aux","dst","a","b"]),("cell",#["mask","aux","dst","a"]),("store",#["mask","aux","a","b","c"]),("hand",#["mask","aux","a"]),("fail",#["mask","imm"]),("skip",#["mask","to"]),("loop",[]),("round",#["mask","imm","to"]),("back",#["to"])]
def o6:List<|String×List String:=#[("end",[]),("cell",#["aux","dst","a"]),("fail",#["imm"]),("skip",#["aux","a","to"]),("loop",#["dst","imm","to"]),("back",#["dst","imm","to"]),("call",#["imm"]),("tell",#["kind","aux","a"]),("ask",#["kind","aux","dst","imm"]),("copy",#["dst","a"])]
abbrev sw(s:String):Str:=dj s
def ly(K:aR)(l:List<|String×List String):List<|Key×As:=l.map λq=>(.inr<|sw q.1,aT K<|(eI q.2).map aV)
def nj(D:aH)(kvs:List<|Key×As):As:=[λv H=>∃x aE,v=.ref x/\(x,aE)∈D.dk/\fA H aE kvs,λs h=>let⟨a,aE,e,g,k⟩:=h;[a,aE,e,g,fA.up s k]]
structure Tk (D:aH):Prop where
 cls:∀c∈qr,jG D.K (D.ad c)
 na:∀c∈qr,∀f∈attrL,ni D.K (D.ad c) f
 tup:∀q∈Iq,∀H,cP D.K H (D.ad<|sw q.1) q.2
 rules:∀H,cP D.K H (D.ad "RULES") (uQ.map λf=>V.ref<|D.ad<|sw f)
 words:∃o,D.K.lookup (D.ad "OP_WORDS")=B o/\o.cls=.type "tuple"/\o.dict=Z
 shared:∀H,(nj D<|ly D.K pK).p (.ref<|D.ad "SHARED_FIELDS") H
 body:∀H,(nj D<|ly D.K oM).p (.ref<|D.ad "BODY_FIELDS") H
 main:∀H,(nj D<|ly D.K o6).p (.ref<|D.ad "MAIN_FIELDS") H
 aux:∃kvs,(D.ad "MOST_AUX",kvs)∈D.dk/\kvs=#[(.inr "convert",.int 13),(.inr "compare",.int 7),(.inr "function",.int 8)]
section
variable(D:aH)
abbrev bA(l:List Nat):As:=aL<|l.map aN
abbrev aName(b:aj):As:=aL<|b.map λc=>aN c.toNat
abbrev bK(s:bT):As:=i3 (D.ad "Shape") #[("kind",aN s.kind),("lengths",bA s.lens)]
abbrev js(r:i0):As:=i3 (D.ad "Result") #[("shape",bK D r.shape),("joining",aN r.join)]
abbrev dZ(h:c5):As:=i3 (D.ad "Hold") #[("bank",aN<|cK h.number),("number",aN h.i)]
abbrev c_(c:dY):As:=i3 (D.ad "Call") #[("form",aN<|cK c.fn),("which",aN c.which),("kind",aN c.kind),("u",aN c.u),("v",aN c.v),("operands",aL<|c.operands.map<|dZ D),("results",aL<|c.results.map<|dZ D)]
abbrev bb(o:bf):As:=i3 (D.ad "Instruction") #[("op",aN o.op),("kind",aN o.kind),("mask",aN o.mask),("aux",aN o.aux),("dst",aN o.dst),("a",aN o.a),("b",aN o.b),("c",aN o.c),("where",aN o.where_),("imm",aN o.imm),("to",aN o.to),("twelfth",aN o.zero),("word",aS<|ck o.op)]
abbrev ej(x:cg):As:=i3 (D.ad "Piece") #[("axes",bA x.axes),("inputs",aL<|x.inputs.map<|bK D),("results",aL<|x.results.map<|js D),("place",aN x.place),("flag",aN<|cK x.mains),("body",aL<|x.body.map<|bb D)]
abbrev bH(x:a7):As:=i3 (D.ad "Code") #[("data_slots",aN x.data),("slots",aL<|x.slots.map<|bK D),("names",aL<|x.names.map aName),("pieces",aL<|x.pieces.map<|ej D),("calls",aL<|x.calls.map<|c_ D),("main",aL<|x.main.map<|bb D)]
def fL:Option bT->As|none=>aU|some s=>bK D s
def er:Option Nat->As|none=>aU|some n=>aN n
end
section
variable{D:aH}{E:XK}{ρ ρ1 ρ2:En}{M M1 M2 M3:Mu}{ta tb tc te to tl:TE}{a b c d:As}{r:Rz As}
def z7(T:Tk D)(h:ED E te ρ M<|.vl (i3 (D.ad k) fs) M1)(l:fs.lookup f=B a)(e:(~~~(k∈qr)&&~~~(f∈attrL))=Y):ED E (fV D.K te f) ρ M<|.vl a M1:=by rw[a6,aaQ,aaQ]at e;show aam h (T.cls k e.1) (T.na k e.1 f e.2) l
def gJ(T:Tk D)(h:ED E te ρ M<|.vl (aV<|.ref x) M1)(g:M1 x=B (.obj (D.ad k) fs))(l:fs.lookup f=B a)(e:(~~~(k∈qr)&&~~~(f∈attrL))=Y):ED E (fV D.K te f) ρ M<|.vl a M1:=by rw[a6,aaQ,aaQ]at e;show aan h g (T.cls k e.1) (T.na k e.1 f e.2) l
def uS(T:Tk D)(g:ED E te ρ M<|.vl a M1)(h:ED E to ρ M1<|.vl (aV<|.ref x) M2)(i:M2 x=B (.obj (D.ad k) fs))(e:(~~~(k∈qr)&&~~~(f∈attrL))=Y)(hl:fs.length<1000):SD E (cj D.K to te f) ρ M (.nx ρ<|mu M2 x<|.obj (D.ad k)<|ph f a fs):=by rw[a6,aaQ,aaQ]at e;show aj_ g h i (T.cls k e.1) (T.na k e.1 f e.2) hl
def tV:∀l:List V,c9 F l (l.map aV)|[]=>.nil|v::l=>.cons () (tV l)
def gZ(T:Tk D)(h:(n,l)∈Iq):ED E (tC<|.ref<|D.ad<|sw n) ρ M$ aT D.K<|l.map aV:=wH λF=>[_,_,(),T.tup _ h F,tV l]
def agU(h:fj kvs k=B a):bW E (fg D) (nj D kvs) (aV<|kV k) M$ a:=λx y F H w e f Q q=>by let[p,aE,rfl,g,i]:=e;cases f;let[v,j,l]:=(pP i).1 a h;show .inr [p,v,(),.inr [aE,k,g,(),j.symm],q.fin w l]
def agP:bW E (dy D neg) (aV<|kV k) (nj D kvs) M$ aB (if neg then !(fj kvs k).isSome else(fj kvs k).isSome):=λx y F H w g h Q q=>by let[p,aE,rfl,i,f]:=h;cases g;show .inr [p,eF aE k,(),.inr [aE,k,i,(),()],?_];let e:(eF aE k).isSome=(fj kvs k).isSome:=(by cases z:fj kvs k with|none=>rw[(pP f).2 z];rfl|some a=>let[v,j,_]:=(pP f).1 a z;rw[j];rfl);rw[e];show q.fin w ()
def xE:∀v F,(i3 C fs).p v F->v≠.aC:=λv F h z=>by let[x,f,aE,e,_]:=h;rw[e]at z;cases z
variable{K:aR}
def uE:bW E fS (aI i) (aI j) M$ aB<|~~~(i<j):=uB
def FG:bW E df (aI i) (aI j) M$ aB<|~~~(i<=j):=uB
def ia:bW E ek (aI i) (aI j) M$ aB<|~~~(j<i):=uB
def N7:bW E fG (aI i) (aI j) M$ aB<|~~~(j<=i):=uB
def FI:bW E xR (aI i) (aI j) M$ aI<|i-j:=uB
def nM(h:v7 i j):bW E kR (aI i) (aI j) M$ aI<|i*j:=xC h
def N4(h:C_ i j):bW E Bc (aI i) (aI j) M$ aI<|i/j:=xC h
def AW(h:0<j):bW E xO (aI i) (aI j) M$ aI<|i % j:=xC h
def ag1(h:Dc i j):bW E GK (aI i) (aI j) M$ aI<|i*2^j.toNat:=xC h
def ag2(h:0<=j):bW E Bj (aI i) (aI j) M$ aI<|i/2^j.toNat:=xC h
def agK:bW E A_ (aI i) (aI j) M$ aI<|JB i j:=uB
def aaj(e:ED E ta ρ M<|.vl (aI i) M1)(O:ED E tb ρ M1<|.vl (aI j) M2)(f:ED E tc ρ M2$ aI k):ED E (ig df df ta tb tc) ρ M<|.vl (aB<|~~~(i<=j)&&~~~(j<=k)) M2:=Ld e O f
def Le(e:ED E ta ρ M<|.vl (aI i) M1)(O:ED E tb ρ M1<|.vl (aI j) M2)(f:ED E tc ρ M2$ aI k):ED E (ig fS fS ta tb tc) ρ M<|.vl (aB<|~~~(i<j)&&~~~(j<k)) M2:=Ld e O f
theorem DB{α:Type}{xs:List α}{p:α->Bool}:hI E (pB K) #[aL<|xs.map λx=>aB<|p x] M$ aB<|xs.all p:=by let:=Y0 (E:=E) (K:=K) (M:=M) (bs:=xs.map p);rwa[cD,vn]at this
theorem Kt{α:Type}{xs:List α}{p:α->Bool}:hI E (uK K) #[aL<|xs.map λx=>aB<|p x] M$ aB<|xs.any p:=by let:=Y1 (E:=E) (K:=K) (M:=M) (bs:=xs.map p);rwa[cD,Cc]at this
theorem rF{α:Type}{xs:List α}{p:α->Int}:hI E (mz K) #[aL<|xs.map λx=>aI<|p x] M$ aI (xs.map p).sum:=by let:=Y7 (E:=E) (K:=K) (M:=M) (ns:=xs.map p);rwa[cD]at this
def cU(h:x=Y<->y=Y):aB x=aB y:=by rw[cb.mpr h]
def ei(h:i=j):aI i=aI j:=by rw[h]
def bN(h:x=y):aB x=aB y:=by rw[h]
def agR:bW E nO (fL D o) aU M$ aB o.isNone:=by cases o with|none=>show FC (x:=.aC)|some s=>show FD xE
def ag0:bW E fT (fL D o) aU M$ aB o.isSome:=by cases o with|none=>show qB (x:=.aC)|some s=>show AX xE
def FH:bW E fT (er o) aU M$ aB o.isSome:=by cases o with|none=>show qB (x:=.aC)|some s=>show qB (x:=.int s)
def bI(h:ED E te ρ M<|.vl a M1)(e:a=b):ED E te ρ M<|.vl b M1:=e▸h
def bZ:ED E (tC<|.int<|OfNat.ofNat n) ρ M$ aN<|OfNat.ofNat n:=aM
theorem qA{α:Type}{xs:List α}{f:α->As}{i:Nat}{x:α}(h:xs[i]?=B x):bW E (fg D) (aL<|xs.map f) (aN i) M$ f x:=kn () (by rw[du,h];rfl)
def nats(l:List Nat):List V:=l.map λn=>V.int (n:Nat)
def gv(l:List Nat):PyData:=.list<|l.map λn=>.int (n:Nat)
def xx:∀l:List Nat,qg K H (nats l) (l.map λn=>.int (n:Nat))|[]=>.nil|n::l=>.cons (.int _)<|xx l
def NS:∀l:List Nat,za (l.map λn=>.int (n:Nat))=Y/\vQ (l.map λn=>.int (n:Nat))=0|[]=>[(),()]|n::l=>by let[e,f]:=NS l;show [?_,?_];{change (Y&&za (l.map λn=>.int (n:Nat)))=Y;rw[e];rfl};change max (X8<|.int (n:Nat)) (vQ<|l.map λn=>.int (n:Nat))=0;rw[f];rfl
def AI(l:List Nat):ri (gv l)=Y:=by let[e,f]:=NS l;change (za (l.map λn=>.int (n:Nat))&&~~~(vQ (l.map λn=>.int (n:Nat))+1<=64))=Y;rw[e,f];rfl
def AH:∀l m:List Nat,rh (l.map λn=>.int (n:Nat)) (m.map λn=>.int (n:Nat))= ~~~(l=m)
|[],[]=>rfl|[],_::_=>rfl
|_::_,[]=>rfl|a::l,b::m=>by let h:=AH l m;change (eX (.int (a:Nat)) (.int (b:Nat))&&rh (l.map λn=>.int (n:Nat)) (m.map λn=>.int (n:Nat)))=_;rw[h];let e:eX (.int (a:Nat)) (.int (b:Nat))= ~~~(a=b):=(by rw[cb];simp[eX];omega);rw[e];by_cases f:a=b<;>by_cases g:l=m<;>simp[f,g]
def agM:bW E (ic K) (bA l) (bA m) M$ aB<|~~~(l=m):=λx y F H w e f Q q=>by let[a,j,rfl,g,h]:=e;let[b,n,rfl,O,i]:=f;cases all_map h;cases all_map i;show .inr [gv l,gv m,.lst (.inl<|.inl<|w.fh _ _ g)<|xx l,.lst (.inl<|.inl<|w.fh _ _ O)<|xx m,AI l,AI m,?_];rw[show eX (gv l) (gv m)= ~~~(l=m)from AH l m];show q.fin w ()
def Ob:bW E (eE K) (bA l) (bA m) M$ aB<|!~~~(l=m):=λx y F H w e f Q q=>by let[a,j,rfl,g,h]:=e;let[b,n,rfl,O,i]:=f;cases all_map h;cases all_map i;show .inr [gv l,gv m,.lst (.inl<|.inl<|w.fh _ _ g)<|xx l,.lst (.inl<|.inl<|w.fh _ _ O)<|xx m,AI l,AI m,?_];rw[show eX (gv l) (gv m)= ~~~(l=m)from AH l m];show q.fin w ()
def NT(l:List Nat):(nats l).all fM=Y:=by induction l with|nil=>rfl|cons n l e=>change (fM (.int (n:Nat))&&(nats l).all fM)=Y;rw[e];rfl
def MC(n:Nat)(l:List Nat):jL (.int (n:Nat)) (nats l)=l.contains n:=by induction l with|nil=>rfl|cons m l e=>change (((m:Nat):Int)==((n:Nat):Int)||jL (.int (n:Nat)) (nats l))=_;rw[e,mP];congr 1;rw[cb];simp;lia
def agQ:bW E (dy D ag) (aN n) (bA l) M$ aB<|l.contains n:=by let:=Fz (E:=E) (D:=D) (neg:=ag) (M:=M) (x:=.int n) (xs:=nats l) () (NT l);rw[MC]at this;unfold nats at this;rwa[cD]at this
def agZ:bW E (dy D Y) (aN n) (bA l) M$ aB<|!l.contains n:=by let:=Fz (E:=E) (D:=D) (neg:=Y) (M:=M) (x:=.int n) (xs:=nats l) () (NT l);rw[MC]at this;unfold nats at this;rwa[cD]at this
def Z5(h:0<=j):kI l Z (B j)=l.take j.toNat:=by let[k,rfl]:=B_ h;unfold kI;rw[HT.GZ,HT.Bq,IP,Nat.sub_zero,sW,Xk,Nat.min_assoc,Nat.min_self]
def Z2(h:0<=j):kI l (B j) Z=l.drop j.toNat:=by let[k,rfl]:=B_ h;unfold kI;rw[HT.GZ,HT.Bq,sW];by_cases z:k<=U l;{rw[CA z];show Xl (by rw[kY];lia)};rw[Xv @o_,IM,Jg,Ce @o_]
def K8(h:0<=i)(h':0<=j):kI l (B i) (B j)=(l.drop i.toNat).take (j.toNat-i.toNat):=by let[k,rfl]:=B_ h;let[m,rfl]:=B_ h';unfold kI;rw[HT.Bq,HT.Bq,sW,sW];by_cases z:k<=U l;{rw[CA z,Xk,kY,aco,aco,Nat.min_assoc,Nat.min_self]};rw[Xv (a:=k) @o_,IM,Ce (by lia:U l<=k),Jg,Jg]
def Ef(h:ED E te ρ M<|.vl (aL l) M1)(O:ED E tb ρ M1$ aI j)(e:0<=j):ED E (eU (eT K) te gy<|ew tb) ρ M<|.vl (aL<|l.take j.toNat) M1:=Z5 e▸zR h FY (sv O)
def t7(h:ED E te ρ M<|.vl (aL l) M1)(O:ED E tb ρ M1$ aI j)(e:0<=j):ED E (eU (eT K) te (ew tb) gy) ρ M<|.vl (aL<|l.drop j.toNat) M1:=Z2 e▸zR h (sv O) FY
def Lh(h:ED E te ρ M<|.vl (aL l) M1)(e:ED E ta ρ M1$ aI i)(O:ED E tb ρ M1$ aI j)(f:0<=i)(g:0<=j):ED E (eU (eT K) te (ew ta)<|ew tb) ρ M<|.vl (aL<|(l.drop i.toNat).take<|j.toNat-i.toNat) M1:=K8 f g▸zR h (sv e) (sv O)
def agY(e:0<=j)(h:l[j.toNat]?=B a):bW E (fg D) (aL l) (aI j) M$ a:=kn @o_ h
def FF(e:0<=j)(h:l[j.toNat]?=B a):bW E (fg D) (aT D.K l) (aI j) M$ a:=jQ @o_ h
def sz:1000000<=sizeLine:=by decide
def lz(h:mU n 1000000=Y):n<=sizeLine:=cu (cX h) sz
def AU(h:U l+U m<=sizeLine):bW E (ib K) (bA l) (bA m) M$ bA<|l++m:=by let:=jz (E:=E) (K:=K) (M:=M) (l:=l.map aN) (m:=m.map aN) (by rw[aP,aP];show h);rwa[<-eV]at this
end
open PySem PySem.Spec PyProof.Rows Mx
local macro_rules|`(tactic|walk_at $s)=>do
 let mut r<-`(tactic|fail)
 for x in((match s.getString with
  |"e"=>"af r,bZ,amR h,amS h,amP h,amQ h,amU h,amV h,amT h,Zk he,Ek ha,aM,z7 herd,ax eeo,az ak,dm ab,kg eE,Ee eE,Lg e,aaj eee,Le eee,Kx e,kh al,iq al,Ef ee0,t7 ee0,Lh eee00,dQ wzx"
  |"w"=>"ij e,yw e"
  |"o"=>"FA,N6,N5,nL h,N8,uE,FG,ia,N7,kP,nN,uA,Od,g8,FI,FC,qB,FD n,AX n,agR,ag0,o_isNO,FH,agM,Ob,agQ,agZ,uD rr,qA h,agY 0r,FF 0r,AU z,jz z"
  |"b"=>"lU,DB,Kt,rF,Y3,Y4"
  |"k"=>"xh hh,adz h,adC h,adw h,aem h,adB h,adM h,adh h,aev h,adp h,E8 h,ad1 h,xi h,adx h,ady h,E5 h,aeo h,adi h,aeq h,aeU h,adj h,ad2 h,aep h,adP h,adK h,MX h,E4 h,xh h,M6 h,aet h,Np h,uk h,aen h,ada h,aef h,M_ h,sd h,Nd h,um h,Ap h,aeW h,adt h,adl h,ads h,adq h,ad7 h,adk h,adE h"
  |"a"=>"au,ai ea"
  |"t"=>"a9 e,fi t,n0 tT,iV tT"
  |"s"=>"aF ej,br tSrS,bt es,bX tSS"
  |"n"=>"xE"
  |"l"=>"lz r"
  |_=>"").splitOn ",").reverse do
  let y:=x.splitOn " ";let mut t<-`(tactic|with_reducible apply $(Lean.mkIdent y.head!.toName):ident)
  for c in(y.getD 1 "").toList do t<-if c.isUpper then`(tactic|($t:tactic;intro O;walk_at $(Lean.quote c.toLower.toString)))else`(tactic|($t:tactic;walk_at $(Lean.quote c.toString)))
  r<-`(tactic|first|($t:tactic)|($r:tactic))
 return r
local macro_rules|`(tactic|walk_at "0")=>`(tactic|first|lia|omega|rotate_left)
local macro_rules|`(tactic|walk_at "z")=>`(tactic|first|assumption|lia|omega|(simp;omega)|rotate_left)
local macro_rules|`(tactic|walk_at "r")=>`(tactic|rfl)
local macro_rules|`(tactic|walk_at "h")=>`(tactic|assumption)
local macro_rules|`(tactic|walk_at "k")=>`(tactic|assumption)
local macro_rules|`(tactic|walk_at "d")=>`(tactic|decide+kernel)
local macro_rules|`(tactic|walk_at "j")=>`(tactic|rotate_left)
local macro_rules|`(tactic|walk_at "x")=>`(tactic|(intro x hx;refine⟨_,(by first|exact bL|exact iu),?_⟩;walk_at "e"))
section
variable{D:aH}{E:XK}{ρ:En}{M M1:Mu}{te tb:TE}{K:aR}(T:Tk D)
def adz(T:Tk D):CD (ya D) #[aN k] M$ aB<|~~~(k<=12):=by lk;walk_at "s";show cU<|by simp;omega
def adC(T:Tk D):CD (Hw D) #[aN k] M$ aB<|Ln.isWhole k:=by lk;walk_at "s";show cU<|by unfold Ln.isWhole;simp;omega
def adw(T:Tk D):CD (x_ D) #[aN k] M$ aB<|Ln.isFlt k:=by lk;walk_at "s";show cU<|by unfold Ln.isFlt;simp;omega
def ads(T:Tk D):CD (QG D) #[aN k,aN o] M$ aB<|Ln.hasTwo k o:=by lk;walk_at "s";all_goals (show cU ?_;unfold Ln.hasTwo;simp_all;try omega)
def adq(T:Tk D):CD (QF D) #[aN k,aN o] M$ aB<|Ln.hasOne k o:=by lk;walk_at "s";all_goals (show cU ?_;unfold Ln.hasOne;simp_all;try lia)
def lF(l:List Nat):Nat:=l.foldr (λ(a b:Nat)=>a*b) 1
def Gp:∀(l:List Nat)(x:Nat),lF (l++#[x])=lF l*x|[],x=>by simp[lF]|a::l,x=>by let:=Gp l x;unfold lF at this⊢;rw[vo,tj,tj,this,Jv]
theorem take_snoc{α:Type}{l:List α}{i:Nat}{x:α}(h:l[i]?=B x):l.take (i+1)=l.take i++#[x]:=by rw[qY,h];rfl
theorem de{α c:Type}{l:List α}{f:α->c}{i:Nat}{b:c}(h:(l.map f)[i]?=B b):∃a,l[i]?=B a/\b=f a:=by rw[du]at h;cases e:l[i]? with|none=>rw[e]at h;cases h|some a=>rw[e]at h;cases h;show [a,(),()]
theorem uk(T:Tk D){M:Mu}{s:bT}(O:∀n∈s.lens,n<2^64):CD (abJ D) #[bK D s] M$ aN s.cells:=by lk;show bt aM<|bg (jd (is:=#[2]) (l:=s.lens.map aN) (λj=>#[B<|bK D s,B<|aN<|lF<|s.lens.take j,Z]) (λ_=>M) @w_ λj a c=>?_) ?_;{let[n,b,rfl]:=de c;show [_,bL,gR (jU<|ax @b_ (af ())<|nM<|.inr ?_) ?_];{let:=O n<|bY b;constructor;{lia};let:((n:Nat):Int)<((2^64:Nat):Int):=(by exact_mod_cast this);simpa using this};show .cons<|.tZ ?_<|.aC .nil;rw[take_snoc b,Gp];show ei (by rw[Cb])};show aF @b_ ?_;rw[aP,lO];rfl
def aeo(T:Tk D):CD (BG D) #[bK D s,bK D t] M$ aB<|~~~(s=t):=by lk;walk_at "s";let[k,l]:=s;let[a,b]:=t;show cU<|by simp;try lia
theorem ub{α:Type}(p:α->Bool)(l:List α):(∃n,n<U l/\l.findIdx? p=B n/\(∀j x,j<n->l[j]?=B x->p x=ag)/\∀x,l[n]?=B x->p x=Y)\/(l.findIdx? p=Z/\∀x∈l,p x=ag):=by cases e:l.findIdx? p with|none=>show .inr [(),λx hx=>((iE.mp e) x hx:)]|some n=>let[a,b,c]:=sZ.mp e;show .inl [n,a,(),λj x d hx=>?_,λx hx=>?_];{let:=c j d;let f:j<U l:=@o_;rw[bF f]at hx;cases hx;simpa using this};rw[bF a]at hx;cases hx;show b
theorem aep(T:Tk D){M:Mu}{s:bT}:CD (yc D) #[bK D s] M$ aB s.ok:=by{
lk;show br @t_ (λO=>aF aM<|cU ?_) () λO=>?_;{unfold q_ om kx;simp at O⊢;lia};simp at O;rcases ub (λn=>~~~(1048576<n)) s.lens with⟨n,d,_,f,g⟩|⟨_,f⟩
.show ee (pH (is:=#[1]) (l:=s.lens.map aN) (λ_=>#[B<|bK D s,Z]) (λ_=>M) n (d:) @w_ (λj a o e=>?_) (λa e=>?_) ()) ();{let[m,c,rfl]:=de e;let:=f j m o c;show [_,bL,gR (bX (x:=ag) (by let q:=a9 (E:=E)<|ax (M:=M) (ρ:=#[B<|bK D s,B<|aN m]) (af (i:=1) ()) (aM (v:=.int 1048576)) ia;rwa[show ~~~((1048576:Int)<m)=ag by simp at this⊢;lia]at q) @j_ λ_=>ed)<|.cons<|.aC .nil]};let[m,c,rfl]:=de e;let:=g m c;show [_,bL,bX (x:=Y) (by let q:=a9 (E:=E)<|ax (M:=M) (ρ:=#[B<|bK D s,B<|aN m]) (af (i:=1) ()) (aM (v:=.int 1048576)) ia;rwa[show ~~~((1048576:Int)<m)=Y by simp at this⊢;lia]at q) (λ_=>aF aM<|cU ?_) λz=>by cases z];unfold q_;simp at this⊢;intro _ _ h;let:=h m<|bY c;unfold yM at this;lia
let b:∀n∈s.lens,n<=1048576:=λn d=>by let:=f n d;simp at this;show this
show bg (jd (is:=#[1]) (l:=s.lens.map aN) (λ_=>#[B<|bK D s,Z]) (λ_=>M) @w_ λj a e=>?_) ?_;{let[m,c,rfl]:=de e;let:=b m<|bY c;show [_,bL,gR (bX (x:=ag) (by let q:=a9 (E:=E)<|ax (M:=M) (ρ:=#[B<|bK D s,B<|aN m]) (af (i:=1) ()) (aM (v:=.int 1048576)) ia;rwa[show ~~~((1048576:Int)<m)=ag by simp;lia]at q) @j_ λ_=>ed)<|.cons<|.aC .nil]};show aF (ax (az @a_ (uk T λn d=>by let:=b n d;lia)) aM FG)<|cU ?_;unfold q_ om kx yM;let:(s.lens.all λn=>~~~(n<=1048576))=Y:=(b:);rw[this];simp;lia}
def YZ:(((cK a:Nat):Int)=((cK b:Nat):Int))<->a=b:=by cases a<;>cases b<;>simp[cK]
def aen(T:Tk D):CD (Rv D) #[dZ D h,dZ D k] M$ aB<|~~~(h=k):=by lk;walk_at "s";let[a,i]:=h;let[b,j]:=k;show cU<|by simp[YZ];try lia
def adt(T:Tk D):CD (QH D) #[bH D c,dZ D h] M$ aB<|h.there c:=by lk;walk_at "s";all_goals (let[a,i]:=h;show cU ?_;unfold yP Ln.NUMBERS;cases a<;>simp_all[cK]<;>omega)
def Ap(T:Tk D)(b:h.there c=Y):CD (BI D) #[bH D c,dZ D h] M$ fL D<|h.shape c:=by lk;let[a,i]:=h;cases a with|true=>show br @t_ (λO=>?_) () λO=>bV aM;simp[cK]at O|false=>let d:i<U c.slots:=(by simpa[yP]using b);let hx:c.slots[i]?=B c.slots[i]:=bF d;show br @t_ (λO=>aF @e_ ?_) () λO=>?_;{change bK D _=fL D (c.slots[i]?);rw[hx];rfl};simp[cK]at O
def M_(T:Tk D):CD (Hr D) #[fL D o,bK D s] M$ aB (if s.lens=[]then o.isNone else ~~~(o=B s)):=by lk;cases o with|none=>change SD E _ #[B aU,B<|bK D s] M _;show br @t_ (λO=>aF @e_<|cU ?_) () λO=>aF (kg (y:=ag) @e_ λz=>by simp at z) (cU ?_);all_goals simp_all|some t=>change SD E _ #[B<|bK D t,B<|bK D s] M _;walk_at "s";all_goals (show cU ?_;simp_all)
def E2(T:Tk D)(b:U a<=sizeLine):CD (abK D) #[dZ D h,aL<|a.map<|dZ D] M$ aB<|a.any λk=>~~~(h=k):=by lk;walk_at "s";rfl
def Nl(b:U a<=sizeLine):CD (BH D) #[dZ D h,aL<|a.map<|dZ D] M$ aB<|!h.number&&a.any λk=>~~~(h=k):=by lk;show aF (kg @e_ λ_=>az @a_<|E2 T b)<|cU ?_;let[c,i]:=h;cases c<;>simp[cK]
section
variable{M2:Mu}{t:TA}{to:TE}{a b c d e f:As}
theorem cF(T:Tk D){M:Mu}{x:aa}{k f:Str}{fs:List<|Str×As}(g:ED E te ρ (mu M x<|.obj (D.ad k) fs)<|.vl a<|mu M x<|.obj (D.ad k) fs)(h:ED E to ρ (mu M x<|.obj (D.ad k) fs)<|.vl (aV<|.ref x)<|mu M x<|.obj (D.ad k) fs)(i:(~~~(k∈qr)&&~~~(f∈attrL))=Y)(hl: ~~~(fs.length<1000)=Y):SD E (cj D.K to te f) ρ (mu M x<|.obj (D.ad k) fs)<|.nx ρ<|mu M x<|.obj (D.ad k)<|ph f a fs:=by let:=uS T g h bO i<|aaL hl;rwa[gu]at this
theorem MU(T:Tk D){M:Mu}{x:aa}:CD (sJ D) #[aV<|.ref x,a,b] (mu M x<|.obj (D.ad "Shape") [])<|.vl aU<|mu M x<|.obj (D.ad "Shape") #[("kind",a),("lengths",b)]:=by apply jJ (hl:=());intro E;show bg (cF T @b_ @b_ @k_ ())<|cF T @b_ @b_ @k_ ()
theorem ac5(T:Tk D){M:Mu}{x:aa}:CD (By D) #[aV<|.ref x,a,b] (mu M x<|.obj (D.ad "Result") [])<|.vl aU<|mu M x<|.obj (D.ad "Result") #[("shape",a),("joining",b)]:=by apply jJ (hl:=());intro E;show bg (cF T @b_ @b_ @k_ ())<|cF T @b_ @b_ @k_ ()
theorem ac3(T:Tk D){M:Mu}{x:aa}:CD (uW D) #[aV<|.ref x,a,b] (mu M x<|.obj (D.ad "Hold") [])<|.vl aU<|mu M x<|.obj (D.ad "Hold") #[("bank",a),("number",b)]:=by apply jJ (hl:=());intro E;show bg (cF T @b_ @b_ @k_ ())<|cF T @b_ @b_ @k_ ()
theorem Ek(T:Tk D)(h:AD E t ρ M<|.vl #[aN k,bA l] M1):ED E (dN (D.ad "Shape") (sJ D) [] E t) ρ M<|.vl (bK D [k,l]) M1:=lq h λx _=>MU T
theorem LA(T:Tk D)(h:AD E t ρ M<|.vl #[bK D s,aN j] M1):ED E (dN (D.ad "Result") (By D) [] E t) ρ M<|.vl (js D [s,j]) M1:=lq h λx _=>ac5 T
theorem z6(T:Tk D)(h:AD E t ρ M<|.vl #[aN<|cK n,aN i] M1):ED E (dN (D.ad "Hold") (uW D) [] E t) ρ M<|.vl (dZ D [n,i]) M1:=lq h λx _=>ac3 T
end
def adP(T:Tk D):CD (QV D) #[aName b] M$ aB<|yV b:=by{
lk;let e:aName b=bA (b.map fz):=by unfold aName bA;rw[cD];rfl
rw[e];walk_at "s";show cU ?_;unfold yV;let:(b.map fz).contains 0=b.contains 0:=by induction b with|nil=>rfl|cons x b a=>rw[cC,mP,mP,a<|by unfold aName bA;rw[cD];rfl];congr 1;rw[cb,aaF,aaF];show [λh=>tP.mp<|by rw[<-h];rfl,λh=>by rw[<-h];rfl]
rw[this];grind}
def ada(T:Tk D):CD (Qr D) #[bA l] M$ aB<|~~~(1<=U l)&&(Ln.Shape.mk 3 l).ok:=by lk;walk_at "s";show cU ?_;unfold q_ kx;simp;omega
def aef(T:Tk D):CD (Rp D) #[js D r] M$ aB<|r.shape.ok&&(if r.shape.lens=[]then ~~~(r.join<=2)&&r.shape.kind !=0 else r.join==0):=by lk;walk_at "s";all_goals (show cU ?_;let[[k,l],j]:=r;cases l<;>simp_all<;>omega)
def ad6(T:Tk D)(a:U p.inputs<=sizeLine)(b:U p.results<=sizeLine):CD (Q8 D) #[ej D p] M$ aB<|vE p:=by lk;let e:vE p=((~~~(1<=U p.axes)&&(Ln.Shape.mk 3 p.axes).ok)&&(~~~(U p.inputs<=8)&&(p.inputs.all q_&&(~~~(1<=U p.results)&&(~~~(U p.results<=8)&&p.results.all λ(r:i0)=>r.shape.ok&&(if r.shape.lens=[]then ~~~(r.join<=2)&&r.shape.kind !=0 else r.join==0)))))):=(by unfold vE Ln.spaceOf;rw[j1]);rw[e];walk_at "s";all_goals (show bN ?_;grind)
def aes(T:Tk D)(a:CD (BA D) #[aL<|c.slots.map<|bK D] M$ aN<|Jk c.slots):CD (Ry D) #[bH D c] M$ aB<|!~~~(U c.slots<c.data\/Ln.SLOTBYTES<Jk c.slots):=by lk;walk_at "s";show cU ?_;unfold Ln.SLOTBYTES;simp;omega
section
def sd(T:Tk D):CD (nW D) #[fL D o,aN k,aN n] M$ aB<|dU o k n:=by lk;cases o with|none=>change SD E _ #[B aU,B<|aN k,B<|aN n] M _;show aF (kg (y:=ag) @e_ λz=>by simp at z) (cU<|by simp[dU])|some s=>change SD E _ #[B<|bK D s,B<|aN k,B<|aN n] M _;walk_at "s";show cU<|by simp[dU];try lia
def Nd(T:Tk D):CD (uZ D) #[fL D o,aN k] M$ aB<|gr o k:=by lk;cases o with|none=>change SD E _ #[B aU,B<|aN k] M _;show aF (kg (y:=ag) @e_ λz=>by simp at z) (cU<|by simp[gr])|some s=>change SD E _ #[B<|bK D s,B<|aN k] M _;walk_at "s";show cU<|by simp[gr];try lia
def um(T:Tk D):CD (sL D) #[fL D o,aN k,bA l] M$ aB<|fP o k l:=by lk;cases o with|none=>change SD E _ #[B aU,B<|aN k,B<|bA l] M _;show aF (kg (y:=ag) @e_ λz=>by simp at z) (cU<|by simp[fP])|some s=>change SD E _ #[B<|bK D s,B<|aN k,B<|bA l] M _;walk_at "s";let[a,b]:=s;show cU<|by simp[fP]
def E_(T:Tk D)(a:U l<=sizeLine):CD (vb D) #[bA l,aN i] M$ bA<|fX l i:=by lk;walk_at "s";all_goals first|(unfold fX bA;simp;done)|(simp;omega)
local macro_rules|`(tactic|walk_at "k")=>`(tactic|(first
 |(exact Nd @h_ (o:=some _))|(exact sd @h_ (o:=some _))|(exact sd @h_ (o:=some _) (n:=1))|(exact sd @h_ (o:=some _) (n:=2))|(exact sd @h_ (o:=some _) (k:=3) (n:=1))|(exact sd @h_ (k:=3) (n:=1))|(exact um @h_ (k:=3))|(exact E_ @h_ @O_)|(exact uk @h_ @h_)))
def acx(i:Int)(l:List Int):jL (.int i) (ez l)=l.any λj=>j==i:=by unfold jL ez;rw[Cc];rfl
def amQ:ED E (tC<|.ref<|D.ad<|sw "FOLDS") ρ M$ aT D.K<|(ez #[0,2,3]).map aV:=gZ T<|by decide+kernel
def aa7:(if s.lens=[]then o.isNone else ~~~(o=B s))=rO o s:=by unfold rO;let[k,l]:=s;cases o with|none=>cases l<;>simp|some t=>let[a,b]:=t;cases l<;>grind
def adn(T:Tk D)(b:U s.lens<=4):CD (QC D) #[c_ D x,aL #[bK D s],fL D r] M$ aB<|!(x.kind==0||(!gr (B s) x.kind||!(x.u==0||(x.u==2||x.u==3))))&&(if x.v=255 then r.isNone else ~~~(x.v<U s.lens)&&rO r [x.kind,fX s.lens x.v]):=by lk;let c:=sz;show bt @e_<|br @t_ (λO=>aF aM<|bN ?_) () λO=>br @t_ (λa=>aF @e_<|bN ?_) () λa=>aF @e_<|bN ?_;{simp[acx]at O⊢;grind};(all_goals (try rw[aa7]));all_goals (simp[acx]at O a⊢;grind)
def at_getD(h:i<U l):l[i]?=B (l.getD i 0):=by rw[cV,bF h];rfl
def x4(h:dU (B s) k n=Y):s.kind=k/\U s.lens=n:=by simpa[dU]using h
local macro_rules|`(tactic|walk_at "k")=>`(tactic|(first|(exact um @h_ (l:=#[_,_]))|(exact um @h_ (l:=#[_]))))
def aec(T:Tk D):CD (Rg D) #[c_ D x,aL #[bK D s,bK D t],fL D r] M$ aB<|!(x.kind==0||(!dU (B s) x.kind 2||!dU (B t) x.kind 2))&&(s.lens.getD 1 0==t.lens.getD 0 0&&fP r x.kind #[s.lens.getD 0 0,t.lens.getD 1 0]):=by lk;show bt @e_<|bt @e_<|br @t_ (λO=>aF aM<|bN ?_) () λO=>?_;{simp at O⊢;grind};simp at O;let a:=x4 O.2.1;let b:=x4 O.2.2;let c:=at_getD (i:=0) (by lia:0<U s.lens);let d:=at_getD (i:=1) (by lia:1<U s.lens);let e:=at_getD (i:=0) (by lia:0<U t.lens);let f:=at_getD (i:=1) (by lia:1<U t.lens);show aF @e_<|bN ?_;rw[cb];simp[O.1,O.2.1,O.2.2];intro _;lia
def aeV(T:Tk D):CD (RV D) #[c_ D x,aL #[bK D s],fL D r] M$ aB<|dU (B s) x.kind 2&&fP r x.kind #[s.lens.getD 1 0,s.lens.getD 0 0]:=by lk;show bt @e_<|bV<|kg @e_ λO=>?_;let a:=x4 O;let b:=at_getD (i:=0) (by lia:0<U s.lens);let c:=at_getD (i:=1) (by lia:1<U s.lens);walk_at "e"
def aeu(T:Tk D):CD (RC D) #[c_ D x,aL #[bK D s],fL D r] M$ aB<|dU (B s) x.kind 1&&fP r x.kind s.lens:=by lk;show bt @e_<|bV @e_
def ad0(T:Tk D):CD (Q2 D) #[c_ D x,aL #[bK D s],fL D r] M$ aB<|dU (B s) x.kind 1&&fP r 3 s.lens:=by lk;show bt @e_<|bV @e_
def ad4(b:U s.lens<=4)(c:U t.lens<=4):CD (Q6 D) #[c_ D x,aL #[bK D s,bK D t],fL D r] M$ aB<|!(!gr (B s) x.kind||!dU (B t) 3 1)&&fP r x.kind (t.lens++s.lens.drop 1):=by lk;let d:=sz;show bt @e_<|bt @e_<|br @t_ (λO=>aF aM<|bN ?_) () λO=>?_;{simp at O⊢;grind};show aF (az (ai @e_ (ai @e_ (ai (a:=bA<|t.lens++s.lens.drop 1) (by let q:=t7 (E:=E) (K:=D.K) (M:=M) (ρ:=#[B<|c_ D x,B<|aL #[bK D s,bK D t],B<|fL D r,B<|bK D s,B<|bK D t]) (te:=fV D.K (ay 3) "lengths") (tb:=tC<|.int 1) @e_ bZ @o_;rw[<-yH]at q;show ax @e_ q<|AU @m_) au)))<|um T)<|bN ?_;simp at O;simp[O.1,O.2]
def ad3(T:Tk D)(a:U s.lens<=4):CD (Q5 D) #[c_ D x,aL #[bK D s],fL D r] M$ aB<|!(!(s.kind==x.kind)||(~~~(U s.lens<=x.u)||!dU r x.kind (U s.lens)))&&fX (aE r).lens x.u==fX s.lens x.u:=by lk;let b:=sz;show bt @e_<|br @t_ (λO=>aF aM<|bN ?_) () λO=>?_;{simp at O⊢;grind};cases r with|none=>simp[dU]at O|some q=>change SD E _ #[B<|c_ D x,B<|aL #[bK D s],B<|bK D q,B<|bK D s] M _;simp at O;let c:=x4 O.2.2;let d:U q.lens<=4:=@o_;show aF @e_<|bN ?_;rw[cb];simp[O.2.2,aE];intro _;lia
def ac9(a:∀n∈s.lens,n<2^64)(b:∀q,r=B q->∀n∈q.lens,n<2^64):CD (Qq D) #[c_ D x,aL #[bK D s],fL D r] M$ aB<|!(!gr (B s) x.kind||!gr r x.kind)&&s.cells==(aE r).cells:=by lk;show bt @e_<|br @t_ (λO=>aF aM<|bN ?_) () λO=>?_;{simp at O⊢;grind};cases r with|none=>simp[gr]at O|some q=>change SD E _ #[B<|c_ D x,B<|aL #[bK D s],B<|bK D q,B<|bK D s] M _;let c:=b q ();show aF (ax (az @a_<|uk T a) (az @a_<|uk T c) kP)<|bN ?_;simp at O;rw[cb];simp[O.1,O.2,aE];lia
def adm(T:Tk D):CD (QB D) #[c_ D x,aL #[fL D o],fL D r] M$ aB<|o.isNone&&gr r x.kind:=by lk;show bV @e_
def ad8(T:Tk D):CD (Q_ D) #[c_ D x,aL l,fL D r] M$ aB<|x.kind==3&&dU r 3 1:=by lk;show aF @e_<|bN ?_;rw[cb];simp;intro _;lia
end
def adD(d:U s.lens<=4):CD (QM D) #[c_ D x,aL #[bK D s,bK D t],fL D r] M$ aB<|!(!(s.kind==x.kind)||(!dU (B t) x.kind (U s.lens)||~~~(U s.lens<=x.u)))&&(fX s.lens x.u==fX t.lens x.u&&fP r x.kind (s.lens.take x.u++#[s.lens.getD x.u 0+t.lens.getD x.u 0]++s.lens.drop (x.u+1))):=by{
lk;let e:=sz;show bt @e_<|bt @e_<|br (iV @t_ λ_=>iV (fi<|a9<|az @a_<|sd T (o:=B t)) λ_=>by walk_at "t") (λO=>aF aM<|bN ?_) () λO=>?_;{simp at O⊢;grind};simp at O;let f:=x4 O.2.1;let g:U t.lens<=4:=by lia
show br (a9<|ax (az @a_<|E_ T @o_) (az @a_<|E_ T @o_) Ob) (λa=>aF aM<|bN ?_) () λa=>?_;{simp at a;simp[a]};let h:=at_getD (i:=x.u) (by lia:x.u<U s.lens);let j:=at_getD (i:=x.u) (by lia:x.u<U t.lens);show bt @e_<|aF (az (ai @e_<|ai @e_<|ai (bI (b:=bA<|s.lens.take x.u++#[s.lens.getD x.u 0+t.lens.getD x.u 0]++s.lens.drop (x.u+1)) @e_ ?_) au)<|um T)<|bN ?_;{unfold bA;rw[eV,eV,qW,yH];rfl};simp at a;let c:s.kind=x.kind:=by lia
simp[c,O.2.1,O.2.2,a]}
def amU:ED E (tC<|.ref<|D.ad<|sw "U_NAMED_BY") ρ M$ aT D.K<|(ez #[0,6,7]).map aV:=gZ T<|by decide+kernel
def amV:ED E (tC<|.ref<|D.ad<|sw "V_NAMED_BY") ρ M$ aT D.K<|(ez #[0,6]).map aV:=gZ T<|by decide+kernel
def amT:ED E (tC<|.ref<|D.ad<|sw "OPERANDS_OF") ρ M$ aT D.K<|(ez #[1,2,1,1,1,2,1,2,1,1,0]).map aV:=gZ T<|by decide+kernel
def aeW(T:Tk D):CD (RW D) #[c_ D x] M$ aB<|jg x:=by lk;show aF @e_<|bN ?_;unfold jg;rw[cb];simp[acx];grind
def adZ(T:Tk D)(c:x.which<11)(d:U ops<=sizeLine):CD (Q1 D) #[c_ D x,aL<|ops.map<|fL D] M$ aB<|U ops==iP x.which&&(x.which==9||ops.all tJ):=by
 lk;let hx:((ez #[1,2,1,1,1,2,1,2,1,1,0]).map aV)[x.which]?=B (aN<|iP x.which):=by{
unfold iP;let[f,w,k,u,v,a,b]:=x;dsimp only at c⊢;match w,c with
|0,_=>rfl|1,_=>rfl|2,_=>rfl|3,_=>rfl|4,_=>rfl|5,_=>rfl|6,_=>rfl|7,_=>rfl|8,_=>rfl|9,_=>rfl|10,_=>rfl
|n+11,h=>lia};show br (a9<|ax @e_ (ax @e_ @e_<|jQ () hx) nN) (λO=>aF aM<|bN ?_) () λO=>aF @e_<|bN ?_;{simp at O⊢;grind};simp at O⊢;grind
theorem P8{c:a7}{h:c5}(a:h.there c=Y):(h.shape c).isNone=h.number:=by let[n,i]:=h;unfold vx;unfold yP at a;cases n with|true=>rfl|false=>let a:i<U c.slots:=(a:);change (c.slots[i]?).isNone=ag;rw[bF a];rfl
theorem uF{α:Type}{l:List<|Option α}(h:U l=1)(a:l.all tJ=Y):∃s,l=#[B s]:=by let[o,rfl]:=List.length_eq_one_iff.mp h;cases o with|none=>cases a|some s=>show [s,()]
theorem Iu{α:Type}{l:List<|Option α}(h:U l=2)(a:l.all tJ=Y):∃s t,l=#[B s,B t]:=by cases l with|nil=>cases h|cons o l=>cases o with|none=>cases a|some s=>let[t,rfl]:=uF (l:=l) (Nat.succ.inj h) a;show [s,t,()]
theorem P7{c:a7}{h:c5}{s:bT}(e:h.shape c=B s):s∈c.slots:=by unfold vx at e;split at e;{cases e};show bY e
abbrev amw(D:aH):List<|aa×Sp:=#[(D.ad "fold_is_good",QC D),(D.ad "product_is_good",Rg D),(D.ad "turn_is_good",RV D),(D.ad "sorted_is_good",RC D),(D.ad "order_is_good",Q2 D),(D.ad "pick_is_good",Q6 D),(D.ad "part_is_good",Q5 D),(D.ad "join_is_good",QM D),(D.ad "as_is_good",Qq D),(D.ad "fill_is_good",QB D),(D.ad "places_is_good",Q_ D)]
inductive acr (D:aH) (M:Mu) (x:dY) (ops:List (Option bT)) (q:Option bT):Prop
 |mk {f:Str} {sp:Sp} {R:Bool} (h1:(uQ.map λf=>aV<|.ref<|D.ad<|sw f)[x.which]?=B (aV<|.ref<|D.ad f)) (h3:(D.ad f,sp)∈amw D) (h4:CD sp #[c_ D x,aL<|ops.map<|fL D,fL D q] M$ aB R) (h5:R=fU x ops q):acr D M x ops q
def amx(hlen:U ops=iP x.which)(b:x.which≠9->ops.all tJ=Y)(c:∀s,B s∈ops->U s.lens<=4/\∀n∈s.lens,n<2^64)(d:∀s,q=B s->∀n∈s.lens,n<2^64)(e:x.which<11):acr D M x ops q:=by match a:x.which,e with|0,_=>let[s,rfl]:=uF (by rw[hlen,a];rfl)<|b @o_;show .mk (by rw[a];rfl) (bY (i:=0) ()) (adn T (c s @s_).1) (by unfold fU;rw[a];rfl)|1,_=>let[s,t,rfl]:=Iu (by rw[hlen,a];rfl)<|b @o_;show .mk (by rw[a];rfl) (bY (i:=1) ()) (aec T) (by unfold fU;rw[a];rfl)|2,_=>let[s,rfl]:=uF (by rw[hlen,a];rfl)<|b @o_;show .mk (by rw[a];rfl) (bY (i:=2) ()) (aeV T) (by unfold fU;rw[a];rfl)|3,_=>let[s,rfl]:=uF (by rw[hlen,a];rfl)<|b @o_;show .mk (by rw[a];rfl) (bY (i:=3) ()) (aeu T) (by unfold fU;rw[a];rfl)|4,_=>let[s,rfl]:=uF (by rw[hlen,a];rfl)<|b @o_;show .mk (by rw[a];rfl) (bY (i:=4) ()) (ad0 T) (by unfold fU;rw[a];rfl)|5,_=>let[s,t,rfl]:=Iu (by rw[hlen,a];rfl)<|b @o_;show .mk (by rw[a];rfl) (bY (i:=5) ()) (ad4 T (c s @s_).1 (c t @s_).1) (by unfold fU;rw[a];rfl)|6,_=>let[s,rfl]:=uF (by rw[hlen,a];rfl)<|b @o_;show .mk (by rw[a];rfl) (bY (i:=6) ()) (ad3 T (c s @s_).1) (by unfold fU;rw[a];rfl)|7,_=>let[s,t,rfl]:=Iu (by rw[hlen,a];rfl)<|b @o_;show .mk (by rw[a];rfl) (bY (i:=7) ()) (adD T (c s @s_).1) (by unfold fU;rw[a];rfl)|8,_=>let[s,rfl]:=uF (by rw[hlen,a];rfl)<|b @o_;show .mk (by rw[a];rfl) (bY (i:=8) ()) (ac9 T (c s @s_).2 d) (by unfold fU;rw[a];rfl)|9,_=>obtain⟨o,rfl⟩:∃o,ops=#[o]:=(by match ops,(by rw[hlen,a];rfl:U ops=1)with| #[o],_=>show [o,()]);show .mk (by rw[a];rfl) (bY (i:=9) ()) (adm T) (by unfold fU;rw[a];rfl)|10,_=>show .mk (by rw[a];rfl) (bY (i:=10) ()) (ad8 T) (by unfold fU;rw[a];rfl)|n+11,h=>lia
theorem ado(T:Tk D){M:Mu}{c:a7}{x:dY}(N:eK c)(X:m9 x)(p:∀h∈x.operands++x.results,h.there c=Y):CD (QD D) #[bH D c,c_ D x] M$ aB<|jR c x:=by{
lk;let hs:=sz;let t:U x.operands<=sizeLine:=by let:=X.qD;lia
let a:∀{ρ:En},ED E (tC<|.ref<|D.ad "RULES") ρ M$ aT D.K<|uQ.map λf=>aV<|.ref<|D.ad<|sw f:=λ{ρ}=>wH λF=>[_,_,(),T.rules F,by let:=tV (F:=F)<|uQ.map λf=>V.ref<|D.ad<|sw f;rwa[cD]at this];unfold jR;show br (iV @t_ λ_=>iV (a9<|ax @e_ (dm (ai a au) DE) N7) λ_=>by walk_at "t") (λO=>aF aM<|bN ?_) () λO=>?_
.simp[uQ]at O;let:(!~~~(x.kind<=12)||(~~~(11<=x.which)||!(U x.results==1)))=Y:=by simp;lia
 rw[this];rfl
simp[uQ]at O;let y:(!~~~(x.kind<=12)||(~~~(11<=x.which)||!(U x.results==1)))=ag:=by simp;lia
rw[y];obtain⟨r,i⟩:∃r,x.results=#[r]:=by match h:x.results,(by lia:U x.results=1)with| #[r],_=>show [r,()]
let hx:x.results[0]?=B r:=by rw[i];rfl
let j:r.there c=Y:=p r (by rw[i];simp);rw[i];change SD E _ _ M$ aB<|Y&&(!((!r.number&&x.operands.contains r)||!jg x)&&_);let u:(x.operands.any λk=>~~~(r=k))=x.operands.contains r:=by rw[IK];rfl
show br (iV (a9<|az @a_<|Nl T t) λ_=>by walk_at "t") (λO=>aF aM<|bN ?_) () λO=>?_;{rw[u]at O;rw[show((!r.number&&x.operands.contains r)||!jg x)=Y from O];rfl};rw[u]at O;rw[show((!r.number&&x.operands.contains r)||!jg x)=ag from O];show bt (dQ (xs:=x.operands) (f:=dZ D) (h:=λh=>fL D<|h.shape c) @w_ t λh A=>[_,bL,az @a_<|Ap T<|p h<|by simp[A]]) ?_;let C:x.operands.map (λh=>fL D<|h.shape c)=(x.operands.map<|vx c).map (fL D):=by rw[cD];rfl
rw[C];generalize v:x.operands.map (vx c)=ops;let d:U ops=U x.operands:=by rw[<-v,aP]
show br (fi<|a9<|az @a_<|adZ T @o_ @o_) (λO=>aF aM<|bN ?_) () λO=>?_
.rw[d]at O;let:(U x.operands==iP x.which&&(x.which==9||ops.all tJ))=ag:=by rw[iX]at O;show O
 rw[this];rfl
rw[d]at O;let b:(U x.operands==iP x.which&&(x.which==9||ops.all tJ))=Y:=by rw[lM]at O;show O
rw[b];let l:∀s,B s∈ops->U s.lens<=4/\∀n∈s.lens,n<2^64:=λs w=>by rw[<-v]at w;let[h,_,e]:=c4.mp w;let:=N.slots s<|P7 e;show [this.len,λn m=>by let:=this.lens n m;lia]
let o:∀q,r.shape c=B q->∀n∈q.lens,n<2^64:=λq e n m=>by let:=(N.slots q<|P7 e).lens n m;lia
rw[a6]at b;let hlen:U ops=iP x.which:=by rw[d];simpa using b.1
let g:x.which≠9->ops.all tJ=Y:=λh=>by(rcases j2 _ _|>.mp b.2 with z|z);{show absurd (z:) h};show z
let G:=Ap T (M:=M) (c:=c) (h:=r) j;change SD E _ _ M$ aB<|fU x ops<|r.shape c;let H:x.which<11:=by lia
let[I,J,P,Q]:=amx T (M:=M) hlen g l o H;show bt (ax a @e_<|jQ () I)<|aF (lY @b_ J (ai (af ())<|ai (af ())<|ai (az @a_ G) au) P)<|bN Q}
theorem zip_map{α a:Type}{K:aR}{f:α->As}{g:a->As}(l:List α)(m:List a):lL K (l.map f) (m.map g)=(l.zip m).map λx=>aT K #[f x.1,g x.2]:=by unfold lL;rw[List.zip_map,cD];rfl
theorem MV(T:Tk D)(e:∀h∈a,h.there c=Y)(l:U a<=8):CD (Hj D) #[bH D c,aL<|a.map<|dZ D,aL<|b.map<|bK D] M$ aB<|U a==U b&&(a.zip b).all λy=>y.1.fits c y.2:=by{
lk;let g:=sz;show br @t_ (λO=>aF aM<|bN ?_) () λO=>?_
.simp at O;let:¬U a=U b:=by lia
 simp[this]
simp at O;let i:U a=U b:=by lia
show aF (dm (ai (dQ (xs:=a.zip b) (f:=λx=>aT D.K #[dZ D x.1,bK D x.2]) (h:=λy=>aB<|y.1.fits c y.2) (by rw[<-zip_map];show alH @a_) (by rw[vv];lia) λy j=>[_,iu,?_]) au) DB)<|bN ?_;{let d:=e y.1 (pX j).1;show bI (az (ai (az @a_<|Ap T d) @a_)<|M_ T)<|bN ?_;unfold Ln.Hold.fits;rw[<-P8 d];split;{rfl};rw[cb];simp};simp[i]}
theorem NW{a:List c5}:(∀i h,a[i]?=B h->((a.take i).any λk=>~~~(h=k))=ag)<->a.Nodup:=by rw[List.nodup_iff_pairwise_ne,b4];constructor;{intro H i j b c d e;let:=H j a[j]<|bF c;rw[pR]at this;show this a[i] (Jc.mpr [i,by omega,()]) (e.symm:)};intro H i h b;rw[pR];intro k f e;let[j,c,rfl]:=Jc.mp f;let[g,rfl]:=el.mp b;show H j i @O_ g @O_ ((aaL e).symm:)
theorem aei(T:Tk D)(X:m9 x):CD (Rt D) #[c_ D x] M$ aB<|~~~x.results.Nodup&&x.results.all λ(h:c5)=>h.number||!x.operands.contains h:=by{
lk;let G:=sz;let P:=X.qD;let Q:=X.rel;refine_lift let bad:Nat×c5->Bool:=λq=>((x.results.take q.1).any λk=>~~~(q.2=k))||(!q.2.number&&x.operands.any λk=>~~~(q.2=k));?_
let m:∀(i:Nat)(h:c5),TD E (cW (tB<|dq (abK D) [] E<|aJ (ay 2)<|aJ (eU (eT D.K) (fV D.K (ay 0) "results") gy<|ew<|ay 1) aX)<|tB<|dq (BH D) [] E<|aJ (ay 2)<|aJ (fV D.K (ay 0) "operands") aX) #[B<|c_ D x,B<|aN i,B<|dZ D h] M$ bad (i,h):=λi h=>iV (a9<|az (ai (af ())<|ai (bI (b:=aL<|(x.results.take i).map<|dZ D) @e_<|by rw[qW];rfl) au)<|E2 T<|by rw[gj];lia) λ_=>a9<|az @a_<|Nl T @o_;let o:(∀i h,x.results[i]?=B h->bad (i,h)=ag)->(~~~x.results.Nodup&&x.results.all λ(h:c5)=>h.number||!x.operands.contains h)=Y:=λH=>by rw[a6,aaQ,<-NW,cq];show [λi h d=>(sV.mp<|H i h d).1,λh f=>?_];let[i,d]:=List.getElem?_of_mem f;let:=(sV.mp<|H i h d).2;rw[IK];let e:(x.operands.any λk=>~~~(h=k))=x.operands.any (λy=>h==y):=();cases u:h.number with|true=>rfl|false=>rw[u]at this;rw[<-e];simpa using this
let p:∀i h,x.results[i]?=B h->bad (i,h)=Y->(~~~x.results.Nodup&&x.results.all λ(h:c5)=>h.number||!x.operands.contains h)=ag:=λi h d O=>by(rw[yD];rcases j2 _ _|>.mp O with z|z);{left;rw[aaS,<-NW];intro H;rw[H i h d]at z;cases z};right;rw[List.all_eq_false];show [h,bY d,?_];rw[IK];let e:(x.operands.any λk=>~~~(h=k))=x.operands.any (λy=>h==y):=();rw[<-e];rw[a6]at z;rw[z.2];let:=z.1;simpa using this
rcases ub bad ((dc (U x.results)).zip x.results)with⟨n,u,_,v,I⟩|⟨_,v⟩
.let C:∀j,j<U x.results->((dc (U x.results)).zip x.results)[j]?=B (j,x.results.getD j [ag,0]):=λj w=>by rw[I0];simp[w]
 let r:n<U x.results:=by rw[vv,j4]at u;lia
 show ee (pH (is:=#[1,2]) (l:=i8 D.K<|x.results.map<|dZ D) (λ_=>#[B<|c_ D x,Z,Z]) (λ_=>M) n (by rw[rL,aP];show r) (qO @a_) (λj a w s=>?_) (λa s=>?_) ()) ();{let[F,c,rfl]:=lx s;let[h,f,rfl]:=de c;let A:j<U x.results:=@o_;let:=v j _ w<|C j A;rw[cV,f]at this;show [_,iu,gR (bX (x:=ag) (by let t:=m j h;rwa[show bad (j,h)=ag from this]at t) @j_ λ_=>ed)<|.cons<|.aC<|.aC .nil]};let[F,c,rfl]:=lx s;let[h,f,rfl]:=de c;let:=I _<|C n r;rw[cV,f]at this;show [_,iu,bX (x:=Y) (by let t:=m n h;rwa[show bad (n,h)=Y from this]at t) (λ_=>aF aM<|bN (p n h f this).symm) λz=>by cases z]
let g:∀i h,x.results[i]?=B h->bad (i,h)=ag:=λi h d=>by show v (i,h)<|bY (i:=i) ?_;rw[I0];let[J,rfl]:=el.mp d;simp[J]
show bg (jd (is:=#[1,2]) (l:=i8 D.K<|x.results.map<|dZ D) (λ_=>#[B<|c_ D x,Z,Z]) (λ_=>M) (qO @a_) λj a s=>?_)<|aF aM<|bN (o g).symm;let[F,c,rfl]:=lx s;let[h,f,rfl]:=de c;show [_,iu,gR (bX (x:=ag) (by let t:=m j h;rwa[g j h f]at t) @j_ λ_=>ed)<|.cons<|.aC<|.aC .nil]}
def ad5(N:eK c)(X:m9 x)(g:∀h∈x.operands++x.results,h.there c=Y):CD (Q7 D) #[bH D c,c_ D x] M$ aB<|Ln.pieceCallOk c x:=by{
lk;let i:=sz;let j:=X.qD;let l:=X.rel;unfold Ln.pieceCallOk;show br @t_ (λO=>aF aM<|bN ?_) () λO=>?_;{simp at O;cases e:c.pieces[x.which]? with|none=>rfl|some p=>let:=(el.mp e).1;grind};simp at O;let m:x.which<U c.pieces:=by lia
let hx:c.pieces[x.which]?=B c.pieces[x.which]:=bF m;rw[hx];generalize s:c.pieces[x.which]=p at hx;let P:=N.pieces p<|bY hx;let t:=P.rel;show bt @e_<|br (fi<|a9<|az @a_<|MV T (λh f=>g h<|by simp[f]) j) (λd=>aF aM<|bN ?_) () λd=>?_;{change ag=(x.kind==0&&(x.u==0&&(x.v==0&&(U x.operands==U p.inputs&&(U x.results==U p.results&&((x.operands.zip p.inputs).all (λ(y:c5×bT)=>y.1.fits c y.2)&&_))))));rw[iX]at d;rcases yD.mp d with z|z<;>simp[z]};rw[lM,a6]at d;show br (fi<|a9<|az (ai (af ())<|ai @e_<|ai (bI (b:=aL<|(p.results.map λr=>r.shape).map<|bK D) @e_<|by rw[cD];rfl) au)<|MV T (λh f=>g h<|by simp[f]) l) (λa=>aF aM<|bN ?_) () λa=>aF (az @a_<|aei T X)<|bN ?_
.change ag=(x.kind==0&&(x.u==0&&(x.v==0&&(U x.operands==U p.inputs&&(U x.results==U p.results&&((x.operands.zip p.inputs).all (λ(y:c5×bT)=>y.1.fits c y.2)&&((x.results.zip p.results).all (λ(y:c5×i0)=>y.1.fits c y.2.shape)&&_)))))));rw[iX,aP]at a;let e:(x.results.zip<|p.results.map λr=>r.shape).all (λ(y:c5×bT)=>y.1.fits c y.2)=(x.results.zip p.results).all (λ(y:c5×i0)=>y.1.fits c y.2.shape):=by rw[Xo,vn];rfl
 rw[e]at a;rcases yD.mp a with z|z<;>simp[z]
change _=(x.kind==0&&(x.u==0&&(x.v==0&&(U x.operands==U p.inputs&&(U x.results==U p.results&&((x.operands.zip p.inputs).all (λ(y:c5×bT)=>y.1.fits c y.2)&&((x.results.zip p.results).all (λ(y:c5×i0)=>y.1.fits c y.2.shape)&&_)))))));rw[lM,aP,a6]at a;let e:(x.results.zip<|p.results.map λr=>r.shape).all (λ(y:c5×bT)=>y.1.fits c y.2)=(x.results.zip p.results).all (λ(y:c5×i0)=>y.1.fits c y.2.shape):=by rw[Xo,vn];rfl
rw[e]at a;let n:x.kind=0:=by lia
let o:x.u=0:=by lia
let q:x.v=0:=by lia
rw[d.1,d.2,a.1,a.2,n,o,q];rfl}
def ade(N:eK c)(X:m9 x):CD (Qu D) #[bH D c,c_ D x] M$ aB<|vz c x:=by{
lk;let d:=sz;let i:=X.qD;let j:=X.rel;unfold vz;show br (fi<|a9<|dm (ai (dQ (xs:=x.operands++x.results) (f:=dZ D) (h:=λh=>aB<|h.there c) (by rw[eV];walk_at "w") (by rw[cA];lia) λh _=>[_,bL,by walk_at "e"]) au) DB) (λO=>aF aM<|bN ?_) () λO=>?_;{rw[iX]at O;rw[show((x.operands++x.results).all<|yP c)=ag from O];rfl};rw[lM]at O;rw[show((x.operands++x.results).all<|yP c)=Y from O];let b:∀h∈x.operands++x.results,h.there c=Y:=cq.mp O;show br @t_ (λa=>aF (az @a_<|ad5 T N X b)<|bN ?_) () λa=>aF (az @a_<|ado T N X b)<|bN ?_
.let:x.fn=ag:=by cases e:x.fn with|false=>rfl|true=>rw[e]at a;simp[cK]at a
 rw[this];rfl
let:x.fn=Y:=by cases e:x.fn with|true=>rfl|false=>rw[e]at a;simp[cK]at a
rw[this,ahS c x λh g=>P8<|b h g];rfl}
def Ol(h:29<=n):ck n="":=by unfold ck;rw[cV,iF<|by rw[show U pf=29 from by decide+kernel];show h];rfl
def ahi:∀n,n<29->∀k,k<29->ck n=ck k->n=k:=by decide+kernel
def ahj:∀k,k<29->¬ck k="":=by decide+kernel
def fR(k:Nat)(a:k<29):ck n=ck k<->n=k:=by show [λh=>?_,λh=>by rw[h]];by_cases b:n<29;{show ahi n b k a h};rw[Ol @o_]at h;show absurd h.symm (ahj k a)
def w_end:(ck n="end")=(n=0):=aaI<|fR 0 @d_
def alu:(ck n="const")=(n=1):=aaI<|fR 1 @d_
def alC:(ck n="place")=(n=2):=aaI<|fR 2 @d_
def alz:(ck n="move")=(n=3):=aaI<|fR 3 @d_
def alG:(ck n="two")=(n=4):=aaI<|fR 4 @d_
def alB:(ck n="one")=(n=5):=aaI<|fR 5 @d_
def Wl:(ck n="convert")=(n=8):=aaI<|fR 8 @d_
def Wk:(ck n="compare")=(n=9):=aaI<|fR 9 @d_
def als:(ck n="choose")=(n=11):=aaI<|fR 11 @d_
def alF:(ck n="test")=(n=12):=aaI<|fR 12 @d_
def aly:(ck n="masks")=(n=13):=aaI<|fR 13 @d_
def sS:(ck n="cell")=(n=14):=aaI<|fR 14 @d_
def alE:(ck n="store")=(n=15):=aaI<|fR 15 @d_
def alx:(ck n="hand")=(n=16):=aaI<|fR 16 @d_
def Wm:(ck n="fail")=(n=17):=aaI<|fR 17 @d_
def sU:(ck n="skip")=(n=18):=aaI<|fR 18 @d_
def mO:(ck n="loop")=(n=19):=aaI<|fR 19 @d_
def yt:(ck n="round")=(n=20):=aaI<|fR 20 @d_
def mM:(ck n="back")=(n=21):=aaI<|fR 21 @d_
def w_call:(ck n="call")=(n=22):=aaI<|fR 22 @d_
def yu:(ck n="tell")=(n=23):=aaI<|fR 23 @d_
def qN:(ck n="ask")=(n=24):=aaI<|fR 24 @d_
def yr:(ck n="copy")=(n=25):=aaI<|fR 25 @d_
def alw:(ck n="function")=(n=26):=aaI<|fR 26 @d_
def alv:(ck n="draw")=(n=28):=aaI<|fR 28 @d_
theorem Ii{a b:String}(h:sw a=sw b):a=b:=by{
unfold sw at h;rw[JQ,JQ]at h;injection h with h
let h:a.toList.map Char.toNat=b.toList.map Char.toNat:=(h:);let c:a.toList=b.toList:=W_ (λx y e=>Char.ext (UInt32.toNat_inj.mp e))|>.mp h
show String.toList_inj.mp c}
def Aj(f:String)(l:List String):jL (.str<|sw f) (eI l)=l.contains f:=by induction l with|nil=>rfl|cons m l a=>change (hW (.str<|sw m) (.str<|sw f)||jL (.str<|sw f) (eI l))=_;rw[a,mP];congr 1;rw[cb,aaF];change (sw m==sw f)=Y<->_;rw[aaF];show [λh=>(Ii h).symm,λh=>by rw[h]]
def Ig(l:List String):(eI l).all fM=Y:=by induction l with|nil=>rfl|cons m l a=>change (fM (.str _)&&(eI l).all fM)=Y;rw[a];rfl
def iO(n:Nat):String:=p4.getD n ""
def A1(n:Nat):ck n=sw (iO n):=by unfold ck iO pf sw;rw[cV,cV,du];change Option.getD (k7 _<|p4[n]?) _=_;cases p4[n]?<;>rfl
def FO(h:29<=n):iO n="":=by unfold iO;rw[cV,iF (by change 29<=n;show h)];rfl
theorem Iz{K:aR}(w:String):∀l:List<|String×List String,fj (ly K l) (.inr<|sw w)=(l.lookup w).map λl=>aT K ((eI l).map aV)|[]=>rfl|(f,x)::l=>by let a:=Iz (K:=K) w l;unfold fj ly at a⊢;rw[cC,jD,kZ];by_cases e:f=w;{subst e;simp};let:¬(oE (sw f):Key)=oE (sw w):=λz=>e<|Ii<|Kf z;let b:(w==f)=ag:=(λz=>e z.symm:);rw[aac this,b];show a
theorem x3(n:Nat):pK.lookup (iO n)=eu n:=by by_cases h:n<29;{show(by decide+kernel:∀n,n<29->pK.lookup (iO n)=eu n) n h};obtain⟨k,rfl⟩:∃k,n=k+29:=[n-29,by omega];rw[FO @O_];rfl
theorem KG(n:Nat):oM.lookup (iO n)=lV n:=by by_cases h:n<29;{show(by decide+kernel:∀n,n<29->oM.lookup (iO n)=lV n) n h};obtain⟨k,rfl⟩:∃k,n=k+29:=[n-29,by lia];rw[FO @o_];rfl
theorem NI(n:Nat):o6.lookup (iO n)=jx n:=by by_cases h:n<29;{show(by decide+kernel:∀n,n<29->o6.lookup (iO n)=jx n) n h};obtain⟨k,rfl⟩:∃k,n=k+29:=[n-29,by lia];rw[FO @o_];rfl
theorem wA(T:Tk D){M:Mu}:ED E (tC<|.ref<|D.ad "SHARED_FIELDS") ρ M$ nj D<|ly D.K pK:=wH T.shared
theorem KQ(T:Tk D){M:Mu}:ED E (tC<|.ref<|D.ad "BODY_FIELDS") ρ M$ nj D<|ly D.K oM:=wH T.body
theorem KR(T:Tk D){M:Mu}:ED E (tC<|.ref<|D.ad "MAIN_FIELDS") ρ M$ nj D<|ly D.K o6:=wH T.main
theorem xD{M:Mu}{n:Nat}{l:List<|String×List String}{f:Nat->Option (List String)}(h:l.lookup (iO n)=f n):bW E (dy D ag) (aS<|ck n) (nj D<|ly D.K l) M$ aB (f n).isSome:=by let:=agP (E:=E) (D:=D) (M:=M) (neg:=ag) (kvs:=ly D.K l) (k:=.inr<|sw<|iO n);rw[Iz,h,CF]at this;rw[A1];show this
theorem AV{M:Mu}{n:Nat}{l:List<|String×List String}{f:Nat->Option (List String)}{x:List String}(h:l.lookup (iO n)=f n)(hx:f n=B x):bW E (fg D) (nj D<|ly D.K l) (aS<|ck n) M$ aT D.K<|(eI x).map aV:=by rw[A1];show agU (k:=.inr<|sw<|iO n)<|by rw[Iz,h,hx];rfl
theorem xi(T:Tk D){M:Mu}{n:Nat}:CD (yb D) #[aS<|ck n] M$ aB (eu n).isSome:=by lk;show bV<|ax @b_ (wA T)<|xD<|x3 n
def ady:CD (QK D) #[aS<|ck n] M$ aB<|(eu n).isSome||(jx n).isSome:=by lk;show bV<|Ee (ax @b_ (wA T)<|xD<|x3 n) λ_=>ax @b_ (KR T)<|xD<|NI n
def adx:CD (QJ D) #[aS<|ck n] M$ aB<|(eu n).isSome||(lV n).isSome:=by lk;show bV<|Ee (ax @b_ (wA T)<|xD<|x3 n) λ_=>ax @b_ (KQ T)<|xD<|KG n
theorem Nh(T:Tk D){M:Mu}{n:Nat}(h:(eu n).isSome=Y\/(jx n).isSome=Y):CD (HC D) #[aS<|ck n] M$ aT D.K<|(eI<|(eu n).getD<|(jx n).getD []).map aV:=by lk;cases e:eu n with|some x=>show br (a9<|az (ai @b_ au)<|xi T) (λ_=>bV<|ax (wA T) (af ())<|AV (x3 n) e) () λO=>by rw[e]at O;cases O|none=>cases a:jx n with|some x=>show br (a9<|az (ai @b_ au)<|xi T) (λO=>by rw[e]at O;cases O) () λ_=>bV (ax (KR T) (af ())<|AV (NI n) a)|none=>rw[e,a]at h;simp at h
theorem adU(T:Tk D){M:Mu}{n:Nat}(h:(eu n).isSome=Y\/(lV n).isSome=Y):CD (QX D) #[aS<|ck n] M$ aT D.K<|(eI (match eu n with|some x=>x++#["mask"]|none=>(lV n).getD [])).map aV:=by{
lk;cases e:eu n with
|some x=>
show br (a9<|az (ai @b_ au)<|xi T) (λ_=>aF (ax (ax (wA T) (af ())<|AV (x3 n) e) (iq (ai aM au) @d_)<|agL ?_ ?_) ?_) () λO=>by rw[e]at O;cases O
.intro z;let:x=[]:=by simpa[eI]using z
 subst this;let:∀n,n<29->eu n≠B []:=by decide+kernel
 by_cases a:n<29;{show this n a e};obtain⟨k,rfl⟩:∃k,n=k+29:=[n-29,by lia];cases e
.let:∀n,n<29->U ((eu n).getD [])<=5:=by decide+kernel
 by_cases a:n<29;{let:=this n a;rw[e]at this;let c:=sz;simp[eI]at this⊢;lia};obtain⟨k,rfl⟩:∃k,n=k+29:=[n-29,by lia];cases e
simp[eI]
|none=>cases b:lV n with|some x=>show br (a9<|az (ai @b_ au)<|xi T) (λO=>by rw[e]at O;cases O) () λ_=>bV (ax (KQ T) (af ())<|AV (KG n) b)|none=>rw[e,b]at h;simp at h}
def ud(o:bf):List<|String×Nat:=#[("kind",o.kind),("mask",o.mask),("aux",o.aux),("dst",o.dst),("a",o.a),("b",o.b),("c",o.c),("imm",o.imm),("to",o.to)]
def adl(T:Tk D):CD (QA D) #[bb D o] M$ aL<|(ud o).map λq=>aT D.K #[aS<|sw q.1,aN q.2]:=by lk;show aF (kh (ai (iq (K:=D.K) @a_<|cu (cX ()) sz)<|ai (iq (K:=D.K) @a_<|cu (cX ()) sz)<|ai (iq (K:=D.K) @a_<|cu (cX ()) sz)<|ai (iq (K:=D.K) @a_<|cu (cX ()) sz)<|ai (iq (K:=D.K) @a_<|cu (cX ()) sz)<|ai (iq (K:=D.K) @a_<|cu (cX ()) sz)<|ai (iq (K:=D.K) @a_<|cu (cX ()) sz)<|ai (iq (K:=D.K) @a_<|cu (cX ()) sz)<|ai (iq (K:=D.K) @a_<|cu (cX ()) sz) au)<|cu (cX ()) sz) ()
def E5(T:Tk D):CD (HD D) #[bb D o,aT D.K<|(eI l).map aV] M$ aB<|iQ o l:=by{
lk;let c:∀(f:String)(n:Nat),TD E (jZ (tB<|aq (eE D.K) (ay 3)<|tC<|.int 0)<|tB<|aq (dy D Y) (ay 2)<|ay 1) #[B<|bb D o,B<|aT D.K<|(eI l).map aV,B<|aS<|sw f,B<|aN n] M$ !(n==0||l.contains f):=λf n=>by let q:=n0 (E:=E) (a9<|ax (M:=M) (ρ:=#[B<|bb D o,B<|aT D.K<|(eI l).map aV,B<|aS<|sw f,B<|aN n]) (af (i:=3) ()) (aM (v:=.int 0))<|nN (K:=D.K)) λ_=>a9<|ax (af (i:=2) ()) (af (i:=1) ())<|uD (D:=D) (neg:=Y) () (Ig l);rw[Aj]at q;let e:(!~~~((n:Int)=0)&&if Y=Y then !l.contains f else l.contains f)=!(n==0||l.contains f):=(by rw[aab (),Bool.not_or];congr 1;rw[cb];simp);rwa[e]at q
let h:iQ o l=(((ud o).all λq=>q.2==0||l.contains q.1)&&o.zero==0):=by unfold iQ ud mq;simp[j1]
rcases ub (λq:String×Nat=>!(q.2==0||l.contains q.1)) (ud o)with⟨n,m,_,g,p⟩|⟨_,g⟩
.show ee (pH (is:=#[2,3]) (l:=(ud o).map λq=>aT D.K #[aS<|sw q.1,aN q.2]) (λ_=>#[B<|bb D o,B<|aT D.K<|(eI l).map aV,Z,Z]) (λ_=>M) n (m:) (ij @e_) (λj a r d=>?_) (λa d=>?_) ()) ();{let[q,b,rfl]:=de d;let:=g j q r b;show [_,iu,gR (bX (x:=ag) (by let t:=c q.1 q.2;rwa[this]at t) @j_ λ_=>ed)<|.cons<|.cons<|.aC<|.aC .nil]};let[q,b,rfl]:=de d;let:=p q b;show [_,iu,bX (x:=Y) (by let t:=c q.1 q.2;rwa[this]at t) (λ_=>aF aM<|cU ?_) λz=>by cases z];rw[h];simp only[WL,a6,false_iff,not_and,cq];intro z;let y:=z q<|bY b;rw[y]at this;cases this
show bg (jd (is:=#[2,3]) (λ_=>#[B<|bb D o,B<|aT D.K<|(eI l).map aV,Z,Z]) (λ_=>M) (ij @e_) λj a d=>?_) ?_;{let[q,b,rfl]:=de d;let:=g q<|bY b;show [_,iu,gR (bX (x:=ag) (by let t:=c q.1 q.2;rwa[this]at t) @j_ λ_=>ed)<|.cons<|.cons<|.aC<|.aC .nil]};show aF @e_<|cU ?_;rw[h];let:((ud o).all λq=>q.2==0||l.contains q.1)=Y:=cq.mpr λq b=>by let:=g q b;rw[lM]at this;show this
rw[this];simp}
def A0:(iO n=s)=(ck n=sw s):=aaI<|by rw[A1];show [λh=>by rw[h],Ii]
def FA:bW E (dy D neg) (aS<|ck n) (aT D.K<|(eI l).map aV) M$ aB (if neg then !l.contains (iO n)else l.contains<|iO n):=by let:=uD (E:=E) (D:=D) (neg:=neg) (M:=M) (x:=.str<|sw<|iO n) (xs:=eI l) () (Ig l);rw[Aj]at this;rw[A1];show this
theorem IA{a:Type}[DecidableEq a]{k0 k:a}{b:V}{r:List<|a×V}:eF ((k0,b)::r) k=if k0=k then B b else eF r k:=by unfold eF;rw[jD];by_cases h:k0=k<;>simp[h]
theorem Zk(T:Tk D){M:Mu}{n:Nat}(h:ED E te ρ M<|.vl (aS<|ck n) M1):ED E (BS D (tC<|.ref<|D.ad "MOST_AUX") te<|tC<|.int 0) ρ M<|.vl (aN<|AB n) M1:=λe F H R w Q q=>by{
let[d,f,i]:=T.aux;show [D.ad "MOST_AUX",d,(),f,h e F H R w _ λv j l g m=>[.inr<|ck n,m,?_]];show q _ j l g ?_;change (eF d<|oE<|ck n).getD (.int 0)=.int _;subst i;let o:((sw "convert":Str)=ck n)=(n=8):=by rw[<-Wl];show aaI eq_comm
let p:((sw "compare":Str)=ck n)=(n=9):=by rw[<-Wk];show aaI eq_comm
let r:((sw "function":Str)=ck n)=(n=26):=by rw[<-alw];show aaI eq_comm
rw[IA,IA,IA];simp only[Sum.inr.injEq,o,p,r];unfold AB;by_cases a:n=8;{subst a;rfl};by_cases b:n=9;{subst b;rfl};by_cases c:n=26;{subst c;rfl};rw[aaa a,aaa b,aaa c];change V.int 0=_;split<;>first|rfl|(exfalso;lia)}
def amR:ED E (tC<|.ref<|D.ad<|sw "KINDLESS") ρ M$ aT D.K<|(eI #["move","choose"]).map aV:=gZ T<|by decide+kernel
def amS:ED E (tC<|.ref<|D.ad<|sw "OF_ANY_KIND") ρ M$ aT D.K<|(eI #["const","convert","compare"]).map aV:=gZ T<|by decide+kernel
def amP:ED E (tC<|.ref<|D.ad<|sw "ASKING_NO_MORE") ρ M$ aT D.K<|(eI #["end","fail","skip","loop","round","back"]).map aV:=gZ T<|by decide+kernel
def ad7(T:Tk D):CD (Q9 D) #[bb D o,aN p] M$ aB<|~~~(max (max (max o.dst o.a) o.b) o.c<p):=by lk;walk_at "s";show cU<|by simp only[<-Lean.Omega.Int.ofNat_max,Int.ofNat_lt]
def adk(T:Tk D):CD (Qz D) #[bb D o,aN p] M$ aB<|Ei o p:=by lk;walk_at "s";all_goals (show cU ?_;unfold Ei;simp_all;first|done|lia|grind)
def adE(T:Tk D):CD (QN D) #[bb D o] M$ aB<|Aq o:=by lk;walk_at "s";all_goals (show cU ?_;unfold Aq;simp_all[A0,sw,alz,als,alu,Wl,Wk];try lia)
def E8(T:Tk D):CD (HL D) #[bb D o,aN p] M$ aB<|lI o p:=by lk;walk_at "s";(all_goals (show bN ?_;unfold lI;simp only[alv,alG,alB,iX,lM,aaK,aaS]at*));all_goals grind
theorem qu{α:Type}{l:List α}{i:Nat}{d x:α}(h:l[i]?=B x):l.getD i d=x:=by rw[cV,h];rfl
theorem ix{α:Type}{l:List α}{i:Nat}(h:i<U l):l[i]?=B l[i]:=bF h
def aem(T:Tk D):CD (HK D) #[aN a,bA l] M$ aB<|pF a l:=by lk;walk_at "s";show cU<|by unfold pF;simp;omega
def adB(T:Tk D):CD (Hv D) #[aN n] M$ aB<|~~~(1<=n)&&~~~(n<=63):=by lk;walk_at "s";show cU<|by simp;omega
def adM(T:Tk D):CD (QU D) #[bb D o] M$ aB (if 15<o.aux\/¬(1<=o.dst/\o.dst<=63)then ag else ~~~(max o.a o.b<=63)):=by lk;walk_at "s";all_goals (show cU ?_;simp_all;try lia)
theorem adh(T:Tk D){M:Mu}{p:cg}{o:bf}:CD (Qw D) #[ej D p,bb D o] M$ aB (if U p.inputs<=o.aux\/256<=o.dst then ag else pF o.a (p.inputs.getD o.aux [0,[]]).lens):=by lk;show br @t_ (λO=>aF aM<|cU ?_) () λO=>?_;{simp at O⊢;lia};simp at O;let hx:=ix O.1;show aF @e_<|cU ?_;rw[aaa @o_,qu hx]
theorem aev(T:Tk D){M:Mu}{p:cg}{o:bf}:CD (RD D) #[ej D p,bb D o] M$ aB (if U p.results<=o.aux\/256<=o.b\/3<o.c then ag else if(p.results.getD o.aux [[0,[]],0]).shape.lens.length=0\/pF o.a (p.results.getD o.aux [[0,[]],0]).shape.lens=ag then ag else o.c==0||!((p.results.getD o.aux [[0,[]],0]).shape.kind==0)):=by lk;show br @t_ (λO=>aF aM<|cU ?_) () λO=>?_;{simp at O⊢;lia};simp at O;let hx:=ix (by lia:o.aux<U p.results);rw[aaa @o_,qu hx];walk_at "s";all_goals (show cU ?_;simp_all;try lia)
theorem adp(T:Tk D){M:Mu}{p:cg}{o:bf}:CD (QE D) #[ej D p,bb D o] M$ aB (if U p.results<=o.aux\/256<=o.a then ag else(p.results.getD o.aux [[0,[]],0]).shape.lens.length==0):=by lk;show br @t_ (λO=>aF aM<|cU ?_) () λO=>?_;{simp at O⊢;lia};simp at O;let hx:=ix (by lia:o.aux<U p.results);show aF @e_<|cU ?_;rw[aaa @o_,qu hx];simp
def ad1(T:Tk D):CD (Q3 D) #[ej D p,bb D o] M$ aB<|DQ p o:=by lk;walk_at "s";(all_goals (show bN ?_;unfold DQ;simp only[alC,alF,aly,sS,alE,alx,aaK,aaS]at*));all_goals (first|(simp_all;done)|(rw[cb];simp_all;done)|(rw[cb];simp_all;omega)|(rw[cb];simp_all[A0,sw,w_end,Wm,sU,mO,yt,mM];done))
def MX:CD (Hl D) #[ej D p,bb D o] M$ aB<|g9 p o:=by lk;show br @t_ (λO=>aF aM<|bN ?_) () λO=>?_;{unfold g9;cases a:eu o.op<;>cases b:lV o.op<;>simp_all};let h:(eu o.op).isSome=Y\/(lV o.op).isSome=Y:=(by rw[lM,j2]at O;show O);show br (iV @t_ λ_=>fi<|a9<|az (ai (af ())<|ai (az @a_<|adU T h) au)<|E5 T) (λO=>aF aM<|bN ?_) () λO=>?_;{unfold g9;cases a:eu o.op<;>cases b:lV o.op<;>simp_all<;>grind};show br @t_ (λO=>aF (az @a_<|E8 T (p:=256))<|bN ?_) () λO=>aF @e_<|bN ?_;{unfold g9;cases a:eu o.op<;>simp_all;lia};unfold g9;cases a:eu o.op<;>cases b:lV o.op<;>simp_all;lia
theorem adi(T:Tk D){M:Mu}{c:a7}{o:bf}:CD (Qx D) #[bH D c,bb D o] M$ aB (if U c.slots<=o.aux\/1024<=o.dst\/1024<=o.a then ag else ~~~(o.a+(c.slots.getD o.aux [0,[]]).lens.length<=1024)):=by lk;show br @t_ (λO=>aF aM<|cU ?_) () λO=>?_;{simp at O⊢;lia};simp at O;let hx:=ix (by lia:o.aux<U c.slots);show aF @e_<|cU ?_;rw[aaa @o_,qu hx];simp;lia
def aeq(T:Tk D):CD (Rw D) #[bb D o] M$ aB (if o.aux=1 then o.a==0 else o.aux==0&&~~~(o.a<1024)):=by lk;walk_at "s";all_goals (show cU ?_;simp_all;grind)
def aeU(T:Tk D):CD (HX D) #[bH D c,bb D o,aN t] M$ aB<|vg c o t:=by lk;walk_at "s";all_goals (show cU ?_;unfold vg;simp_all;grind)
theorem adj(T:Tk D){M:Mu}{c:a7}{o:bf}:CD (Qy D) #[bH D c,bb D o] M$ aB (if U c.slots<=max o.dst o.a then ag else(c.slots.getD o.dst [0,[]]==c.slots.getD o.a [0,[]])):=by{
lk;show br @t_ (λO=>aF aM<|cU ?_) () λO=>?_;{simp at O⊢;omega};simp at O;let b:o.dst<U c.slots:=by omega
let d:o.a<U c.slots:=by omega
let hx:=ix b;let e:=ix d;show aF @e_<|cU ?_;rw[aaa @O_,qu hx,qu e];simp}
def ad2(T:Tk D):CD (Q4 D) #[bH D c,bb D o] M$ aB<|uv c o:=by lk;walk_at "s";(all_goals (show bN ?_;unfold uv;simp only[sS,sU,mO,mM,w_call,yu,qN,yr,j2,sV,aaK,aaS]at*));all_goals (first|(simp_all;done)|(rw[cb];simp_all;done)|(rw[cb];simp_all;omega)|(rw[cb];simp_all[w_end,Wm];done))
def adK:CD (QR D) #[bH D c,bb D o] M$ aB<|eS c o:=by lk;show br @t_ (λO=>aF aM<|bN ?_) () λO=>?_;{unfold eS;cases a:eu o.op<;>cases b:jx o.op<;>simp_all};let h:(eu o.op).isSome=Y\/(jx o.op).isSome=Y:=(by rw[lM,j2]at O;show O);show br (fi<|a9<|az (ai (af ())<|ai (az @a_<|Nh T h) au)<|E5 T) (λO=>aF aM<|bN ?_) () λO=>?_;{unfold eS;cases a:eu o.op<;>cases b:jx o.op<;>simp_all};show br @t_ (λO=>aF (az @a_<|E8 T (p:=1024))<|bN ?_) () λO=>aF @e_<|bN ?_;{unfold eS;cases a:eu o.op<;>simp_all};unfold eS;cases a:eu o.op<;>cases b:jx o.op<;>simp_all
theorem uR{E:XK}{α:Type}{xs:List α}{f:α->As}{p:α->Bool}{ρ:En}{M:Mu}{q:TE}{cond:TT}{r:TS}{rest:TS}{i k:Nat}{o:Oc}{K:aR}(s:ED E q ρ M$ aL<|xs.map f)(hl:∀a b,gX ((ρ.set i<|B a).set k<|B b) ρ)(u:o.out=Y)(g:∀(j:Nat) x,xs[j]?=B x->TD E cond ((ρ.set i<|B<|aN j).set k<|B<|f x) M (.vl (!p x) M))(w:∀n x,xs.findIdx? (λx=>!p x)=B n->xs[n]?=B x->SD E r ((ρ.set i<|B<|aN n).set k<|B<|f x) M o)(y:xs.findIdx? (λx=>!p x)=Z->SD E rest ρ M o):SD E (bQ (fH (i_ K<|aJ q aX) (hZ K 2<|dJ (aY i)<|dJ (aY k) hX)<|bu cond r bw) rest) ρ M o:=by(rcases ub (λx=>!p x) xs with⟨n,h,e,m,A⟩|⟨e,m⟩);{show ee (pH (is:=#[i,k]) (l:=i8 K<|xs.map f) (λ_=>ρ) (λ_=>M) n (by rw[rL,aP];show h) (qO<|ai s au) (λj a C d=>?_) (λa d=>?_) u) u;{let[v,c,rfl]:=lx d;let[x,hx,rfl]:=de c;show [_,iu,gR (bX (x:=ag) (by let t:=g j x hx;rwa[m j x C hx]at t) @j_ λ_=>ed)<|hl _ _]};let[v,c,rfl]:=lx d;let[x,hx,rfl]:=de c;show [_,iu,bX (x:=Y) (by let t:=g n x hx;rwa[A x hx]at t) (λ_=>w n x e hx) λz=>by cases z]};show bg (jd (is:=#[i,k]) (l:=i8 K<|xs.map f) (λ_=>ρ) (λ_=>M) (qO<|ai s au) λj a d=>?_)<|y e;let[v,c,rfl]:=lx d;let[x,hx,rfl]:=de c;show [_,iu,gR (bX (x:=ag) (by let t:=g j x hx;rwa[m x<|bY hx]at t) @j_ λ_=>ed)<|hl _ _]
theorem aeZ(T:Tk D)(N:eK c):CD (RZ D) #[bH D c] M$ er<|vA c.calls<|vz c:=by lk;unfold vA;change SD E _ #[B<|bH D c,Z,Z] M _;show uR (xs:=c.calls) (f:=c_ D) (p:=vz c) @e_ (λa b=>.cons<|.aC<|.aC .nil) () (λj x hx=>fi<|a9<|az @a_<|ade T N<|N.calls x<|bY hx) (λn x e _=>aF @b_ ?_) λe=>aF aM ?_;{rw[e];rfl};rw[e];rfl
theorem ZD{k:Nat}(h:k<13):((ez #[1,1,2,4,8,1,2,4,8,2,2,4,8]).map aV)[k]?=B (aN<|tF k):=by{
match k,h with
|0,_=>rfl|1,_=>rfl|2,_=>rfl|3,_=>rfl|4,_=>rfl|5,_=>rfl|6,_=>rfl|7,_=>rfl|8,_=>rfl|9,_=>rfl|10,_=>rfl|11,_=>rfl|12,_=>rfl
|n+13,h=>lia}
theorem ako(k:Nat):tF k<=8:=by by_cases h:k<13;{show(by decide:∀k,k<13->tF k<=8) k h};unfold tF;rw[cV,iF @m_];simp
theorem aha{s:bT}(h:s.ok=Y):s.kind<13/\(∀n∈s.lens,n<=1048576)/\s.cells<=1048576:=by unfold q_ om yM at h;simp at h;show [h.1,h.2.2.1,h.2.2.2]
theorem aer(T:Tk D){M:Mu}{s:bT}(ok:s.ok=Y):CD (Rx D) #[bK D s] M$ aN<|Ln.roomOf s:=by lk;let[a,b,c]:=aha ok;let d:=ako s.kind;let f:s.cells*tF s.kind<=1048576*8:=Nat.mul_le_mul c d;show bt (ax (ax (ax (ax (az @a_ (uk T λn e=>by let:=b n e;lia)) (ax (gZ T (n:="CELL_BYTES") (l:=ez #[1,1,2,4,8,1,2,4,8,2,2,4,8])<|by decide+kernel) @e_<|jQ () (ZD a))<|nM<|.inl [by lia,by lia]) bZ g8) bZ FI) bZ<|N4 [by decide,by decide])<|aF (ax @b_ bZ<|nM<|.inr [by decide,by decide])<|ei ?_;unfold Ln.roomOf;let:((s.cells:Int)*(tF s.kind:Int))=((s.cells*tF s.kind:Nat):Int):=(by rw[Cb]);rw[this];lia
def yj{α:Type}(f:α->Nat)(l:List α):(l.map λx=>(f x:Int)).sum=(((l.map f).foldr (λ(a b:Nat)=>a+b) 0:Nat):Int):=by induction l with|nil=>rfl|cons a l c=>rw[cC,oh,c,cC,tj,WO]
theorem MZ(T:Tk D)(ok:∀s∈l,s.ok=Y)(b:U l<=256):CD (BA D) #[aL<|l.map<|bK D] M$ aN<|Jk l:=by lk;let a:=sz;show aF (dm (ai (dQ (xs:=l) (f:=bK D) (h:=λs=>aN<|Ln.roomOf s) @w_ @o_ λs a=>[_,bL,az @a_<|aer T<|ok s a]) au) rF)<|ei ?_;rw[yj];rfl
theorem aeY(T:Tk D)(N:eK c):CD (RY D) #[bH D c] M$ er<|(yQ c).map λf=>f.at_:=by lk;let d:=sz;unfold yQ vA;change SD E _ #[B<|bH D c,Z,Z,Z,Z] M _;show uR (xs:=c.slots) (f:=bK D) (p:=q_) @e_ (λa b=>.cons<|.aC<|.aC<|.cons<|.cons .nil) () (λj x hx=>by walk_at "t") (λn x e _=>aF @b_ ?_) λg=>?_;{rw[e];rfl};(rw[g];let ok:∀s∈c.slots,s.ok=Y:=λs d=>by let:=(iE.mp g) s d;simpa using this);show uR (xs:=c.names) (f:=aName) (p:=yV) @e_ (λa b=>.cons<|.aC<|.cons<|.aC<|.cons .nil) () (λj x hx=>by walk_at "t") (λn x e _=>aF @b_ ?_) λh=>?_;{rw[e];rfl};rw[h];show uR (xs:=c.pieces) (f:=ej D) (p:=vE) @e_ (λa b=>.cons<|.aC<|.cons<|.cons<|.aC .nil) () (λj x hx=>fi<|a9<|az @a_<|ad6 T (by let:=(N.pieces x<|bY hx).inl;lia) (by let:=(N.pieces x<|bY hx).rel;lia)) (λn x e _=>aF @b_ ?_) λi=>?_;{rw[e];rfl};rw[i];show br (fi<|a9<|az @a_<|aes T<|MZ T ok N.sl) (λO=>aF @e_ ?_) () λO=>aF aM ?_;{rw[Bool.not_not,aaQ]at O;change _=er (k7 _ (if _ then _ else _));rw[aab O,aP];rfl};rw[Bool.not_not,aaS]at O;change _=er (k7 _ (if _ then _ else _));rw[aaa O];rfl
def ae0(N:eK c):CD (R0 D) #[bH D c] M$ er<|(vD c).map λf=>f.at_:=by{
lk;let hs:=sz;unfold vD;rw[jF,IT,Ae,aP];change SD E _ #[B<|bH D c,Z,Z,Z,Z,Z] M _;show uR (xs:=c.main) (f:=bb D) (p:=eS c) @e_ (λa b=>.cons<|.aC<|.aC<|.cons<|.cons<|.cons .nil) () (λj x hx=>by walk_at "t") (λn x e _=>aF @b_ ?_) λH=>?_;{rw[show(λx=>!Ln.mainOp c x)=λx=>!eS c x from funext λx=>by rw[FU],e];rfl};rw[show(λx=>!Ln.mainOp c x)=λx=>!eS c x from funext λx=>by rw[FU],H,tK];show bt @e_ ?_;rw[show(aN (U (c.main.map<|bb D)))=aN (U c.main+((c.pieces.take 0).map λp=>U p.body).sum)by simp];let[F,G]:=Es (λp:cg=>p.body.map<|Cw p) (λb=>!b) c.pieces;let d:∀p:cg,((p.body.map<|Cw p).any λb=>!b)=p.body.any λo=>!g9 p o:=λp=>by rw[Cc];congr 1;funext o;simp[FT]
let h:∀p:cg,(p.body.map<|Cw p).findIdx? (λb=>!b)=p.body.findIdx? λo=>!g9 p o:=λp=>by rw[Ae];congr 1;funext o;rw[FT]
simp only[d,h,aP]at F G;refine_lift let st:Nat->En:=λj=>#[B<|bH D c,Z,Z,B<|aN<|U c.main+((c.pieces.take j).map λp=>U p.body).sum,Z,Z];?_;let turn:∀(j:Nat)(p:cg),c.pieces[j]?=B p->p.body.findIdx? (λo=>!g9 p o)=Z->SD E (bQ (fH (i_ D.K<|aJ (fV D.K (ay 4) "body") aX) (hZ D.K 2<|dJ (aY 5)<|dJ (aY 2) hX)<|bu (cw<|tB<|dq (Hl D) [] E<|aJ (ay 4)<|aJ (ay 2) aX) (ah<|aq (ib D.K) (ay 3)<|ay 5) bw)<|b_ (aq (ib D.K) (ay 3)<|cz (gP D.K)<|aJ (fV D.K (ay 4) "body") aX)<|aY 3) ((st j).set 4<|B<|ej D p) M (.nx (st<|j+1) M):=λj p s w=>by change SD E _ #[B<|bH D c,Z,Z,B<|aN<|U c.main+((c.pieces.take j).map λp=>U p.body).sum,B<|ej D p,Z] M _;show bg (jd (is:=#[5,2]) (l:=i8 D.K<|p.body.map<|bb D) (λ_=>#[B<|bH D c,Z,Z,B<|aN<|U c.main+((c.pieces.take j).map λp=>U p.body).sum,B<|ej D p,Z]) (λ_=>M) (qO @a_) λi a r=>?_)<|gR (jU @e_)<|.cons<|.cons<|.cons<|.tZ ?_<|.aC<|.cons .nil;{let[a',A,rfl]:=lx r;let[o,I,rfl]:=de A;let J:=(iE.mp w) o<|bY I;show [_,iu,gR (bX (x:=ag) ?_ @j_ λ_=>ed)<|.cons<|.cons<|.aC<|.cons<|.cons<|.aC .nil];let t:=fi<|a9<|az (M:=M) (E:=E) (ρ:=#[B<|bH D c,Z,B<|bb D o,B<|aN<|U c.main+((c.pieces.take j).map λp=>U p.body).sum,B<|ej D p,B<|aN i]) (t:=aJ (ay 4)<|aJ (ay 2) aX) @a_<|MX T (p:=p) (o:=o);rwa[show(!g9 p o)=ag from J]at t};show ei ?_;rw[Mx.BO _ _ _ _ s,aP];lia
rcases ub (λp:cg=>p.body.any λo=>!g9 p o) c.pieces with⟨n,w,e,C,P⟩|⟨e,C⟩
.let s:c.pieces[n]?=B c.pieces[n]:=bF w;generalize c.pieces[n]=p at s;let d:=P p s;rw[F n p e s];cases u:p.body.findIdx? (λo=>!g9 p o)with|none=>let[y,v,Q]:=sY.mp d;show absurd Q ((iE.mp u) y v:)|some i=>change SD E _ (st 0) M _;show ee (pH (is:=#[4]) (l:=c.pieces.map<|ej D) st (λ_=>M) n (by rw[aP];show w) @w_ (λj a X r=>?_) (λa r=>?_) ()) ();{let[q,g,rfl]:=de r;show [_,bL,turn j q g ?_];let:=C j q X g;show iE.mpr λy v=>((pR.mp this) y v:)};let[q,g,rfl]:=de r;rw[s]at g;cases g;show [_,bL,?_];change SD E _ #[B<|bH D c,Z,Z,B<|aN<|U c.main+((c.pieces.take n).map λp=>U p.body).sum,B<|ej D p,Z] M _;show uR (xs:=p.body) (f:=bb D) (p:=g9 p) @e_ (λa b=>.cons<|.cons<|.aC<|.cons<|.cons<|.aC .nil) () (λj x hx=>by walk_at "t") (λm x e _=>aF @e_ ?_) (λe=>by rw[e]at u;cases u);rw[e]at u;cases u;show ei @m_
rw[G e];change SD E _ (st 0) M _;show bg (jd (is:=#[4]) (l:=c.pieces.map<|ej D) st (λ_=>M) @w_ λj a r=>?_)<|bV aM;let[q,g,rfl]:=de r;show [_,bL,turn j q g ?_];let:=C q<|bY g;show iE.mpr λy v=>((pR.mp this) y v:)}
section
def rC(f:Nat->Option As):As:=[λv H=>∃a aE,v=.ref a/\H a=B (.dK aE)/\∀p:Nat,(∀x,f p=B x->∃u,eF aE (.inl (p:Int))=B u/\x.p u H)/\(f p=Z->eF aE (.inl (p:Int))=Z),λs h=>let⟨a,aE,e,g,k⟩:=h;[a,aE,e,s _ _ g,λp=>[λx hx=>let⟨u,b,c⟩:=(k p).1 x hx;[u,b,x.up s c],(k p).2]]]
variable{a:As}
def nL(h:f p=B a):bW E (fg D) (rC f) (aN p) M$ a:=λx y F H w c d Q q=>by let[b,aE,rfl,O,k]:=c;cases d;let[u,e,g]:=(k p).1 a h;show .inr [b,u,(),.inl<|e▸k9.k (k:=.inl (p:Int)) (w.fh _ _ O),q.fin w g]
def N8:bW E (dy D neg) (aN p) (rC f) M$ aB (if neg then !(f p).isSome else(f p).isSome):=λx y F H w c d Q q=>by let[b,aE,rfl,O,k]:=d;cases c;show .inr [b,eF aE<|.inl (p:Int),(),.inl<|k9.k (k:=.inl (p:Int))<|w.fh _ _ O,?_];let e:(eF aE<|.inl (p:Int)).isSome=(f p).isSome:=(by cases z:f p with|none=>rw[(k p).2 z];rfl|some x=>let[u,g,_]:=(k p).1 x z;rw[g];rfl);rw[e];show q.fin w ()
def N6:bW E (ic K) (er x) (er y) M$ aB<|~~~(x=y):=by{
cases x with
|none=>cases y with|none=>show uz (x:=.aC) (y:=.aC) ()|some n=>show uz (x:=.aC) (y:=.int n) ()
|some m=>cases y with|none=>show uz (x:=.int m) (y:=.aC) ()|some n=>let:=kP (E:=E) (K:=K) (M:=M) (i:=m) (j:=n);rwa[show ~~~((m:Int)=n)= ~~~(B m=B n)from aaP.mpr [λh=>by rw[Int.ofNat.inj h],λh=>by injection h with h;rw[h]]]at this}
def N5:bW E (ic K) (aB x) (aB y) M$ aB<|~~~(x=y):=by let:=uz (E:=E) (K:=K) (M:=M) (x:=.bl x) (y:=.bl y) ();rwa[show ~~~(V.bl x=V.bl y)= ~~~(x=y)from aaP.mpr [λh=>V.bl.inj h,λh=>by rw[h]]]at this
abbrev eH(D:aH)(l:List bf):As:=i3 (D.ad "Loops") #[("innermost",aL<|(dc (U l)).map λi=>er<|bP l i),("back_of_loop",rC λi=>(eM l l.length i).map aN),("loop_of_back",rC λi=>if(l.getD i bp).op=21/\i<U l then(bP l i).map aN else Z),("depth",rC λi=>if(l.getD i bp).op=19 then B (aN (U (a0 l i)))else Z),("rounds",rC λi=>if(l.getD i bp).op=19 then B (bA<|dX l l.length i)else Z)]
def kS(h:i<n):(dc n)[i]?=B i:=by rw[W0 h]
def iy(h:i<U l):l[i]?=B (l.getD i bp):=by rw[cV,bF h];rfl
def M7(T:Tk D)(b:i<U l):CD (Ho D) #[aL<|l.map<|bb D,aN i] M$ aB<|nu l i:=by lk;let c:=iy b;walk_at "s";show cU ?_;unfold nu;simp[w_end];grind
def Nk(T:Tk D)(b:i<U l):CD (HM D) #[aL<|l.map<|bb D,eH D l,aN i] M$ aB<|sH l i:=by lk;let c:=iy b;let d:=kS b;unfold sH;show bt @e_<|br @t_ (λO=>aF aM<|bN ?_) () λO=>?_;{simp[-cV]at O;rw[aab @o_]};simp[-cV]at O;let e:=kS (by lia:(l.getD i bp).to<U l);show aF @e_<|bN ?_;rw[aaa @o_];rw[cb];simp
def E4(T:Tk D)(d:i<U l)(b:(l.getD i bp).op=19):CD (Hz D) #[eH D l,aN i] M$ aB<|qy l i:=by lk;let c:(if(l.getD i bp).op=19 then B (aN (U (a0 l i)))else Z)=B (aN (U (a0 l i))):=aab b;show aF (kg (ax (ax @e_ (af ())<|nL c) bZ FG) λ_=>by walk_at "e")<|bN ?_;unfold qy;rw[cb];simp;omega
def adL(c:i<U l)(e:(l.getD i bp).op=19):CD (QS D) #[aL<|l.map<|bb D,eH D l,aN i] M$ aB<|mainLoop l i:=by lk;let g:=iy c;show br (fi<|a9<|az @a_<|E4 T c e) (λO=>aF aM<|bN ?_) () λO=>?_;{rw[iX]at O;unfold mainLoop;rw[O];rfl};rw[lM]at O;let b:=O;unfold qy at b;rw[a6]at b;let[j,d]:=rg.mp b.2;let f:(eM l l.length i).map aN=B (aN j):=(by rw[d];rfl);show bt @e_<|aF (kg (ax @e_ (ax (ax @e_ @e_<|nL f) bZ g8) kP) λ_=>by walk_at "e")<|bN ?_;unfold mainLoop;rw[O,d,cb];simp;omega
def MW(T:Tk D)(c:i<U l)(f:(l.getD i bp).op=21):CD (Hk D) #[aL<|l.map<|bb D,eH D l,aN i] M$ aB<|qo l i:=by lk;let g:=iy c;let b:(if(l.getD i bp).op=21/\i<U l then(bP l i).map aN else Z)=(bP l i).map aN:=aab [f,c];unfold qo;cases e:bP l i with|none=>show aF (kg (y:=ag) @e_ λz=>?_)<|bN ?_;{rw[b,e]at z;simp at z};rw[b,e];rfl|some h=>let d:(if(l.getD i bp).op=21/\i<U l then(bP l i).map aN else Z)=B (aN h):=(by rw[b,e];rfl);show aF (kg @e_ λ_=>ax @e_ (ax (ax @e_ @e_<|nL d) bZ g8) kP)<|bN ?_;rw[d,cb];simp;omega
def adJ(b:i<U l)(f:(l.getD i bp).op=21):CD (QQ D) #[aL<|l.map<|bb D,eH D l,aN i] M$ aB<|xp l i:=by{
lk;let m:=iy b;unfold xp;show br (fi<|a9<|az @a_<|MW T b f) (λO=>aF aM<|bN ?_) () λO=>?_;{rw[iX]at O;rw[O];rfl};rw[lM]at O;let c:=O;unfold qo at c;rw[a6]at c;let[h,d]:=rg.mp c.1;let g:(if(l.getD i bp).op=21/\i<U l then(bP l i).map aN else Z)=B (aN h):=by rw[aab [f,b],d];rfl
let e:h<U l:=by let:h<i:=lK l i h<|Xe d;lia
let j:=iy e;show bt @e_<|bt (ax @e_ (ax @e_ @e_<|nL g)<|qA j)<|aF @e_<|bN ?_;rw[O,d,cb];simp;lia}
def aej(T:Tk D)(b:i<U l):CD (Ru D) #[aL<|l.map<|bb D,eH D l,aN i] M$ aB<|uP l i:=by lk;let f:=iy b;let g:=kS b;unfold uP;show bt @e_ ?_;cases e:bP l i with|none=>change SD E _ #[B<|aL<|l.map<|bb D,B<|eH D l,B<|aN i,B aU] M _;show br (iV (y:=ag) @t_ λz=>by simp at z) (λO=>aF aM ()) () λO=>by simp at O|some h=>change SD E _ #[B<|aL<|l.map<|bb D,B<|eH D l,B<|aN i,B<|aN h] M _;show br @t_ (λO=>aF aM<|bN ?_) () λO=>?_;{simp at O;change ag=((eM l l.length h).isSome&&_);rw[O];rfl};simp at O;let[j,c]:=rg.mp O;let d:(eM l l.length h).map aN=B (aN j):=(by rw[c];rfl);show aF (kg @e_ λ_=>ax @e_ (ax (ax @e_ @e_<|nL d) bZ g8) kP)<|bN ?_;change _=((eM l l.length h).isSome&&_);rw[c,cb];simp;omega
def adV(T:Tk D)(b:i<U l)(g:U l<=65536):CD (QY D) #[aL<|l.map<|bb D,eH D l,aN i] M$ aB<|xA l i:=by lk;let j:=sz;let m:=iy b;let n:=kS b;unfold xA;show bt @e_ ?_;cases e:bP l i with|none=>change SD E _ #[B<|aL<|l.map<|bb D,B<|eH D l,B<|aN i,B aU,Z,Z] M _;show br @t_ (λO=>aF aM ()) () λO=>by simp at O|some h=>change SD E _ #[B<|aL<|l.map<|bb D,B<|eH D l,B<|aN i,B<|aN h,Z,Z] M _;let c:(l.getD h bp).op=19:=sP l i h<|Xe e;let d:(if(l.getD h bp).op=19 then B (bA<|dX l l.length h)else Z)=B (bA<|dX l l.length h):=aab c;let hlen:U (dX l l.length h)<=sizeLine:=(by let:=Cn (mh l h)<|dc (U l);rw[j4]at this;unfold dX;lia);show br @t_ (λO=>by simp at O) () λO=>bt @e_<|aF (ax (dm (ai (t6 (xs:=dX l l.length h) (f:=aN) (h:=aN) (p:=λk=>~~~(i<k)&&~~~(k<(l.getD i bp).to)) (ij<|ax @e_ @e_<|nL d) hlen λx hx=>[_,bL,?_,λ_=>af ()]) au) lU) bZ kP)<|bN ?_;{let q:=a9 (E:=E)<|Le (M:=M) (ρ:=#[B<|aL<|l.map<|bb D,B<|eH D l,B<|aN i,B<|aN h,B<|aN (l.getD i bp).to,B<|aN x]) (af (i:=2) ()) (af (i:=5) ())<|af (i:=4) ();rwa[show(~~~((i:Int)<x)&&~~~((x:Int)<(l.getD i bp).to))=(~~~(i<x)&&~~~(x<(l.getD i bp).to))by simp]at q};rw[aP,cb];simp
def Na(T:Tk D)(m:i<U l)(w:U l<=65536):CD (Hs D) #[eH D l,aN i] M$ bA<|a0 l i:=by{
lk;let x:=sz;let y:=kS m;let key:∀j h,(a0 l i)[j]?=B h->h<U l/\bP l h=(a0 l i)[j+1]?:=λj h d=>by let g:=bY d;let n:=lK l i h g;show [by lia,?_];let e:=el.mp d;let[o,e]:=e;let:a0 l i=(a0 l i).take j++h::(a0 l i).drop (j+1):=(by conv=>lhs;rw[<-vw j<|a0 l i,vp o,e]);rw[bP,yi l i _ h _ this,List.head?_drop]
let hlen:U (a0 l i)<=65536:=by let:U (a0 l i)<=i:=(by(let:∀k,U (a0 l k)<=k:=λk=>by induction k with|zero=>show bD 0|succ k r=>change U (gf _ _ _)<=k+1;unfold gf;split;{simp;show r};split;{simp;lia};lia);show this i);lia
show qH au (iH _) λp s=>?_;show bt @e_ ?_;refine_lift let st:Nat->En:=λj=>#[B<|eH D l,B<|aN i,B<|aV<|.ref p,B<|er (a0 l i)[j]?];?_;refine_lift let b:Nat->Mu:=λj=>mu M p<|.lst<|((a0 l i).take j).map aN;?_;let t:er (bP l i)=er (a0 l i)[0]?:=by rw[bP,List.head?_eq_getElem?]
rw[t];change SD E _ (st 0) (b 0) _;let f:∀j,TD E (tB<|aq fT (ay 3)<|tC .aC) (st j) (b j)<|.vl ((a0 l i)[j]?).isSome<|b j:=λj=>a9<|ax @b_ aM FH;let fin:SD E (ah<|ay 2) (st (U (a0 l i))) (b (U (a0 l i)))<|.rt (bA<|a0 l i) M:=by let q:=pJ (E:=E) (ρ:=st (U (a0 l i))) (te:=ay 2) (af (i:=2) ())<|bO (M:=M) (p:=p) (c:=.lst<|((a0 l i).take (U (a0 l i))).map aN);rw[o9 s,lO]at q;change SD E _ _ (mu M p<|.lst<|((a0 l i).take (U (a0 l i))).map aN) _;rw[lO];show q
show bg (G7 (a0 l i).length st b b (λj d=>?_) (λj d=>?_) ?_) fin;{let:=f j;rwa[bF d]at this}
.let hx:(a0 l i)[j]?=B (a0 l i)[j]:=bF d;generalize (a0 l i)[j]=h at hx;let[u,v]:=key j h hx;let z:=kS u;change SD E _ #[B<|eH D l,B<|aN i,B<|aV<|.ref p,B<|er (a0 l i)[j]?] _ _;rw[hx];change SD E _ #[B<|eH D l,B<|aN i,B<|aV<|.ref p,B<|aN h] (b j)<|.nx #[B<|eH D l,B<|aN i,B<|aV<|.ref p,B<|er (a0 l i)[j+1]?]<|b<|j+1;rw[<-v];let g:b (j+1)=mu (b j) p (.lst<|((a0 l i).take j).map aN++#[aN h]):=by change mu M p _=mu (mu M p _) p _;rw[gu,qY,hx,eV];rfl
 rw[g];show bg (hB<|i7 () @b_ bO (ai @b_ au)<|kM bO ?_)<|jU @e_;rw[aP,gj];lia
let:=f (U (a0 l i));rwa[iF<|bD _]at this}
end
section
def jH(D:aH):Prop:=∀(M:Mu)(l:List bf),U l<=65536->CD (HA D) #[aL<|l.map<|bb D] M (.vl (eH D l) M)
variable{a:As}
def KU(h:eS c o=Y)(d:o.op=22):o.imm<U c.calls:=by unfold eS at h;rw[d]at h;let h:(iQ o #["imm"]&&uv c o)=Y:=h;rw[a6]at h;let b:=h.2;unfold uv at b;simp[d]at b;show b
def aee(N:eK c)(g:eS c o=Y):CD (Ro D) #[bH D c,bb D o] M$ bA<|qF c o:=by lk;let r:=sz;unfold qF;by_cases b:o.op=22;{let j:=KU g b;let hx:c.calls[o.imm]?=B c.calls[o.imm]:=bF j;rw[aab b,qu hx];generalize c.calls[o.imm]=x at hx;let X:=N.calls x<|bY hx;let s:=X.rel;show br @t_ (λO=>aF (t6 (xs:=x.results) (f:=dZ D) (h:=λh=>aN h.i) (p:=λh=>h.number) @w_ @o_ λh t=>[_,bL,?_,λ_=>by walk_at "e"]) ?_) () λO=>?_;{let q:=a9 (E:=E)<|ax (M:=M) (ρ:=#[B<|bH D c,B<|bb D o,B<|dZ D h]) (ta:=fV D.K (ay 2) "bank") (tb:=tC<|.int 1) @e_ bZ<|kP (K:=D.K);rwa[show ~~~(((cK h.number:Nat):Int)=((1:Nat):Int))=h.number by cases h.number<;>rfl]at q};{unfold bA;rw[cD];rfl};simp[w_call,b]at O};rw[aaa b];let e:=Ot g;let m:=Nh T (M:=M) (n:=o.op) e;show br @t_ (λO=>by simp[w_call,b]at O) () λ_=>?_;show br (iV (a9<|ax @e_ (gZ T (n:="PUTTING_NO_DST") (l:=eI #["back","copy"])<|by decide+kernel) FA) λ_=>a9<|ax aM (az @a_ m)<|uD (x:=.str<|sw "dst") () (Ig _)) (λO=>aF @e_ ?_) () λO=>?_;{rw[Aj]at O;rw[aab];{rfl};simpa[A0,sw,mM,yr]using O};rw[Aj]at O;rw[aaa<|by simpa[A0,sw,mM,yr]using O];show br @t_ (λd=>aF @e_ ?_) () λd=>aF @e_ ?_;{rw[aab<|by simp[qN]at d;lia];rfl};rw[aaa<|by simp[qN]at d;lia];rfl
def aed(N:eK c)(d:i<U c.main)(g:eS c (c.main.getD i bp)=Y):CD (Rn D) #[bH D c,eH D c.main,aN i] M$ aB<|xK c i:=by{
lk;let q:=sz;let j:U c.main<=65536:=by let:=N.ops;lia
let r:=iy d;let hlen:∀k,U (a0 c.main k)<=k:=λk=>by induction k with|zero=>show bD 0|succ k l=>change U (gf _ _ _)<=k+1;unfold gf;split;{simp;show l};split;{simp;lia};lia
let s:=hlen i;let m:U (qF c<|c.main.getD i bp)<=8:=by unfold qF;split;{rw[aP];show cu (Cn _ _) ?_;rename_i e;let d:=KU g e;let hx:c.calls[(c.main.getD i bp).imm]?=B c.calls[(c.main.getD i bp).imm]:=bF d;rw[qu hx];show(N.calls _<|bY hx).rel};split;{simp};split<;>simp
show bt (bI (b:=bA<|(a0 c.main i).map λh=>(c.main.getD h bp).dst) (dQ (xs:=a0 c.main i) (f:=aN) (h:=λh=>aN (c.main.getD h bp).dst) (ij<|az @a_<|Na T d j) @o_ λh n=>[_,bL,?_])<|by unfold bA;rw[cD];rfl) ?_;{let o:=lK c.main i h n;let t:=iy (by lia:h<U c.main);walk_at "e"};show aF (Lg<|dm (ai (dQ (xs:=qF c<|c.main.getD i bp) (f:=aN) (h:=λp=>aB<|((a0 c.main i).map λh=>(c.main.getD h bp).dst).contains p) (ij<|az (ai (af ())<|ai @e_ au)<|aee T N g) @o_ λp m=>[_,bL,by walk_at "e"]) au) Kt) ()}
def Ng(N:eK c)(e:i<U c.main)(g:eS c (c.main.getD i bp)=Y):CD (QT D) #[bH D c,eH D c.main,aN i] M$ aB<|qz c i:=by{
lk;let j:U c.main<=65536:=by let:=N.ops;lia
let l:=iy e;unfold qz;show bt @e_<|br (iV (fi<|a9<|az @a_<|M7 T e) λ_=>fi<|a9<|az @a_<|aed T N e g) (λO=>aF aM<|bN ?_) () λO=>?_;{rw[aab (O:)]};let f:¬(nu c.main i=ag\/xK c i=ag):=(O:);dsimp only;rw[aaa f];show br @t_ (λh=>?_) () λh=>br @t_ (λd=>?_) () λd=>br @t_ (λb=>?_) () λb=>aF aM<|bN ?_
.let h:(c.main.getD i bp).op=19:=by simpa[mO,-cV]using h
 rw[aab h];show bV<|az @a_<|adL T e h
.let h:¬(c.main.getD i bp).op=19:=by simpa[mO,-cV]using h
 let d:(c.main.getD i bp).op=21:=by simpa[mM,-cV]using d
 rw[aaa h,aab d];show bV<|az @a_<|adJ T e d
.let h:¬(c.main.getD i bp).op=19:=by simpa[mO,-cV]using h
 let d:¬(c.main.getD i bp).op=21:=by simpa[mM,-cV]using d
 let b:(c.main.getD i bp).op=18:=by simpa[sU,-cV]using b
 rw[aaa h,aaa d,aab b];show bV<|az @a_<|Nk T e
let h:¬(c.main.getD i bp).op=19:=by simpa[mO,-cV]using h
let d:¬(c.main.getD i bp).op=21:=by simpa[mM,-cV]using d
let b:¬(c.main.getD i bp).op=18:=by simpa[sU,-cV]using b
rw[aaa h,aaa d,aaa b]}
def MY(c:i<U l)(g:U l<=65536):CD (Qs D) #[aL<|l.map<|bb D,eH D l,aN i] M$ aB<|ju l i:=by{
lk;let m:=iy c;unfold ju;show bt @e_<|br (fi<|a9<|az @a_<|M7 T c) (λO=>aF aM<|bN ?_) () λO=>?_;{rw[aab (O:)]};let f:¬(nu l i=ag):=(O:);dsimp only;rw[aaa f];show br @t_ (λh=>?_) () λh=>br @t_ (λd=>?_) () λd=>br @t_ (λb=>?_) () λb=>br @t_ (λe=>?_) () λe=>aF aM<|bN ?_
.let h:(l.getD i bp).op=19:=by simpa[mO,-cV]using h
 let j:(if(l.getD i bp).op=19 then B (bA<|dX l l.length i)else Z)=B (bA<|dX l l.length i):=aab h;rw[aab h];show aF (kg (az @a_<|E4 T c h) λ_=>ax (dm (ai (ax @e_ (af ())<|nL j) au) lU) bZ kP)<|bN ?_;rw[aP];congr 1;rw[cb];simp;lia
all_goals (simp only[mO,mM,yt,sU,aaK,aaS]at h d)
.rw[aaa h,aab d];show bV (az @a_<|MW T c d)
all_goals (simp only[mO,mM,yt,sU,aaK,aaS]at b)
.rw[aaa h,aaa d,aab b];show bV (az @a_<|aej T c)
all_goals (simp only[mO,mM,yt,sU,aaK,aaS]at e)
.rw[aaa h,aaa d,aaa b,aab e];show bV<|kg (az @a_<|Nk T c) λ_=>az @a_<|adV T c g
rw[aaa h,aaa d,aaa b,aaa e]}
def cN(h:TD E t ρ M<|.vl x M1)(e:x=y):TD E t ρ M<|.vl y M1:=e▸h
def zO(h:AD E t ρ M$ #[aN x])(e:x=y):AD E t ρ M$ #[aN y]:=e▸h
theorem PU{α:Type}{p:Nat->Bool}{ρ:En}{M:Mu}{ta:TA}{body rest:TS}{i n:Nat}{o:Oc}(g:AD E ta ρ M$ #[aN n])(h:n<2^62)(hl:∀a,gX (ρ.set i<|B a) ρ)(q:o.out=Y)(r:∀j,j<n->p j=Y->SD E body (ρ.set i<|B<|aN j) M (.nx (ρ.set i<|B<|aN j) M))(O:∀j,j<n->p j=ag->(∀k,k<j->p k=Y)->SD E body (ρ.set i<|B<|aN j) M o)(s:(∀k,k<n->p k=Y)->SD E rest ρ M o):SD E (bQ (fH (fO ta) (aY i) body) rest) ρ M o:=by{
rcases ub (λj=>!p j) (dc n)with⟨m,c,_,f,t⟩|⟨_,f⟩
.rw[j4]at c;let lt:∀k,k<m->p k=Y:=λk b=>by let:=f k k b<|kS @o_;simpa using this
 show ee (pH (is:=#[i]) (l:=(dc n).map aN) (λ_=>ρ) (λ_=>M) m (c:) (sT g () h) (λj a d e=>?_) (λa e=>?_) q) q;{let[k,b,rfl]:=de e;rw[kS @o_]at b;cases b;show [_,bL,gR (r j @o_<|lt j d)<|hl _]};let[k,b,rfl]:=de e;rw[kS c]at b;cases b;let:=t m<|kS c;show [_,bL,O m c (this:) lt]
let lt:∀k,k<n->p k=Y:=λk b=>by let:=f k<|gk.mpr b;simpa using this
show bg (jd (is:=#[i]) (l:=(dc n).map aN) (λ_=>ρ) (λ_=>M) (sT g () h) λj a e=>?_)<|s lt;let[k,b,rfl]:=de e;let d:j<n:=((el.mp b).1:);rw[kS d]at b;cases b;show [_,bL,gR (r j d<|lt j d)<|hl _]}
def ki(n:Nat)(p:Nat->Bool):Option Nat:=if n=0 then B 0 else(dc n).findIdx? λi=>!p i
def LS(h:m<n)(b:p m=ag)(hl:∀k,k<m->p k=Y):ki n p=B m:=by unfold ki;rw[aaa @o_];rw[sZ];show [(h:),(b:),λj c=>(hl j c:)]
def LR(h:n≠0)(hl:∀k,k<n->p k=Y):ki n p=Z:=by unfold ki;rw[aaa h,iE];intro x hx;simpa using hl x<|gk.mp hx
def ae1(L:jH D)(N:eK c)(g:∀o∈c.main,eS c o=Y):CD (sO D) #[bH D c,aL<|c.main.map<|bb D,aB Y] M$ er<|ki (U c.main)<|qz c:=by{
lk;let i:U c.main<=65536:=by let:=N.ops;lia
show br @t_ (λO=>aF bZ ?_) () λO=>?_
.let:U c.main=0:=by simp at O;rw[O];rfl
 rw[this];rfl
let d:U c.main≠0:=by intro z;rw[aP,z]at O;simp at O
show bt (az @a_<|L M c.main i) ?_;change SD E _ #[B<|bH D c,B<|aL<|c.main.map<|bb D,B<|aB Y,B<|eH D c.main,Z] M _;let f:∀j,j<U c.main->eS c (c.main.getD j bp)=Y:=λj b=>g _<|bY<|iy b;show PU (α:=Nat) (n:=c.main.length) (p:=qz c) (zO @a_<|by rw[aP]) @o_ (λa=>.cons<|.cons<|.cons<|.cons<|.aC .nil) () (λj b h=>?_) (λj b h e=>?_) λe=>?_;{show bg (M1:=M) (bX (M1:=M) (x:=ag) ?_ @j_ λ_=>ed)<|bX (M1:=M) (x:=ag) ?_ @j_ λ_=>ed;{show cN (n0 (a9<|af ()) λ_=>fi<|a9<|az @a_<|Ng T N b<|f j b) (by rw[h];rfl)};show n0 (x:=ag) (fi (x:=Y)<|a9<|af ()) (y:=ag) λz=>by cases z};{show ee (bX (M1:=M) (x:=Y) ?_ (λ_=>aF @b_ ?_) λz=>by cases z) ();{show cN (n0 (a9<|af ()) λ_=>fi<|a9<|az @a_<|Ng T N b<|f j b) (by rw[h];rfl)};rw[LS b h e];rfl};show aF aM ?_;rw[LR d e];rfl}
def aeX(L:jH D)(d:U l<=65536):CD (sO D) #[bH D c,aL<|l.map<|bb D,aB ag] M$ er<|ki (U l)<|ju l:=by{
lk;show br @t_ (λO=>aF bZ ?_) () λO=>?_
.let:U l=0:=by simp at O;rw[O];rfl
 rw[this];rfl
let e:U l≠0:=by intro z;rw[aP,z]at O;simp at O
show bt (az @a_<|L M l d) ?_;change SD E _ #[B<|bH D c,B<|aL<|l.map<|bb D,B<|aB ag,B<|eH D l,Z] M _;show PU (α:=Nat) (n:=l.length) (p:=ju l) (zO @a_<|by rw[aP]) @O_ (λa=>.cons<|.cons<|.cons<|.cons<|.aC .nil) () (λj b h=>?_) (λj b h f=>?_) λf=>?_;{show bg (M1:=M) (bX (M1:=M) (x:=ag) (n0 (x:=ag) (a9<|af ()) (y:=ag) λz=>by cases z) @j_ λ_=>ed)<|bX (M1:=M) (x:=ag) ?_ @j_ λ_=>ed;show cN (n0 (fi<|a9<|af ()) λ_=>fi<|a9<|az @a_<|MY T b d) (by rw[h];rfl)};{show bg (M1:=M) (bX (M1:=M) (x:=ag) (n0 (x:=ag) (a9<|af ()) (y:=ag) λz=>by cases z) @j_ λ_=>ed) (bX (M1:=M) (x:=Y) ?_ (λ_=>aF @b_ ?_) λz=>by cases z);{show cN (n0 (fi<|a9<|af ()) λ_=>fi<|a9<|az @a_<|MY T b d) (by rw[h];rfl)};rw[LS b h f];rfl};show aF aM ?_;rw[LR e f];rfl}
end
section
variable{a:As}
def sh:∀{l:List Nat}{n:Nat},n∈l->n<=l.sum|a::l,n,h=>by(rw[oh];rcases bh.mp h with rfl|h);{lia};let:=sh h;lia
def cQ(c:a7):List<|List bf:=c.main::c.pieces.map λp=>p.body
def xh(T:Tk D)(N:eK c):CD (nV D) #[bH D c] M$ aL<|(cQ c).map λl=>aL<|l.map<|bb D:=by lk;let b:=sz;let d:=N.pl;show aF (ax @e_ (dQ (xs:=c.pieces) (f:=ej D) (h:=λp=>aL<|p.body.map<|bb D) @w_ @o_ λp _=>[_,bL,by walk_at "e"])<|jz @m_) ?_;unfold cQ;rw[cC,cD];rfl
def iD(l:List bf):Option Nat:=ki (U l)<|ju l
def ku(c:a7):Option Nat:=ki (U c.main)<|qz c
def pQ(p:cg):List Bool:=if p.body=[]then#[ag]else(dc (U p.body)).map<|Cv ag p.body
def Wq(p:cg):(pQ p).findIdx? (λb=>!b)=iD p.body:=by unfold pQ iD ki;by_cases h:p.body=[];{rw[aab h,aab<|by rw[h];rfl];rfl};(let:U p.body≠0:=λz=>h<|iG.mp z;rw[aaa h,aaa this,Ae];let e:∀(l:List Nat),(∀i∈l,i<U p.body)->l.findIdx? (λx=>!Cv ag p.body x)=l.findIdx? λi=>!ju p.body i:=λl=>by induction l with|nil=>intro _;rfl|cons x l f=>intro d;rw[pU,pU,f λi c=>d i<|by simp[c],Zd<|d x @s_]);show e _ λi c=>gk.mp c
def alM(p:cg):(pQ p).any (λb=>!b)=(iD p.body).isSome:=by rw[<-Wq,List.findIdx?_isSome]
def alN(h:iD p.body=Z):U (pQ p)=U p.body:=by unfold pQ;by_cases z:p.body=[];{unfold iD ki at h;rw[aab<|by rw[z];rfl]at h;cases h};rw[aaa z];simp
def alO(d:c.main≠[])(h:∀o∈c.main,eS c o=Y):((dc (U c.main)).map λi=>Cv Y c.main i&&Ln.mainPuts c i).findIdx? (λb=>!b)=ku c:=by(unfold ku ki;let:U c.main≠0:=λz=>d<|iG.mp z;rw[aaa this,Ae];let e:∀(l:List Nat),(∀i∈l,i<U c.main)->l.findIdx? (λx=>!(Cv Y c.main x&&Ln.mainPuts c x))=l.findIdx? λi=>!qz c i:=λl=>by induction l with|nil=>intro _;rfl|cons x l j=>intro g;let hx:=g x @s_;rw[pU,pU,j λi f=>g i<|by simp[f],af1 hx<|Ot<|h _<|bY<|iy hx]);show e _ λi f=>gk.mp f
def Wr(t:∀o∈c.main,eS c o=Y):(∀m,ku c=B m->(ky c).map (λf=>f.at_)=B m)/\(ku c=Z->∀n p,c.pieces.findIdx? (λp=>(iD p.body).isSome)=B n->c.pieces[n]?=B p->∀m,iD p.body=B m->(ky c).map (λf=>f.at_)=B (U c.main+((c.pieces.take n).map λp=>U p.body).sum+m))/\(ku c=Z->c.pieces.findIdx? (λp=>(iD p.body).isSome)=Z->(ky c).map (λf=>f.at_)=Z):=by{
by_cases d:c.main=[]
.let e:ku c=B 0:=by unfold ku ki;rw[aab<|by rw[d];rfl]
 let u:(ky c).map (λf=>f.at_)=B 0:=by unfold ky;dsimp only;rw[aab d];rfl
 rw[e,u];show [λm h=>h,(λh=>by cases h),(λh=>by cases h)]
let l:(ky c).map (λf=>f.at_)=((ku c).or<|(c.pieces.flatMap pQ).findIdx? (λb=>!b)|>.map λi=>i+U c.main):=by unfold ky;dsimp only;rw[aaa d,jF,IT,alO d t,aP,j4];change k7 _ (Option.or (ku c)<|k7 _<|(c.pieces.flatMap pQ).findIdx? λb=>!b)=_;generalize (ku c).or _=z;cases z<;>rfl
let[r,s]:=Es pQ (λb=>!b) c.pieces;simp only[alM]at r s;show [λm h=>by rw[l,h];rfl,λh n p g v m w=>?_,λh g=>?_]
.rw[l,h,tK,r n p g v,Wq,w];change B (_+m+U c.main)=_;let O:∀q∈c.pieces.take n,U (pQ q)=U q.body:=λq x=>by let[j,A,e]:=Jc.mp x;let:=(sZ.mp g).2.2 j @o_;show alN ?_;rw[<-e];cases z:iD (c.pieces[j]).body with|none=>rfl|some y=>rw[z]at this;simp at this
 rw[qV O];congr 1;lia
rw[l,h,tK,s g];rfl}
def ae2(L:jH D)(N:eK c)(I:∀o∈c.main,eS c o=Y):CD (R5 D) #[bH D c] M$ er<|(ky c).map λf=>f.at_:=by{
lk;let[X,w2,w3]:=Wr I;let hz:∀l∈cQ c,U l<=65536:=λl hl=>by(let:=N.ops;rcases bh.mp hl with rfl|hl);{lia};let[p,h,rfl]:=c4.mp hl;let:U p.body<=(c.pieces.map λp=>U p.body).sum:=sh<|c4.mpr [p,h,()];lia
show bt bZ ?_;refine_lift let st:Nat->En:=λj=>#[B<|bH D c,B<|aN (((cQ c).take j).map U).sum,Z,Z,Z];?_;refine_lift let q:Nat->List bf->Option Nat:=λj l=>if j=0 then ku c else iD l;?_
let call:∀(j:Nat)(l:List bf),(cQ c)[j]?=B l->ED E (dq (sO D) [] E<|aJ (ay 0)<|aJ (ay 3)<|aJ (aq (ic D.K) (ay 2)<|tC<|.int 0) aX) #[B<|bH D c,B<|aN (((cQ c).take j).map U).sum,B<|aN j,B<|aL<|l.map<|bb D,Z] M (.vl (er<|q j l) M):=λj l hl=>by cases j with|zero=>let:l=c.main:=(by(let:B c.main=B l:=hl;injection this with this);show this.symm);subst this;show az (ai (af ())<|ai (af ())<|ai (bI (b:=aB Y) @e_<|bN @s_) au) (ae1 T L N I)|succ j=>show az (ai (af ())<|ai (af ())<|ai (bI (b:=aB ag) @e_<|bN @m_) au)<|aeX T L<|hz l<|bY hl
let J:∀(j:Nat)(l:List bf),(cQ c)[j]?=B l->q j l=Z->SD E (bQ (b_ (dq (sO D) [] E<|aJ (ay 0)<|aJ (ay 3)<|aJ (aq (ic D.K) (ay 2)<|tC<|.int 0) aX)<|aY 4)<|bQ (bu (tB<|aq fT (ay 4)<|tC .aC) (ah<|aq (ib D.K) (ay 1)<|ay 4) bw)<|b_ (aq (ib D.K) (ay 1)<|cz (gP D.K)<|aJ (ay 3) aX)<|aY 1) #[B<|bH D c,B<|aN (((cQ c).take j).map U).sum,B<|aN j,B<|aL<|l.map<|bb D,Z] M (.nx (st<|j+1) M):=λj l hl t=>by let u:=call j l hl;rw[t]at u;show bt u ?_;change SD E _ #[B<|bH D c,B<|aN (((cQ c).take j).map U).sum,B<|aN j,B<|aL<|l.map<|bb D,B aU] M _;show bg (M1:=M) (bX (M1:=M) (x:=ag) (a9<|ax @b_ aM<|qB (x:=.aC)) @j_ λ_=>ed)<|gR (jU @e_)<|.cons<|.tZ ?_<|.aC<|.aC<|.aC .nil;show ei ?_;rw[Mx.BO _ _ _ _ hl,aP];lia
let out:∀(j:Nat)(l:List bf)(m:Nat),(cQ c)[j]?=B l->q j l=B m->SD E (bQ (b_ (dq (sO D) [] E<|aJ (ay 0)<|aJ (ay 3)<|aJ (aq (ic D.K) (ay 2)<|tC<|.int 0) aX)<|aY 4)<|bQ (bu (tB<|aq fT (ay 4)<|tC .aC) (ah<|aq (ib D.K) (ay 1)<|ay 4) bw)<|b_ (aq (ib D.K) (ay 1)<|cz (gP D.K)<|aJ (ay 3) aX)<|aY 1) #[B<|bH D c,B<|aN (((cQ c).take j).map U).sum,B<|aN j,B<|aL<|l.map<|bb D,Z] M (.rt (aN<|(((cQ c).take j).map U).sum+m) M):=λj l m hl t=>by let u:=call j l hl;rw[t]at u;show bt u ?_;change SD E _ #[B<|bH D c,B<|aN (((cQ c).take j).map U).sum,B<|aN j,B<|aL<|l.map<|bb D,B<|aN m] M _;show ee (bX (M1:=M) (x:=Y) (a9<|ax @b_ aM<|qB (x:=.int m)) (λ_=>aF @e_<|ei @o_) λz=>by cases z) ()
let P:WD E (i_ D.K<|aJ (dq (nV D) [] E<|aJ (ay 0) aX) aX) (st 0) M$ i8 D.K<|(cQ c).map λl=>aL<|l.map<|bb D:=qO<|ai (az @a_<|xh T N) au;let i:∀j p,c.pieces[j]?=B p->(cQ c)[j+1]?=B p.body/\q (j+1) p.body=iD p.body:=λj p h=>[by change (c.pieces.map λp=>p.body)[j]?=_;rw[du,h];rfl,()];let hex:∀(n m:Nat)(l:List bf),(cQ c)[n]?=B l->q n l=B m->(∀j l,j<n->(cQ c)[j]?=B l->q j l=Z)->(ky c).map (λf=>f.at_)=B ((((cQ c).take n).map U).sum+m)->SD E (bQ (fH (i_ D.K<|aJ (dq (nV D) [] E<|aJ (ay 0) aX) aX) (hZ D.K 2<|dJ (aY 2)<|dJ (aY 3) hX)<|bQ (b_ (dq (sO D) [] E<|aJ (ay 0)<|aJ (ay 3)<|aJ (aq (ic D.K) (ay 2)<|tC<|.int 0) aX)<|aY 4)<|bQ (bu (tB<|aq fT (ay 4)<|tC .aC) (ah<|aq (ib D.K) (ay 1)<|ay 4) bw)<|b_ (aq (ib D.K) (ay 1)<|cz (gP D.K)<|aJ (ay 3) aX)<|aY 1)<|ah<|tC .aC) (st 0) M (.rt (er<|(ky c).map λf=>f.at_) M):=λn m l hl w F e=>by rw[e];let t:n<U (cQ c):=(el.mp hl).1;show ee (pH (is:=#[2,3]) (l:=i8 D.K<|(cQ c).map λl=>aL<|l.map<|bb D) st (λ_=>M) n (by rw[rL,aP];show t) P (λj a A v=>?_) (λa v=>?_) ()) ();{let[Q,g,rfl]:=lx v;let[r,d,rfl]:=de g;show [_,iu,J j r d<|F j r A d]};let[Q,g,rfl]:=lx v;let[r,d,rfl]:=de g;rw[hl]at d;cases d;show [_,iu,out n l m hl w]
change SD E _ (st 0) M _;cases s:ku c with|some m=>show hex 0 m c.main () s (λj l A=>absurd A<|Xw _) (by rw[X m s];simp)|none=>cases C:c.pieces.findIdx? (λp=>(iD p.body).isSome)with|some n=>let[k1,k2,k3]:=sZ.mp C;let h:c.pieces[n]?=B c.pieces[n]:=bF k1;let[m,w]:=rg.mp k2;show hex (n+1) m _ (i n _ h).1 (by rw[(i n _ h).2];show w) (λj l A hl=>?_) ?_;{cases j with|zero=>show s|succ j=>let G:j<n:=@o_;let hq:c.pieces[j]?=B (c.pieces[j]'@o_):=bF _;let:=(i j _ hq).1;rw[this]at hl;cases hl;let:=k3 j G;cases z:iD (c.pieces[j]'@o_).body with|none=>show z|some y=>rw[z]at this;simp at this};rw[w2 s n _ C h m w];congr 2;change _=((c.main::(c.pieces.map λp=>p.body).take n).map U).sum;rw[cC,oh,<-qW,cD];rfl|none=>rw[w3 s C];show bg (jd (is:=#[2,3]) (l:=i8 D.K<|(cQ c).map λl=>aL<|l.map<|bb D) st (λ_=>M) P λj a v=>?_)<|aF aM ();let[Q,g,rfl]:=lx v;let[r,d,rfl]:=de g;show [_,iu,J j r d ?_];cases j with|zero=>show s|succ j=>let H:(c.pieces.map λp=>p.body)[j]?=B r:=d;let[p,h,rfl]:=de H;let:=(iE.mp C) p<|bY h;change iD p.body=Z;cases z:iD p.body with|none=>rfl|some y=>rw[z]at this;simp at this}
end
section
variable{a:As}
def YE(D:aH):Option yO->As|none=>aU|some f=>aT D.K #[aN f.what,aN f.at_]
def KO(h:yQ c=B f):f.what=2:=by unfold yQ at h;split at h;{injection h with h;subst h;rfl};split at h;{injection h with h;subst h;rfl};split at h;{injection h with h;subst h;rfl};split at h;{injection h with h;subst h;rfl};cases h
def LX(h:ky c=B f):f.what=5:=by unfold ky at h;dsimp only at h;split at h;{injection h with h;subst h;rfl};let[i,_,rfl]:=jl.mp h;rfl
def Oo(h:vD c=Z):∀o∈c.main,eS c o=Y:=λo b=>by unfold vD at h;let h:=XA.mp h;let:=(iE.mp h) (Ln.mainOp c o)<|iZ.mpr<|.inl<|c4.mpr [o,b,()];rw[FU];simpa using this
def M8(L:jH D)(N:eK c):CD (Hq D) #[bH D c] M$ YE D<|k4 c:=by{
lk;let step:∀{o:Option yO}{k:Nat}{r:As}{u:TS},(∀f,o=B f->f.what=k)->(∀f,o=B f->aT D.K #[aN k,aN f.at_]=r)->(o=Z->SD E u #[B<|bH D c,B aU] M (.rt r M))->SD E (bQ (bu (tB<|aq fT (ay 1)<|tC .aC) (ah<|fu<|aJ (tC<|.int (k:Int))<|aJ (ay 1) aX) bw) u) #[B<|bH D c,B<|er<|o.map λf=>f.at_] M (.rt r M):=λ{o k r u} n d e=>by show br (a9<|ax @b_ aM FH) (λO=>?_) () λO=>?_;{cases o with|none=>cases O|some f=>show aF (iq (K:=D.K) (ai aM<|ai @b_ au)<|cu (cX ()) sz)<|d f ()};cases o with|none=>show e ()|some f=>cases O
unfold k4;show bt (az @a_<|aeY T N)<|step (k:=2) (λf h=>KO h) (λf h=>by rw[h,<-KO h];rfl) λg=>?_;rw[g,tK];let j:(Jm c).map (λf=>f.at_)=vA c.calls (vz c):=by unfold Jm;rw[jF];cases vA c.calls (vz c)<;>rfl
show bt (az @a_<|aeZ T N) ?_;rw[<-j];show step (k:=3) (o:=Jm c) (λf h=>?_) (λf h=>?_) λl=>?_;{let[i,_,rfl]:=jl.mp h;rfl};{let[i,_,rfl]:=jl.mp h;rw[h];rfl};rw[l,tK];show bt (az @a_<|ae0 T N)<|step (k:=4) (o:=vD c) (λf h=>?_) (λf h=>?_) λb=>?_;{let[i,_,rfl]:=jl.mp h;rfl};{let[i,_,rfl]:=jl.mp h;rw[h];rfl};rw[b,tK];show bt (az @a_<|ae2 T L N<|Oo b)<|step (k:=5) (o:=ky c) (λf h=>LX h) (λf h=>by rw[h,<-LX h];rfl) λm=>?_;rw[m];show bV aM}
end
section
variable{a:As}
abbrev aA(x:Ln.Answer):As:=aL<|(tH x).map aI
abbrev jv(o:bf):List Nat:=#[o.op,o.kind,o.mask,o.aux,o.dst,o.a,o.b,o.c,o.where_,o.imm,o.to]
def M6(T:Tk D):CD (uY D) #[bb D o] M$ bA<|jv o:=by lk;show aF @e_ @r_
def AR(l:List Nat):l.map aN=(LnNeutral.ints l).map aI:=by unfold LnNeutral.ints;rw[cD];rfl
def AQ(b:aj):(b.map λc=>aN c.toNat)=(kC b).map aI:=by unfold kC;rw[cD];rfl
def aeL(T:Tk D)(N:eK c):CD (RP D) #[bH D c,aN i] M$ aA<|hG c<|.slot i:=by lk;let b:=sz;unfold hG;show br @t_ (λO=>aF @e_ ?_) () λO=>?_;{simp at O;change _=aA (match c.slots[i]? with|some s=>_|none=>oq);rw[iF @o_];rfl};simp at O;let hx:c.slots[i]?=B c.slots[i]:=bF @o_;change SD E _ _ M$ aA (match c.slots[i]? with|some s=>_|none=>oq);rw[hx];generalize c.slots[i]=s at hx;let:=(N.slots s<|bY hx).len;show bt @e_<|aF @e_ ?_;change aL (#[aN 0,aN s.kind]++s.lens.map aN)=aL (((0:Int)::LnNeutral.ints (s.kind::s.lens)).map aI);rw[cC,<-AR];rfl
def aeK(T:Tk D)(N:eK c):CD (RO D) #[bH D c,aN i] M$ aA<|hG c<|.name i:=by lk;let b:=sz;unfold hG;show br @t_ (λO=>aF @e_ ?_) () λO=>?_;{simp at O;change _=aA (match c.names[i]? with|some s=>_|none=>oq);rw[iF @o_];rfl};simp at O;let hx:c.names[i]?=B c.names[i]:=bF @o_;change SD E _ _ M$ aA (match c.names[i]? with|some s=>_|none=>oq);rw[hx];generalize c.names[i]=s at hx;let:=N.names s<|bY hx;show aF @e_ ?_;change aL (#[aN 0]++s.map λc=>aN c.toNat)=aL (((0:Int)::kC s).map aI);rw[cC,<-AQ];rfl
def DR(c:a7)(n:Nat):Ln.body c n=(cQ c)[n]?:=by unfold Ln.body cQ;cases n with|zero=>rfl|succ n=>rw[aaa @o_];simp
def Zc(c:a7):U (cQ c)=U c.pieces+1:=by unfold cQ;simp
def aeG(T:Tk D)(N:eK c):CD (RI D) #[bH D c,aN n,aN i] M$ aA<|hG c<|.at_ n i:=by(lk;let f:=sz;let e:hG c (.at_ n i)=match((cQ c)[n]?).bind λl=>l[i]? with|some o=>.told 0 (jv o)|none=>oq:=by rw[<-DR];rfl);rw[e];show bt @e_ ?_;by_cases d:n<U (cQ c);{let hx:(cQ c)[n]?=B (cQ c)[n]:=bF d;rw[hx];generalize (cQ c)[n]=l at hx;show br @t_ (λO=>aF @e_ ?_) () λO=>?_;{simp at O;change _=aA (match l[i]? with|some o=>_|none=>oq);rw[iF @O_];rfl};simp at O;let b:l[i]?=B l[i]:=bF @O_;change SD E _ _ M$ aA (match l[i]? with|some o=>_|none=>oq);rw[b];generalize l[i]=o at b;show aF @e_ ?_;rfl};rw[iF @O_];show br (iV (y:=ag) @t_ λz=>by simp at z;omega) (λO=>aF @e_ @r_) () λO=>by simp at O;omega
theorem aaX{α:Type}{f:α->As}(l:List α):i8 K (l.map f)=l.zipIdx.map λx=>aT K #[aN x.2,f x.1]:=by unfold i8;rw[List.zipIdx_map,cD];rfl
def alX(l:List bf):l.zipIdx=(dc (U l)).map λi=>(l.getD i bp,i):=by apply Cf;intro i;rw[W3,du];by_cases h:i<U l;{rw[kS h,iy h];simp};rw[iF @o_,iF @m_];rfl
theorem aeO(T:Tk D){M:Mu}{c:a7}{n p:Nat}(N:eK c):CD (RS D) #[bH D c,aN n,aN p] M$ aA<|hG c<|.where_ n p:=by{
lk;let m:=sz;let e:hG c (.where_ n p)=match(cQ c)[n]? with|none=>oq|some l=>let z:=(dc (U l)).filter λ(i:Nat)=>(l.getD i bp).where_==p; .told (U z:Int) (z.take 1):=by rw[<-DR];rfl
rw[e];show bt @e_ ?_;by_cases d:n<U (cQ c)
.let hx:(cQ c)[n]?=B (cQ c)[n]:=bF d;rw[hx];generalize (cQ c)[n]=l at hx;let hl:U l<=65536:=by(let:=N.ops;rcases bh.mp (bY hx)with rfl|hl);{omega};let[q,g,rfl]:=c4.mp hl;let:U q.body<=(c.pieces.map λp=>U p.body).sum:=sh<|c4.mpr [q,g,()];omega
 show br @t_ (λO=>by simp at O;omega) () λO=>?_;refine_lift let z:=(dc (U l)).filter λi=>(l.getD i bp).where_==p;?_;let j:(l.zipIdx.filter λx=>x.1.where_==p).map (λx=>aN x.2)=z.map aN:=by rw[alX,List.filter_map,cD];rfl
 show bt (bI (b:=bA z) (t6 (xs:=l.zipIdx) (f:=λx=>aT D.K #[aN x.2,bb D x.1]) (h:=λx=>aN x.2) (p:=λx=>x.1.where_==p) (by rw[<-aaX];show qO @a_) (by rw[W8];omega) λx hx=>[_,iu,?_,λ_=>af ()])<|by unfold bA;rw[j]) ?_;{show cN @t_ ?_;rw[cb];simp;omega};show aF (ax @e_ @e_<|jz<|by simp;omega) ?_;change aL (#[aN (U (z.map aN))]++(z.map aN).take 1)=aL ((((U z:Nat):Int)::LnNeutral.ints (z.take 1)).map aI);rw[cC,<-AR,aP,qW];rfl
rw[iF @O_];show br @t_ (λO=>aF @e_ @r_) () λO=>by simp at O;omega}
def aeI(N:eK c)(ok:∀s∈c.slots,s.ok=Y):CD (RK D) #[bH D c] M$ aA<|hG c .counts:=by lk;let e:=sz;let g:=N.pl;let d:=N.sl;show bt (bI (b:=aN (U c.ops)) (dm (ai (dQ (xs:=cQ c) (f:=λl=>aL<|l.map<|bb D) (h:=λl=>aN (U l)) @w_ (by rw[Zc];lia) λl _=>[_,bL,bI @e_<|ei<|by rw[aP]]) au) rF)<|ei ?_) ?_;{rw[yj,FQ];unfold cQ;rw[cC,tj,cD,<-yk];rfl};show aF (kh (ai bZ<|ai @e_<|ai @e_<|ai @e_<|ai @e_<|ai @e_<|ai @e_<|ai (af ())<|ai (az @a_<|MZ T ok d) au)<|cu (cX ()) sz) ?_;change aL _=aL (((0:Int)::LnNeutral.ints (Ln.countsOf c)).map aI);rw[cC,<-AR];unfold Ln.countsOf;simp only[aP];rfl
end
section
variable{a:As}
def AF(o:bf):List Nat:=if o.op=14 then#[o.aux]else if o.op=23/\o.aux=1 then#[o.a]else if o.op=24/\o.aux=1 then#[o.dst]else if o.op=25 then#[o.a,o.dst]else[]
def aet(T:Tk D):CD (RA D) #[bb D o] M$ bA<|AF o:=by lk;unfold AF;show br @t_ (λh=>aF @e_ ?_) () λh=>br @t_ (λb=>aF @e_ ?_) () λb=>br @t_ (λd=>aF @e_ ?_) () λd=>br @t_ (λc=>aF @e_ ?_) () λc=>aF @e_ ?_;{simp[sS]at h;rw[aab h];rfl};{simp[sS,yu]at h b;rw[aaa h,aab @o_];rfl};{simp[sS,yu,qN]at h b d;rw[aaa h,aaa @o_,aab @o_];rfl};{simp[sS,yu,qN,yr]at h b d c;rw[aaa h,aaa @o_,aaa @o_,aab c];rfl};simp[sS,yu,qN,yr]at h b d c;rw[aaa h,aaa @o_,aaa @o_,aaa c];rfl
def agw(o:bf)(i:Nat):(AF o).contains i=o.names i:=by unfold AF Ln.Op.names;rw[cb];by_cases h:o.op=14;{simp[h];lia};by_cases c:o.op=23;{by_cases b:o.aux=1;{simp[c,b];lia};simp[c,b]};by_cases d:o.op=24;{by_cases b:o.aux=1;{simp[d,b];lia};simp[d,b]};by_cases e:o.op=25;{simp[e];lia};simp[h,c,d,e]
def Np(N:eK c):CD (RX D) #[bH D c,aN i] M$ aN<|Ln.usesOf c i:=by lk;let e:=sz;let g:=N.cl;let d:=N.ops;show bt (z6 T (n:=ag) (i:=i)<|ai bZ @a_) ?_;show bt (t6 (xs:=c.calls) (f:=c_ D) (h:=c_ D) (p:=λx=>x.names i) @w_ @o_ λx hx=>[_,bL,?_,λ_=>af ()]) ?_;{let l:=(N.calls x hx).qD;let m:=(N.calls x hx).rel;show cN (a9<|az (ai (af ())<|ai (bI (b:=aL<|(x.operands++x.results).map<|dZ D) @e_<|by rw[eV]) au)<|E2 T<|by rw[cA];lia) ?_;unfold Ln.Call.names;congr 1;funext h;let[n,j]:=h;cases n<;>rw[cb]<;>simp<;>lia};show bt (t6 (xs:=c.main) (f:=bb D) (h:=bb D) (p:=λo=>o.names i) @w_ @o_ λo d=>[_,bL,cN @t_<|agw o i,λ_=>af ()])<|aF @e_<|ei ?_;rw[aP,aP];unfold Ln.usesOf;lia
def aeN(N:eK c):CD (RR D) #[bH D c,aN i] M$ aA<|hG c<|.uses i:=by lk;change SD E _ _ M$ aA (if i<U c.slots then .number (Ln.usesOf c i:Int)else oq);show br @t_ (λO=>aF @e_ ?_) () λO=>aF (kh (ai (az @a_<|Np T N) au)<|cu (cX ()) sz) ?_;{simp at O;rw[aaa @o_];rfl};simp at O;rw[aab @o_];rfl
def B6(l:List bf)(h:Nat):Nat:=(l.getD h bp).imm
def vm(l:List bf)(i h:Nat):Nat:=(l.getD ((dX l l.length h).headD 0) bp).imm+(if i<=(dX l l.length h).headD 0 then 1 else 0)
def Gn(w:Nat->Nat):∀l:List Nat,lF (l.map w)=l.foldr (λh n=>n*w h) 1|[]=>rfl|h::l=>by rw[cC,tj,<-Gn w l];change w h*lF (l.map w)=_;rw[yZ]
def akT(b:i<U l):tG Y l i=lF ((a0 l i).map<|B6 l):=by rw[Gn,jB l i b];rfl
def akS(b:i<U l):tG ag l i=lF ((a0 l i).map<|vm l i):=by rw[Gn,jB l i b];unfold tG vm;congr 1;funext h n;rw[<-PL];rfl
def ael(T:Tk D)(b:h<U l):CD (HJ D) #[aL<|l.map<|bb D,aN h] M$ aN<|B6 l h:=by lk;let c:=iy b;show bV @e_
def aek(T:Tk D)(c:(l.getD h bp).op=19)(b:dX l l.length h=#[r])(hl:r<U l):CD (HI D) #[aL<|l.map<|bb D,eH D l,aN h,aN i] M$ aN<|vm l i h:=by lk;let f:=iy hl;let d:(if(l.getD h bp).op=19 then B (bA<|dX l l.length h)else Z)=B (bA #[r]):=(by rw[aab c,b]);let e:(#[r]:List Nat)[0]?=B r:=();unfold vm;rw[b];show bt (ax (ax @e_ (af ())<|nL d) bZ<|qA e) ?_;show br @t_ (λO=>aF @e_<|ei ?_) () λO=>aF @e_<|ei ?_;{simp[-cV]at O;change _=(((l.getD r bp).imm+if i<=r then 1 else 0:Nat):Int);rw[aaa @o_];simp};simp[-cV]at O;change _=(((l.getD r bp).imm+if i<=r then 1 else 0:Nat):Int);rw[aab @o_];simp
def Sf(l:List bf):∀k,U (a0 l k)<=k|0=>bD 0|k+1=>by let b:=Sf l k;change U (gf _ _ _)<=k+1;unfold gf;split;{simp;show b};split;{simp;lia};lia
def VZ(d:i<U l)(e:U l<=65536)(m:∀h∈a0 l i,w h<2^64)(f:∀(p h:Nat),h∈a0 l i->SD E (bu (tB<|ay 3) (b_ (aq kR (ay 4)<|dq (HJ D) [] E<|aJ (ay 0)<|aJ (ay 5) aX)<|aY 4)<|b_ (aq kR (ay 4)<|dq (HI D) [] E<|aJ (ay 0)<|aJ (ay 1)<|aJ (ay 5)<|aJ (ay 2) aX)<|aY 4) #[B<|aL<|l.map<|bb D,B<|eH D l,B<|aN i,B<|aB b,B<|aN p,B<|aN h] M (.nx #[B<|aL<|l.map<|bb D,B<|eH D l,B<|aN i,B<|aB b,B<|aI<|(p:Int)*(w h:Int),B<|aN h] M)):SD E (Il D E) #[B<|aL<|l.map<|bb D,B<|eH D l,B<|aN i,B<|aB b,Z,Z] M (.rt (aN<|lF<|(a0 l i).map w) M):=by let n:=sz;let o:=Sf l i;show bt bZ<|bg (jd (is:=#[5]) (l:=(a0 l i).map aN) (λj=>#[B<|aL<|l.map<|bb D,B<|eH D l,B<|aN i,B<|aB b,B<|aN<|lF<|((a0 l i).take j).map w,Z]) (λ_=>M) (ij<|az @a_<|Na T d e) λj a g=>?_)<|aF (af ())<|ei ?_;{let[h,c,rfl]:=de g;show [_,bL,gR (f _ h<|bY c)<|.cons<|.cons<|.cons<|.cons<|.tZ ?_<|.aC .nil];show ei ?_;rw[take_snoc c,eV];change _=((lF (_++#[w h]):Nat):Int);rw[Gp,Cb]};rw[aP,lO]
end
section
variable{a:As}
def KJ(O:∀i,i<U l->ju l i=Y)(t:i<U l)(j:h∈a0 l i):(l.getD h bp).op=19/\∃r,dX l l.length h=#[r]/\r<U l/\(l.getD r bp).imm<=1048576:=by{
let m:=sP l i h j;let u:=lK l i h j;let c:=O h @o_;unfold ju at c;dsimp only at c;rw[m]at c;by_cases d:nu l h=ag;{rw[aab d]at c;cases c};rw[aaa d,aab (),a6]at c;let q:U (dX l l.length h)=1:=(c.2:);obtain⟨r,n⟩:∃r,dX l l.length h=#[r]:=by match e:dX l l.length h,q with| #[r],_=>show [r,()]
let o:r∈dX l l.length h:=by rw[n];simp
unfold dX at o;let[s,f]:=qX.mp o;let p:r<U l:=gk.mp s;unfold mh at f;rw[a6]at f;let g:(l.getD r bp).op=20:=(f.1:);let inr:bP l r=B h:=(f.2:);show [m,r,n,p,?_];let b:=O r p;unfold ju at b;dsimp only at b;rw[g]at b;by_cases d:nu l r=ag;{rw[aab d]at b;cases b};rw[aaa d,aaa @o_,aaa @o_,aab ()]at b;unfold uP at b;rw[inr]at b;simp only[a6,aaK]at b;show b.2.1}
def aeT(d:i<U l)(f:U l<=65536)(g:∀o∈l,ng o):CD (HW D) #[aL<|l.map<|bb D,eH D l,aN i,aB Y] M$ aN<|tG Y l i:=by{
lk;rw[akT d];let c:∀h∈a0 l i,h<U l:=λh b=>by let:=lK l i h b;omega
let e:∀h∈a0 l i,B6 l h<2^64:=λh b=>by let:=(g _<|bY<|iy<|c h b).imm;unfold B6;omega
show VZ T d f e λp h b=>bX (M1:=M) (x:=Y) (a9<|af ()) (λ_=>jU<|ax @b_ (az @a_<|ael T<|c h b)<|nM<|.inr ?_) @j_;let:=e h b;show [by omega,by exact_mod_cast this]}
def aeS(b:i<U l)(g:U l<=65536)(O:∀i,i<U l->ju l i=Y):CD (HW D) #[aL<|l.map<|bb D,eH D l,aN i,aB ag] M$ aN<|tG ag l i:=by(lk;rw[akS b];let f:∀h∈a0 l i,vm l i h<2^64:=λh c=>by let[_,r,d,_,e]:=KJ O b c;unfold vm;rw[d];change (l.getD r bp).imm+_<_;split<;>lia);show VZ T b g f λp h c=>?_;let[j,r,d,m,e]:=KJ O b c;show bX (M1:=M) (x:=ag) (a9<|af ()) @j_ λ_=>jU<|ax @b_ (az @a_<|aek T j d m)<|nM<|.inr ?_;let:=f h c;show [by lia,by exact_mod_cast this]
def Sm(f:Nat->Nat)(l:List Nat):(l.map λx=>(f x:Int)).sum=(((l.map f).foldr (λ(a b:Nat)=>a+b) 0:Nat):Int):=yj f l
def adO(L:jH D)(b:U l<=65536)(c:∀o∈l,ng o):CD (BD D) #[aL<|l.map<|bb D,aB Y] M$ aN<|yU Y l:=by lk;let e:=sz;show bt (az @a_<|L M l b)<|aF (dm (ai (dQ (xs:=dc (U l)) (f:=aN) (h:=λi=>aN<|tG Y l i) (sT (zO @a_<|by rw[aP]) () @o_) (by rw[j4];lia) λi d=>[_,bL,az @a_<|aeT T (gk.mp d) b c]) au) rF)<|ei ?_;rw[Sm];rfl
def adN(L:jH D)(b:U l<=65536)(O:∀i,i<U l->ju l i=Y):CD (BD D) #[aL<|l.map<|bb D,aB ag] M$ aN<|yU ag l:=by lk;let d:=sz;show bt (az @a_<|L M l b)<|aF (dm (ai (dQ (xs:=dc (U l)) (f:=aN) (h:=λi=>aN<|tG ag l i) (sT (zO @a_<|by rw[aP]) () @o_) (by rw[j4];lia) λi c=>[_,bL,az @a_<|aeS T (gk.mp c) b O]) au) rF)<|ei ?_;rw[Sm];rfl
structure Good (c:a7):Prop where
 AG:eK c
 ok:∀s∈c.slots,s.ok=Y
 main:∀o∈c.main,eS c o=Y
 body:∀p∈c.pieces,∀o∈p.body,g9 p o=Y
 way:∀p∈c.pieces,∀i,i<U p.body->ju p.body i=Y
 names:∀b∈c.names,yV b=Y
 pieces:∀p∈c.pieces,vE p=Y
def aa6(h:ki n p=Z):∀i,i<n->p i=Y:=λi b=>by unfold ki at h;split at h;{cases h};let:=(iE.mp h) i<|gk.mpr b;simpa using this
def EF(N:eK c)(h:k4 c=Z):Good c:=by
 unfold k4 at h;simp only[Option.or_eq_none_iff]at h;let[b,P,l,y]:=h;let v:=Oo l;let d:∀p∈c.pieces,∀o∈p.body,g9 p o=Y:=λp q o A=>by unfold vD at l;let h:=XA.mp l;let:=(iE.mp h) (Cw p o)<|iZ.mpr<|.inr<|Xb.mpr [p,q,c4.mpr [o,A,()]];rw[FT];simpa using this
 let e:∀p∈c.pieces,∀i,i<U p.body->ju p.body i=Y:=λp q=>by{
let[C,F,Q]:=Wr v;let j:(ky c).map (λf=>f.at_)=Z:=by rw[y];rfl
let G:ku c=Z:=by cases z:ku c with|none=>rfl|some m=>rw[C m z]at j;cases j
let H:c.pieces.findIdx? (λp=>(iD p.body).isSome)=Z:=by cases z:c.pieces.findIdx? (λp=>(iD p.body).isSome)with|none=>rfl|some n=>let[I,J,_]:=sZ.mp z;let[m,r]:=rg.mp J;rw[F G n _ z (bF I) m r]at j;cases j
let:=(iE.mp H) p q;show aa6 (p:=ju p.body) ?_;change iD p.body=Z;cases z:iD p.body with|none=>rfl|some m=>rw[z]at this;simp at this};unfold yQ vA at b;cases t:c.slots.findIdx? (λx=>!q_ x)with|some i=>rw[t]at b;cases b|none=>rw[t]at b;cases u:c.names.findIdx? (λx=>!yV x)with|some i=>rw[u]at b;cases b|none=>rw[u]at b;cases w:c.pieces.findIdx? (λx=>!vE x)with|some i=>rw[w]at b;cases b|none=>show [N,λs g=>((iE.mp t) s g:),v,d,e,λs g=>((iE.mp u) s g:),λs g=>((iE.mp w) s g:)]
def aeJ(L:jH D)(G:Good c):CD (RN D) #[bH D c,aN n] M$ aA<|hG c<|.most n:=by{
lk;let i:=sz;let N:=G.AG;let e:hG c (.most n)=match(cQ c)[n]? with|none=>oq|some l=>if yU (n==0) l<2^62 then .number (yU (n==0) l:Int)else .number (-6):=by rw[<-DR];rfl
rw[e];show bt @e_ ?_;by_cases d:n<U (cQ c)
.let hx:(cQ c)[n]?=B (cQ c)[n]:=bF d;rw[hx];generalize (cQ c)[n]=l at hx;let hl:U l<=65536:=by(let:=N.ops;rcases bh.mp (bY hx)with rfl|hl);{omega};let[q,f,rfl]:=c4.mp hl;let:U q.body<=(c.pieces.map λp=>U p.body).sum:=sh<|c4.mpr [q,f,()];omega
 show br @t_ (λO=>by simp at O;omega) () λO=>?_;let g:CD (BD D) #[aL<|l.map<|bb D,aB<|~~~((n:Int)=(0:Nat))] M$ aN<|yU (n==0) l:=by cases n with|zero=>let:l=c.main:=(by(let:B c.main=B l:=hx;injection this with this);show this.symm);subst this;show adO T L hl N.main|succ n=>let b:(c.pieces.map λp=>p.body)[n]?=B l:=hx;let[p,h,rfl]:=de b;let:=adN T (M:=M) L hl<|G.way p<|bY h;rw[show ~~~(((n+1:Nat):Int)=(0:Nat))=ag by simp;omega];show this
 show bt (az (ai @e_<|ai @e_ au) g) ?_;show br @t_ (λO=>aF @e_ ?_) () λO=>aF @e_ ?_;{simp at O;change _=aA (if _ then _ else _);rw[aaa @O_];rfl};simp at O;change _=aA (if _ then _ else _);rw[aab @O_];rfl
rw[iF @O_];show br @t_ (λO=>aF @e_ @r_) () λO=>by simp at O;omega}
end
section
variable{a:As}{t u:TS}{p:aa}{X Yy:aj}
def eN:sizeLine=16777216:=()
abbrev kT(bs:aj):Cl:=.lst<|bs.map λc=>aN c.toNat
def kG(sp:Sp)(l:List As)(X:aj):Prop:=∀(M:Mu)(p:aa)(bs:aj),M p=B (kT bs)->U bs+U X<=sizeLine->CD sp (aV (.ref p)::l) M (.vl aU<|mu M p<|kT<|bs++X)
def lg(E:XK)(t:TS)(ρ:En)(p:aa)(X:aj):Prop:=∀(M:Mu)(bs:aj),M p=B (kT bs)->U bs+U X<=sizeLine->SD E t ρ M (.nx ρ<|mu M p<|kT<|bs++X)
def jS(h:lg E t ρ p X)(k:lg E u ρ p Yy):lg E (bQ t u) ρ p<|X++Yy:=λM bs b c=>by rw[cA]at c;let q:=bg (h M bs b @o_)<|k _ (bs++X) bO (by rw[cA];lia);rwa[gu,qR]at q
def iB{sp:Sp}{ta:TA}{l:List As}(b:∀M,AD E ta ρ M$ aV (.ref p)::l)(h:kG sp l X):lg E (cG<|dq sp [] E ta) ρ p X:=λM bs c d=>hB<|az (b M)<|h M p bs c d
def pk{n:Nat}{to:TE}(d:∀M,ED E to ρ M$ aV<|.ref p)(e:∀M,ED E te ρ M$ aN n)(f:n<256):lg E (cG<|gi K "list" pC to<|aJ te aX) ρ p #[eB n]:=λM bs b g=>by let q:=hB<|i7 (K:=K) () (d M) b (ai (e M) au)<|kM b (by rw[aP];simp at g;lia);rw[show bs.map (λc=>aN c.toNat)++#[aN n]=(bs++#[eB n]).map λc=>aN c.toNat by rw[eV];simp[rn,oy f]]at q;show q
def OS{to:TE}(d:∀M,ED E to ρ M$ aV<|.ref p)(e:∀M,ED E te ρ M$ aL<|X.map λc=>aN c.toNat):lg E (cG<|gi K "list" jb to<|aJ te aX) ρ p X:=λM bs b f=>by let q:=hB<|i7 (K:=K) () (d M) b (ai (e M) au)<|Av b (by rw[aP,aP];show f);rw[<-eV]at q;show q
def LW{α:Type}(f:α->aj){l:List α}{i:Nat}{x:α}(h:l[i]?=B x):(l.take<|i+1).flatMap f=(l.take i).flatMap f++f x:=by rw[qY,h,vq];simp
def aa9{α:Type}(f:α->aj)(l:List α)(i:Nat):U ((l.take i).flatMap f)<=U (l.flatMap f):=by(conv=>rhs;rw[<-vw i l,vq,cA]);lia
def lG{α:Type}{xs:List α}{f:α->As}{X:α->aj}{wi:TI}{g:TG}{is:List Nat}{body:TS}(ρ1:α->En)(b:∀M,WD E wi ρ M$ xs.map f)(c:∀x,GD g is (f x) ρ<|ρ1 x)(hl:∀x,gX (ρ1 x) ρ)(O:∀x∈xs,lg E body (ρ1 x) p<|X x):lg E (fH wi g body) ρ p (xs.flatMap X):=λM bs d h=>by let q:=jd (E:=E) (g:=g) (is:=is) (body:=body) (M:=M) (l:=xs.map f) (λ_=>ρ) (λj=>mu M p<|kT<|bs++(xs.take j).flatMap X) (by change WD E wi ρ M<|.vl (xs.map f)<|mu M p<|kT<|bs++(xs.take 0).flatMap X;rw[Cr,WV,j3,jO d];show b M) (λj a e=>by let[x,hx,rfl]:=de e;show [ρ1 x,c x,gR ?_<|hl x];let hle:=aa9 X xs<|j+1;rw[LW X hx,cA]at hle;let:=O x (bY hx) _ (bs++(xs.take j).flatMap X) (bO (M:=M) (p:=p)) (by rw[cA];lia);rw[gu,qR,<-LW X hx]at this;show this);rw[aP,lO]at q;show q
def pj{b:aH->XK->TS}{G:aH}{i k n:Nat}{l:List As}{ρ':aa->En}(h:∀E p,lg E (b G E) (jY k<|aV (.ref p)::l) p X)(hl:l.length+1=n):kG (qS i k n b G) l X:=λM p bs c d=>jJ (λE=>h E p M bs c d)<|by simp;show hl
def uG{n w:Nat}(b:w<2^62):kG (u_ D) #[aN n,aN w]<|Ln.low w n:=λM p bs c d=>by apply jJ (hl:=());intro E;rw[Fj]at d;show bt @b_ ?_;let q:=jd (E:=E) (g:=aY 4) (is:=#[4]) (M:=M) (body:=bQ (cG<|gi D.K "list" pC (ay 0)<|aJ (aq A_ (ay 3)<|tC<|.int 255) aX)<|b_ (aq Bj (ay 3)<|tC<|.int 8)<|aY 3) (wi:=fO<|aJ (ay 2) aX) (l:=(dc w).map aN) (λj=>#[B<|aV<|.ref p,B<|aN n,B<|aN w,B<|aN<|n/256^j,Z]) (λj=>mu M p<|kT<|bs++Ln.low j n) (by change WD E _ _ M<|.vl _<|mu M p<|kT<|bs++[];rw[j3,jO c];show sT (ai @b_ au) () b) (λj a e=>by let[k,f,rfl]:=de e;let m:j<w:=((el.mp f).1:);show [_,bL,bg (hB<|i7 () @b_ bO (ai (ax @b_ bZ agK) au)<|kM bO<|by rw[aP,cA,Fj];lia)<|Br (jU<|ax @b_ bZ<|ag2 @d_) ?_ ?_];{show .cons<|.cons<|.cons<|.tZ (ei ?_)<|.aC .nil;let h:(2:Int)^((8:Nat):Int).toNat=256:=@d_;rw[h,CB,<-Xr];lia};rw[gu];congr 2;rw[NH,<-qR,eV (l₁:=bs++Ln.low j n)];show aad (λz=>_++#[z]) ?_;show ei ?_;let i:(((255:Nat):Int))=255:=();rw[i,bitAnd_m8];let:n/256^j % 256<256:=Ju _ @d_;rw[rn,oy this];lia);rw[aP,j4,Nat.pow_zero,Nat.div_one]at q;show q
def Ov{l:List Nat}{w:Nat}(b:w<2^62):kG (u9 D) #[bA l,aN w]<|l.flatMap<|Ln.low w:=pj (ρ':=λ_=>[]) (λE p=>by show lG (is:=#[3]) (f:=aN) (X:=Ln.low w) (λn=>#[B<|aV<|.ref p,B<|bA l,B<|aN w,B<|aN n]) (λM=>ij<|af ()) (λn=>bL) (λn=>.cons<|.cons<|.cons<|.aC .nil) λn _=>iB (λM=>by walk_at "a")<|uG b) ()
def Ow{l:List Nat}{w:Nat}(b:w<2^62):kG (u9 D) #[aT D.K<|l.map aN,aN w]<|l.flatMap<|Ln.low w:=pj (ρ':=λ_=>[]) (λE p=>by show lG (is:=#[3]) (f:=aN) (X:=Ln.low w) (λn=>#[B<|aV<|.ref p,B<|aT D.K<|l.map aN,B<|aN w,B<|aN n]) (λM=>yw<|af ()) (λn=>bL) (λn=>.cons<|.cons<|.cons<|.aC .nil) λn _=>iB (λM=>by walk_at "a")<|uG b) ()
def uJ(h:lg E t ρ p X)(e:X=Yy):lg E t ρ p Yy:=e▸h
def FZ(T:Tk D){s:bT}(N:qk s):kG (BF D) #[bK D s]<|vG s:=by let b:=N.kind;let c:=N.len;show pj (ρ':=λ_=>[]) (λE p=>by show uJ (jS (pk @z_ (λM=>by walk_at "e") b)<|jS (pk (n:=s.lens.length) @z_ (λM=>bI @e_<|ei<|by rw[aP]) @o_)<|iB (λM=>by walk_at "a")<|Ov @d_) ()) ()
def ah3(T:Tk D){b:aj}(O:U b<=255):kG (Rk D) #[aName b]<|Jo b:=pj (ρ':=λ_=>[]) (λE p=>by show uJ (jS (pk (n:=b.length) @z_ (λM=>bI @e_<|ei<|by rw[aP]) @O_)<|OS @z_ λM=>af ()) ()) ()
def ah5(T:Tk D){r:i0}(N:wd r):kG (Rm D) #[js D r]<|vG r.shape++#[eB r.join]:=pj (ρ':=λ_=>[]) (λE p=>by show jS (iB (λM=>by walk_at "a")<|FZ T N.shape)<|pk @z_ (λM=>by walk_at "e") N.join) ()
def Dy(b:Bool):eB (cK b)=Ln.boolByte b:=by cases b<;>rfl
def wu(b:Bool):cK b<256:=by cases b<;>decide
def ah1(T:Tk D){h:c5}:kG (Rj D) #[dZ D h] h.bytes:=pj (ρ':=λ_=>[]) (λE p=>by show uJ (jS (pk @z_ (λM=>by walk_at "e")<|wu h.number)<|iB (λM=>by walk_at "a")<|uG @d_)<|by rw[Dy];rfl) ()
def ah4(T:Tk D){x:cg}(N:NHead x)(O:U x.body<=65536):kG (Rl D) #[ej D x] x.headBytes:=by{
let c:=N.wt;let d:=N.inl;let e:=N.rel;show pj (ρ':=λ_=>[]) (λE p=>by
show uJ (jS (pk (n:=x.axes.length) @z_ (λM=>bI @e_<|ei<|by rw[aP]) @o_) (jS (iB (λM=>by walk_at "a")<|Ov @d_) (jS (pk (n:=x.inputs.length) @z_ (λM=>bI @e_<|ei<|by rw[aP]) @o_)
 (jS (lG (is:=#[2]) (xs:=x.inputs) (f:=bK D) (X:=vG) (λs=>#[B<|aV<|.ref p,B<|ej D x,B<|bK D s,Z]) (λM=>by walk_at "w") (λs=>bL) (λs=>.cons<|.cons<|.aC<|.cons .nil) λs b=>iB (λM=>by walk_at "a")<|FZ T<|N.inputs s b)
 (jS (pk (n:=x.results.length) @z_ (λM=>bI @e_<|ei<|by rw[aP]) @o_)
 (jS (lG (is:=#[3]) (xs:=x.results) (f:=js D) (X:=λr=>vG r.shape++#[eB r.join]) (λs=>#[B<|aV<|.ref p,B<|ej D x,Z,B<|js D s]) (λM=>by walk_at "w") (λs=>bL) (λs=>.cons<|.cons<|.cons<|.aC .nil) λs b=>iB (λM=>by walk_at "a")<|ah5 T<|N.results s b)
 (jS (iB (λM=>by walk_at "a")<|uG @d_)<|jS (pk @z_ (λM=>by walk_at "e")<|wu x.mains)<|iB (l:=#[aN (U x.body),aN 4]) (λM=>ai (af ())<|ai (bI @e_<|ei<|by rw[aP]) @a_)<|uG @d_)))))))<|by rw[Dy];simp[Jj]) ()}
def ah2(T:Tk D){o:bf}(N:ng o):kG (HH D) #[bb D o] o.bytes:=by(let b:∀n,n<256->Ln.low 1 n=#[eB n]:=λn c=>by rw[Ln.low,Ln.low,oy c]);show pj (ρ':=λ_=>[]) (λE p=>by show uJ (lG (is:=#[2,3]) (xs:=(jv o++#[o.zero]).zip #[1,1,1,1,2,2,2,2,4,8,4,4]) (f:=λx=>aT D.K #[aN x.1,aN x.2]) (X:=λx=>Ln.low x.2 x.1) (λx=>#[B<|aV<|.ref p,B<|bb D o,B<|aN x.1,B<|aN x.2]) (λM=>?_) (λx=>iu) (λx=>.cons<|.cons<|.aC<|.aC .nil) λx hx=>iB (λM=>by walk_at "a")<|uG ?_) ?_;{rw[<-zip_map];show Wo<|ai (bI (ax (az @a_<|M6 T) @e_<|jz<|cu (cX ()) sz) ?_)<|ai (bI (gZ T (n:="INSTRUCTION_WIDTHS") (l:=ez #[1,1,1,1,2,2,2,2,4,8,4,4])<|by decide+kernel) ?_) au;{rw[eV];rfl};rfl};{let:=pX hx;let d:=this.2;simp at d;lia};simp only[jv,vo,Jd,Ct,qT,b _ N.op,b _ N.kind,b _ N.mask,b _ N.aux];simp[tu]) ()
end
section
variable{a:As}{t u:TS}{p:aa}{X Yy:aj}
def aka(h:ED E te ρ M<|.vl (aT K l) M1)(k:∀p,M1 p=Z->SD E u (ρ.set i<|B<|aV<|.ref p) (mu M1 p<|.lst l) o):SD E (bQ (b_ (cz (GH K)<|aJ te aX)<|aY i) u) ρ M o:=λj F H R w b q=>h j F H R w _ λv m s g n=>by let[x,d,rfl,hx,r]:=n;show [x,d,(),.inr<|ba.jW g.wf.fh hx,λp e=>?_];let f:=Go.cell (c:=.lst l) g.wf e [d,(),r];show k p (g.wf.free e).2 _ m _ ((R.up g.ff).set i ()) f.wf b<|q.after<|g.trans f
def uT(h:lg E t ρ p X)(b:U bs+U X<=sizeLine)(k:SD E u ρ (mu M p<|kT<|bs++X) o):SD E (bQ t u) ρ (mu M p<|kT bs) o:=bg (h _ bs bO b)<|by rw[gu];show k
def ahZ(N:m9 x):kG (Rh D) #[c_ D x] x.bytes:=by let b:=N.qD;let c:=N.rel;let d:=sz;show pj (ρ':=λ_=>[]) (λE p=>by show uJ (jS (OS (X:=#[Ln.boolByte x.fn,eB x.which,eB x.kind,eB (U x.operands),eB (U x.results)]) @z_ λM=>bI @e_ ?_)<|jS (iB (l:=#[aT D.K #[aN x.u,aN x.v],aN 8]) (λM=>ai (af ())<|ai (iq (K:=D.K) @a_<|cu (cX ()) sz) @a_)<|Ow (l:=#[x.u,x.v]) @d_)<|lG (is:=#[2]) (xs:=x.operands++x.results) (f:=dZ D) (X:=Ln.Hold.bytes) (λh=>#[B<|aV<|.ref p,B<|c_ D x,B<|dZ D h]) (λM=>by rw[eV];walk_at "w") (λh=>bL) (λh=>.cons<|.cons<|.aC .nil) λh _=>iB (λM=>by walk_at "a")<|ah1 T) ?_;{rw[<-Dy];simp[rn,oy N.which,oy N.kind,oy<|wu x.fn,oy (by lia:U x.operands<256),oy (by lia:U x.results<256)]};simp[Ji]) ()
def ah0(T:Tk D):kG (Ri D) #[bH D c]<|#[c.slots.length,c.data,c.names.length,c.pieces.length,c.calls.length,c.main.length].flatMap<|Ln.low 4:=λM p bs d e=>by apply jJ (hl:=());intro E;show bt (bI (b:=aT D.K<|#[c.slots.length,c.data,c.names.length,c.pieces.length,c.calls.length,c.main.length].map aN) (iq (K:=D.K) @a_<|cu (cX ()) sz) ?_)<|hB<|az @a_<|Ow @d_ M p bs d e;simp only[aP];rfl
def adb(N:eK c)(x:U c.bytes<=10000000):CD (Qt D) #[bH D c] M$ aName c.bytes:=by{
lk;let d:=eN;let e:(ez #[76,87,67,49]).map aV=oo.map λc=>aN c.toNat:=();show aka (K:=D.K) (l:=oo.map λc=>aN c.toNat) (by rw[<-e];show gZ T (n:="BEGINNING")<|by decide+kernel) λp y=>?_;change SD E _ #[B<|bH D c,B<|aV<|.ref p,Z,Z,Z,Z,Z,Z] (mu M p<|kT oo) _;refine_lift let b:=#[c.slots.length,c.data,c.names.length,c.pieces.length,c.calls.length,c.main.length].flatMap (Ln.low 4)++(c.slots.flatMap vG++(c.names.flatMap Jo++(c.pieces.flatMap Jj++(c.calls.flatMap Ji++(cQ c).flatMap λl=>l.flatMap tu))));?_;let w:oo++b=c.bytes:=by let O:((cQ c).flatMap λl=>l.flatMap tu)=c.main.flatMap tu++c.pieces.flatMap λp=>p.body.flatMap tu:=(by unfold cQ;rw[qT,List.flatMap_map]);unfold Ln.Code.bytes b;rw[O]
let j:∀q∈c.pieces,U q.body<=65536:=λq m=>by let:U q.body<=(c.pieces.map λp=>U p.body).sum:=sh<|c4.mpr [q,m,()];let:=N.ops;omega
let v:∀l∈cQ c,∀o∈l,ng o:=λl hl o h=>by(rcases bh.mp hl with rfl|hl);{show N.main o h};let[q,m,rfl]:=c4.mp hl;show(N.pieces q m).body o h
let hlen:oo.length+U b<=10000000:=by rw[<-cA,w];show x
simp only[b,cA]at hlen;let fin:∀bs,bs=c.bytes->SD E (ah<|ay 1) #[B<|bH D c,B<|aV<|.ref p,Z,Z,Z,Z,Z,Z] (mu M p<|kT bs) (.rt (aName c.bytes) M):=by rintro _ rfl;let r:=pJ (E:=E) (ρ:=#[B<|bH D c,B<|aV<|.ref p,Z,Z,Z,Z,Z,Z]) (te:=ay 1) (af (i:=1) ())<|bO (M:=M) (p:=p) (c:=kT c.bytes);rw[o9 y]at r;show r
show uT (iB (λM=>by walk_at "a")<|ah0 T (c:=c)) ?_ ?_;{(try simp only[cA]);omega};show uT (lG (is:=#[2]) (xs:=c.slots) (f:=bK D) (X:=vG) (λs=>#[B<|bH D c,B<|aV<|.ref p,B<|bK D s,Z,Z,Z,Z,Z]) (λM=>by walk_at "w") (λs=>bL) (λs=>.cons<|.cons<|.aC<|.cons<|.cons<|.cons<|.cons<|.cons .nil) λs d=>iB (λM=>by walk_at "a")<|FZ T<|N.slots s d) ?_ ?_;{(try simp only[cA]);omega};show uT (lG (is:=#[3]) (xs:=c.names) (f:=aName) (X:=Jo) (λs=>#[B<|bH D c,B<|aV<|.ref p,Z,B<|aName s,Z,Z,Z,Z]) (λM=>by walk_at "w") (λs=>bL) (λs=>.cons<|.cons<|.cons<|.aC<|.cons<|.cons<|.cons<|.cons .nil) λs d=>iB (λM=>by walk_at "a")<|ah3 T<|N.names s d) ?_ ?_;{(try simp only[cA]);omega};show uT (lG (is:=#[4]) (xs:=c.pieces) (f:=ej D) (X:=Jj) (λs=>#[B<|bH D c,B<|aV<|.ref p,Z,Z,B<|ej D s,Z,Z,Z]) (λM=>by walk_at "w") (λs=>bL) (λs=>.cons<|.cons<|.cons<|.cons<|.aC<|.cons<|.cons<|.cons .nil) λs d=>iB (λM=>by walk_at "a")<|ah4 T (N.pieces s d).toNHead<|j s d) ?_ ?_;{(try simp only[cA]);omega};show uT (lG (is:=#[5]) (xs:=c.calls) (f:=c_ D) (X:=Ji) (λs=>#[B<|bH D c,B<|aV<|.ref p,Z,Z,Z,B<|c_ D s,Z,Z]) (λM=>by walk_at "w") (λs=>bL) (λs=>.cons<|.cons<|.cons<|.cons<|.cons<|.aC<|.cons<|.cons .nil) λs d=>iB (λM=>by walk_at "a")<|ahZ T<|N.calls s d) ?_ ?_;{(try simp only[cA]);omega}
show uT (lG (wi:=f7 D.K<|dq (nV D) [] E<|aJ (ay 0) aX) (g:=aY 6) (body:=fH (f7 D.K<|ay 6) (aY 7)<|cG<|dq (HH D) [] E<|aJ (ay 1)<|aJ (ay 7) aX) (is:=#[6]) (xs:=cQ c) (f:=λl=>aL<|l.map<|bb D) (X:=λl=>l.flatMap tu) (λl=>#[B<|bH D c,B<|aV<|.ref p,Z,Z,Z,Z,B<|aL<|l.map<|bb D,Z]) (λM=>ij<|az @a_<|xh T N) (λs=>bL) (λs=>.cons<|.cons<|.cons<|.cons<|.cons<|.cons<|.aC<|.cons .nil)
 λl hl=>lG (is:=#[7]) (xs:=l) (f:=bb D) (X:=tu) (λo=>#[B<|bH D c,B<|aV<|.ref p,Z,Z,Z,Z,B<|aL<|l.map<|bb D,B<|bb D o]) (λM=>by walk_at "w") (λs=>bL) (λs=>.cons<|.cons<|.cons<|.cons<|.cons<|.cons<|.cons<|.aC .nil) λo h=>iB (λM=>by walk_at "a")<|ah2 T<|v l hl o h) ?_ ?_
{(try simp only[cA]);omega};show fin _<|by rw[<-w];simp only[b,qR]}
def aeH(N:eK c)(b:U c.bytes<=10000000):CD (RJ D) #[bH D c] M$ aA<|hG c .bytes:=by lk;let d:=eN;show aF (ax @e_ (az @a_<|adb T N b)<|jz @m_) ?_;change aL (#[aN 0]++c.bytes.map λc=>aN c.toNat)=aL (((0:Int)::kC c.bytes).map aI);rw[cC,<-AQ];rfl
end
def AE:mx (mu M x c) x=mx M x:=by funext b;unfold mx mu;by_cases h:b=x<;>simp[h]
section
variable{σ α β γ:Type}{inv:σ->Prop}{bc:σ->Cl}{X:aa}{E:XK}{ρ:En}{x:aa}{t u:TS}{te:TE}{ta:TA}{f:σ->Option (α×σ)}{enc:α->As}{enc':β->As}
def gm{σ α:Type}(inv:σ->Prop)(bc:σ->Cl)(X:aa)(J:Rz As->Prop)(M:Mu)(x:aa)(enc:α->As):Option (α×σ)->Prop|some (v,r)=>inv r/\J (.vl (enc v)<|mu M x<|bc r)|none=>J<|.xc X<|mx M x
def akW:Rz As->Oc|.vl a M=>.rt a M|.xc C M=>.xc C M
def wg(inv:σ->Prop)(bc:σ->Cl)(X:aa)(sp:Sp)(l:List As)(f:σ->Option (α×σ))(enc:α->As):Prop:=∀(M:Mu)(x:aa)(s:σ),inv s->M x=B (bc s)->gm inv bc X (CD sp (aV (.ref x)::l) M) M x enc (f s)
def eO(inv:σ->Prop)(bc:σ->Cl)(X:aa)(E:XK)(te:TE)(ρ:En)(x:aa)(f:σ->Option (α×σ))(enc:α->As):Prop:=∀(M:Mu)(s:σ),inv s->M x=B (bc s)->gm inv bc X (ED E te ρ M) M x enc (f s)
def hJ(inv:σ->Prop)(bc:σ->Cl)(X:aa)(E:XK)(t:TS)(ρ:En)(x:aa)(f:σ->Option (α×σ))(enc:α->As):Prop:=∀(M:Mu)(s:σ),inv s->M x=B (bc s)->gm inv bc X (λr=>SD E t ρ M<|akW r) M x enc (f s)
theorem gm.map{J a:Rz As->Prop}{M:Mu}{o:Option<|α×σ}(h:gm inv bc X J M x enc o)(k:∀r,J r->a r):gm inv bc X a M x enc o:=by cases o with|none=>show k _ h|some v=>let[v,r]:=v;show [h.1,k _ h.2]
theorem gm.mu{J:Rz As->Prop}{M:Mu}{a:Cl}{o:Option<|α×σ}(h:gm inv bc X J (L2.mu M x a) x enc o):gm inv bc X J M x enc o:=by cases o with|none=>have h:J _:=h;rw[AE]at h;show h|some v=>let[v,r]:=v;let j:=h.2;rw[gu]at j;show [h.1,j]
def uN(h:eO inv bc X E te ρ x f enc):hJ inv bc X E (ah te) ρ x f enc:=λM s b c=>(h M s b c).map λr j=>by cases r with|vl a d=>show bV j|xc C d=>show PX j
def sE(h:∀M,ED E te ρ M$ enc v):hJ inv bc X E (ah te) ρ x (λs=>B (v,s)) enc:=λM s a b=>[a,by rw[jO b];show bV<|h M]
theorem cM{i:Nat}{g:α->σ->Option (β×σ)}(h:eO inv bc X E te ρ x f enc)(k:∀s v r,f s=B (v,r)->hJ inv bc X E u (ρ.set i<|B<|enc v) x (g v) enc'):hJ inv bc X E (bQ (b_ te<|aY i) u) ρ x (λs=>(f s).bind λy=>g y.1 y.2) enc':=λM s a b=>by let q:=h M s a b;change gm inv bc X _ M x enc'<|fm (f s) _;cases e:f s with|none=>rw[e]at q;show ee (mB q) ()|some v=>let[v,r]:=v;rw[e]at q;let q2:=(k s v r e (mu M x<|bc r) r q.1 bO).mu;show q2.map λr c=>bt q.2 c
theorem ajO{g:α->σ->Option (β×σ)}(h:eO inv bc X E te ρ x f enc)(k:∀v,hJ inv bc X E u ρ x (g v) enc'):hJ inv bc X E (bQ (cG te) u) ρ x (λs=>(f s).bind λy=>g y.1 y.2) enc':=λM s a b=>by let q:=h M s a b;change gm inv bc X _ M x enc'<|fm (f s) _;cases e:f s with|none=>rw[e]at q;show ee (G2 q) ()|some v=>let[v,r]:=v;rw[e]at q;let q2:=(k v (mu M x<|bc r) r q.1 bO).mu;show q2.map λr c=>bg (hB q.2) c
def o8:∀p c,mx M x p=B c->M p=B c:=λp c h=>by unfold mx at h;by_cases z:p=x;{rw[aab z]at h;cases h};rwa[aaa z]at h
def GR(c:∀M,TD E tt ρ M$ b)(k:b=ag->hJ inv bc X E u ρ x g enc'):hJ inv bc X E (bQ (bu tt (dB X E) bw) u) ρ x (λs=>if b=Y then Z else g s) enc':=λM s d e=>by cases b with|true=>show pG (br (c M) (λ_=>jV) () @j_) o8|false=>show(k () M s d e).map λr j=>?_;cases r with|vl a h=>show br (c M) @j_ () (λ_=>j)|xc C h=>show br (c M) @j_ () (λ_=>j)
def jT(a:∀M,AD E ta ρ M$ aV (.ref x)::l)(h:wg inv bc X sp l f enc):eO inv bc X E (dq sp [] E ta) ρ x f enc:=λM s b c=>(h M x s b c).map λr j=>az (a M) j
def xU(hC:∀s,∃fs,bc s=.obj C fs/\fs.lookup m=Z)(b:∀M,ED E to ρ M$ aV<|.ref x)(c:(C,sp)∈tab)(d:∀M,AD E ta ρ M$ l)(h:wg inv bc X sp l f enc):eO inv bc X E (bC tab m E to ta) ρ x f enc:=λM s g a=>by let[fs,e,i]:=hC s;show(h M x s g a).map λr j=>hU (b M) (by rw[a,e]) c i (d M) j
def dg(h:hJ inv bc X E t ρ x f enc)(e:∀s,f s=a s):hJ inv bc X E t ρ x a enc:=λM s b c=>by rw[<-e s];show h M s b c
def nS(h:eO inv bc X E te ρ x f enc)(e:∀s,f s=a s):eO inv bc X E te ρ x a enc:=λM s b c=>by rw[<-e s];show h M s b c
def jA(h:∀E x,hJ inv bc X E (a G E) (jY k<|aV (.ref x)::l) x f enc)(hl:l.length+1=n):wg inv bc X (qS i k n a G) l f enc:=λM x s b c=>by let q:∀E,_:=λE=>h E x M s b c;cases e:f s with|none=>rw[e]at q;show lp q (by simp;show hl)|some v=>let[v,r]:=v;rw[e]at q;show [(q λ_ _ _=>True).1,aK (λE=>(q E).2)<|by simp;show hl]
theorem ajQ{C:aa}{sp:Sp}{b:TE}{a:As}{fs:α->List (Str×As)}{jK:α->As}(c:∀M,ED E b ρ M$ a)(h:eO inv bc X E te ρ x f enc)(d:∀v M y,M y=Z->CD sp #[aV<|.ref y,a,enc v] (mu M y<|.obj C []) (.vl aU<|mu M y<|.obj C<|fs v))(g:∀v,i3 C (fs v)=jK v):eO inv bc X E (dN C sp [] E<|aJ b<|aJ te aX) ρ x f jK:=λM s i j=>by let q:=h M s i j;cases e:f s with|none=>rw[e]at q;show oO (oI (c M)<|j9 q)|some v=>let[v,r]:=v;rw[e]at q;show [q.1,?_];rw[<-g v];show lq (ai (c M)<|ai q.2 au) λy l=>d v _ y l
theorem ajR{C:aa}{sp:Sp}{fs:α->List (Str×As)}{jK:α->As}(h:eO inv bc X E te ρ x f enc)(a:∀s v r,f s=B (v,r)->∀M y,M y=Z->CD sp #[aV<|.ref y,enc v] (mu M y<|.obj C []) (.vl aU<|mu M y<|.obj C<|fs v))(b:∀v,i3 C (fs v)=jK v):eO inv bc X E (dN C sp [] E<|aJ te aX) ρ x f jK:=λM s c d=>by let q:=h M s c d;cases e:f s with|none=>rw[e]at q;show oO (j9 q)|some v=>let[v,r]:=v;rw[e]at q;show [q.1,?_];rw[<-b v];show lq (ai q.2 au) λy g=>a s v r e _ y g
end
def vf{a α:Type}(f:a->Option (α×a)):Nat->a->Option (List α×a)|0,s=>B ([],s)|n+1,s=>match f s with|none=>Z|some (x,r)=>(vf f n r).map λ(y:List α×a)=>(x::y.1,y.2)
def ir{a α c:Type}(f:c->a->Option (α×a)):List c->a->Option (List α×a)|[],s=>B ([],s)|b::l,s=>match f b s with|none=>Z|some (x,r)=>(ir f l r).map λ(y:List α×a)=>(x::y.1,y.2)
def z8{c α q:Type}(f:q->c->Option (α×c)):∀(l:List q)(s:c),(∃(vs:List α) (st:Nat->c),ir f l s=B (vs,st (U l))/\U vs=U l/\st 0=s/\∀j b,l[j]?=B b->∃v,vs[j]?=B v/\f b (st j)=B (v,st<|j+1))\/(ir f l s=Z/\∃(n:Nat) (vs:List α) (st:Nat->c),n<U l/\U vs=n/\st 0=s/\(∀j b,j<n->l[j]?=B b->∃v,vs[j]?=B v/\f b (st j)=B (v,st<|j+1))/\∀b,l[n]?=B b->f b (st n)=Z)|[],s=>.inl [[],λ_=>s,(),(),(),λj b h=>by simp at h]|b::l,s=>by unfold ir;cases e:f b s with|none=>show .inr [(),0,[],λ_=>s,by simp,(),(),λj b h=>absurd h<|Xw _,λa h=>by simp at h;subst h;show e]|some v=>(let[v,r]:=v;rcases z8 f l r with⟨vs,st,d,g,i,m⟩|⟨d,n,vs,st,g,i,m,t,u⟩);{show .inl [v::vs,λj=>match j with|0=>s|j+1=>st j,?_,by simp[g],(),λj a h=>?_];{change (ir f l r).map _=_;rw[d];rfl};cases j with|zero=>simp at h;subst h;show [v,(),by change f b s=B (v,st 0);rw[i];show e]|succ j=>simp at h;let[w,o,p]:=m j a h;show [w,(o:),p]};show .inr [?_,n+1,v::vs,λj=>match j with|0=>s|j+1=>st j,by simp;show g,by simp[i],(),λj a x h=>?_,λa h=>?_];{change (ir f l r).map _=_;rw[d];rfl};{cases j with|zero=>simp at h;subst h;show [v,(),by change f b s=B (v,st 0);rw[m];show e]|succ j=>simp at h;let[w,o,p]:=t j a @o_ h;show [w,(o:),p]};simp at h;show u a h
section
variable{σ α β:Type}{inv:σ->Prop}{bc:σ->Cl}{X:aa}{E:XK}{ρ:En}{x:aa}{te:TE}{enc:α->As}
theorem xg{f:β->σ->Option (α×σ)}{st:Nat->σ}{vs:List α}{l:List β}{n:Nat}(g:n<=U l)(a:inv<|st 0)(c:∀(j:Nat)(b:β),j<n->l[j]?=B b->∃v:α,vs[j]?=B v/\f b (st j)=B (v,st<|j+1))(d:∀(b:β)(s:σ)(v:α)(r:σ),b∈l->inv s->f b s=B (v,r)->inv r):∀j,j<=n->inv (st j)|0,_=>a|j+1,h=>by let O:l[j]?=B (l[j]'@o_):=bF _;let[v,_,e]:=c j _ @o_ O;show d _ (st j) v _ (lN _) (xg g a c d j @o_) e
def GQ(ρ1:β->En)(I:∀M,WD E wi ρ M$ l.map fb)(J:U l<=sizeLine)(A:∀b,GD g is (fb b) (j0 ρ is)<|ρ1 b)(O:∀b∈l,eO inv bc X E te (ρ1 b) x (f b) enc):eO inv bc X E (cH wi g dA te is) ρ x (ir f l) (λvs=>aL<|vs.map enc):=λM s P Q=>by{
let m:∀(b:β)(s:σ)(v:α)(r:σ),b∈l->inv s->f b s=B (v,r)->inv r:=λb s v r C F e=>by let:=O b C (λy=>if y=x then B (bc s)else Z) s F @s_;rw[e]at this;show this.1
rcases z8 f l s with⟨vs,st,G,t,u,o⟩|⟨G,n,vs,st,t,u,o,T,h6⟩
.rw[G];let hinv:=xg (inv:=inv) (bD (U l)) (by rw[u];show P) (λj b _ h=>o j b h) m;show [hinv _<|bD _,?_];let q:=Eb (E:=E) (ρ:=ρ) (M:=M) (wi:=wi) (g:=g) (is:=is) (te:=te) (l:=l.map fb) (bs:=vs.map enc) (λj=>mu M x<|bc<|st j) (by rw[u,jO Q];show I M) (by rw[aP,aP,t]) (by rw[aP];show J) (λj a b p i=>by let[y,d,rfl]:=de p;let[v,z,rfl]:=de i;let[w,c,e]:=o j y d;rw[z]at c;cases c;let hjl:j<U l:=(el.mp d).1;let r:=O y (bY d) (mu M x<|bc<|st j) (st j) (hinv j @o_) bO;rw[e]at r;let r2:=r.2;rw[gu]at r2;show [ρ1 y,A y,r2]);rw[aP]at q;show q
rw[G];let hinv:=xg (inv:=inv) (rd t) (by rw[o];show P) T m;show Ec (bs:=vs.map enc) (l:=l.map fb) (λj=>mu M x<|bc<|st j) n (by rw[o,jO Q];show I M) (by rw[aP];show t) (by rw[aP,u]) (by rw[aP];show J) (λj a b p i=>?_) λa p=>?_
.let[y,d,rfl]:=de p;let[v,z,rfl]:=de i;let H:j<n:=by let:=(el.mp z).1;lia
 let[w,c,e]:=T j y H d;rw[z]at c;cases c;let r:=O y (bY d) (mu M x<|bc<|st j) (st j) (hinv j @o_) bO;rw[e]at r;let r2:=r.2;rw[gu]at r2;show [ρ1 y,A y,r2]
let[y,d,rfl]:=de p;let r:=O y (bY d) (mu M x<|bc<|st n) (st n) (hinv n<|bD _) bO;rw[h6 y d]at r;let r:ED E te (ρ1 y) (mu M x<|bc<|st n)<|.xc X<|mx (mu M x<|bc<|st n) x:=r;rw[AE]at r;show [ρ1 y,A y,r]}
theorem LC{f:σ->Option (α×σ)}:∀(l:List Nat)(s:σ),ir (λ_=>f) l s=vf f l.length s|[],s=>rfl|b::l,s=>by(change (match f s with|none=>Z|some (x,r)=>(ir (λ_=>f) l r).map λ(y:List α×σ)=>(x::y.1,y.2))=match f s with|none=>Z|some (x,r)=>(vf f l.length r).map λ(y:List α×σ)=>(x::y.1,y.2));cases f s with|none=>rfl|some v=>let[v,r]:=v;simp only[LC l r]
def nQ(a:∀M,AD E ta ρ M$ #[aN n])(b:n<=65536)(O:∀j,eO inv bc X E te ((j0 ρ #[i]).set i<|B<|aN j) x f enc):eO inv bc X E (cH (fO ta) (aY i) dA te #[i]) ρ x (vf f n) λvs=>aL<|vs.map enc:=by let c:=sz;let q:=GQ (inv:=inv) (bc:=bc) (X:=X) (E:=E) (ρ:=ρ) (x:=x) (te:=te) (enc:=enc) (wi:=fO ta) (g:=aY i) (is:=#[i]) (fb:=aN) (l:=dc n) (f:=λ_=>f) (λj=>(j0 ρ #[i]).set i<|B<|aN j) (λM=>sT (a M) () @o_) (by rw[j4];lia) (λj=>bL) λj _=>O j;show nS q λs=>by rw[LC,j4]
end
section
def h7(row r:aj):Prop:=U r<=U row/\r=row.drop (U row-U r)
abbrev hR(D:aH)(row r:aj):Cl:=.obj (D.ad "ByteReader") #[("row",aName row),("spot",aN<|U row-U r)]
def MF(h:h7 row r)(w:Nat):h7 row<|r.drop w:=by let[b,a]:=h;show [by rw[kY];lia,?_];rw[kY];by_cases z:w<=U r;{(conv=>lhs;rw[a,pS]);congr 1;lia};rw[Ce (by lia:U r<=w),Ce @o_]
def acO(h:h7 row r)(a:r[j]?=B c):row[U row-U r+j]?=B c:=by rw[<-Ci,<-h.2];show a
variable{row:aj}
theorem G3{E:XK}{te:TE}{ρ:En}{M M1 M2:Mu}{a b:As}(h:ED E te ρ M<|.vl a M1)(e:a=b)(k:M1=M2):SD E (ah te) ρ M<|.rt b M2:=by subst e k;show bV h
abbrev RB(D:aH)(row:aj){α:Type}(sp:Sp)(l:List As)(f:Ln.R α)(enc:α->As):Prop:=wg (h7 row) (hR D row) (D.ad "NoBytes") sp l f enc
theorem aew(T:Tk D)(u:w<=8):RB D row (ie D) #[aN w] (cT w) aN:=jA (λE x M s e f=>by rw[AS];let g:∀{ρ:En}{k:Nat},ρ[k]?=B (B<|aV<|.ref x)->ED E (fV D.K (ay k) "spot") ρ M (.vl (aN<|U row-U s) M):=λh=>gJ T (af h) f () @k_;let o:∀{ρ:En}{k:Nat},ρ[k]?=B (B<|aV<|.ref x)->ED E (fV D.K (ay k) "row") ρ M (.vl (aName row) M):=λh=>gJ T (af h) f () @k_;let v:=e.1;let b:TD E (tB<|aq ek (aq (ib D.K) (fV D.K (ay 0) "spot")<|ay 1)<|cz (gP D.K)<|aJ (fV D.K (ay 0) "row") aX) #[B<|aV<|.ref x,B<|aN w,Z,Z] M$ ~~~(U s<w):=cN (a9<|ax (ax (g ()) @b_ g8) (dm (ai (o ()) au) lU) ia) (by rw[aP,cb];simp;lia);by_cases d:U s<w;{rw[aab d];rw[aae d]at b;show pG (br b (λ_=>jV) () @j_) o8};rw[aaa d];rw[aac d]at b;show [MF e w,?_];show br b @j_ () λ_=>bt bZ<|bg (jd (is:=#[3]) (l:=(dc w).map aN) (λj=>#[B<|aV<|.ref x,B<|aN w,B<|aN<|kl<|(s.take j).map fz,Z]) (λ_=>M) (sT (ai @b_ au) () @o_) λj a p=>?_)<|bg (uS T (ax (g ()) @b_ g8) @b_ f @k_ @s_) ?_;{let[k,m,rfl]:=de p;let q:j<w:=((el.mp m).1:);rw[kS q]at m;cases m;let n:s[j]?=B (s[j]'@o_):=bF _;generalize s[j]'@o_=c at n;let r:=acO e n;show [_,bL,gR (jU<|ax @b_ (ax (ax (o ()) (ax (g ()) @b_ g8)<|kn (i:=U row-U s+j) (a:=aN c.toNat) @o_<|by rw[du,r];rfl) (ax bZ (af ())<|nM<|.inl [by decide,by decide])<|ag1 [by lia,by lia,?_]) g8)<|.cons<|.cons<|.tZ (ei ?_)<|.aC .nil];{let:=c.toNat_lt;simp;lia};rw[take_snoc n,eV];change _=((kl (_++#[c.toNat]):Nat):Int);rw[Nw,aP,gj,CA (by lia:j<=U s)];let t:(((8:Nat):Int)*(j:Int)).toNat=8*j:=@o_;rw[t,WO,Cb,Int.natCast_pow];rw[Int.pow_mul];rfl};show G3 @b_ ?_ ?_;{rw[aP,j4]};change mu M x (.obj (D.ad "ByteReader") #[("row",aName row),("spot",aI _)])=mu M x (.obj (D.ad "ByteReader") #[("row",aName row),("spot",aN _)]);let:aI (((U row-U s:Nat):Int)+(w:Int))=aN (U row-U (s.drop w)):=ei (by rw[kY];lia);rw[this]) ()
end
section
variable{row:aj}
def mI{α:Type}(f:Ln.R α):∀(n:Nat)(s:aj),vf f n s=eJ f n s|0,s=>rfl|n+1,s=>by rw[vf,eJ];cases f s with|none=>rfl|some v=>let[v,r]:=v;simp only[mI f n r]
theorem xV{b α c V:Type}{inv:b->Prop}{bc:b->Cl}{X:aa}{E:XK}{te:TE}{ρ:En}{x:aa}{f:b->Option (α×b)}{mk:α->c}{enc:c->As}(h:eO inv bc X E te ρ x f λa=>enc<|mk a):eO inv bc X E te ρ x (λs=>(f s).map λy=>(mk y.1,y.2)) enc:=λM s d g=>by let q:=h M s d g;change gm inv bc X _ M x enc<|k7 _<|f s;cases e:f s with|none=>rw[e]at q;show q|some v=>let[v,r]:=v;rw[e]at q;show q
theorem ajW{a α:Type}{inv:a->Prop}{bc:a->Cl}{X:aa}{E:XK}{te:TE}{ρ:En}{x:aa}{f:a->Option (α×a)}{enc jK:α->As}(h:eO inv bc X E te ρ x f enc)(k:∀s v r,f s=B (v,r)->enc v=jK v):eO inv bc X E te ρ x f jK:=λM s b c=>by let q:=h M s b c;cases e:f s with|none=>rw[e]at q;show q|some v=>let[v,r]:=v;rw[e]at q;show [q.1,k s v r e▸q.2]
def hC(h:(#[("row",aU),("spot",aU)]:List<|Str×As).lookup m=Z):∀s,∃fs,hR D row s=.obj (D.ad "ByteReader") fs/\fs.lookup m=Z:=λs=>[_,(),by simp only[kZ]at h⊢;cases a:m==("row":Str)with|true=>rw[a]at h;cases h|false=>cases b:m==("spot":Str)with|true=>rw[a,b]at h;cases h|false=>rfl]
section
variable{E:XK}{ρ:En}{x:aa}{k:Nat}{ta:TA}
abbrev RE(D:aH)(row:aj){α:Type}(E:XK)(te:TE)(ρ:En)(x:aa)(f:Ln.R α)(enc:α->As):Prop:=eO (h7 row) (hR D row) (D.ad "NoBytes") E te ρ x f enc
theorem km(T:Tk D){w:Nat}(a:w<=8)(b:ρ[k]?=B (B<|aV<|.ref x))(c:∀M,AD E ta ρ M$ #[aN w]):RE D row E (bC #[(D.ad "ByteReader",ie D)] "take" E (ay k) ta) ρ x (cT w) aN:=xU (hC ()) (λM=>af b) (.head _) c (aew T a)
end
def aeF(a:w<=8):RB D row (gS D) #[aN w,aN most] (gB w most) aN:=jA (λE x=>by show dg (cM (km T a () @i_) λs v r e=>GR (b:= ~~~(most<v)) (λM=>cN @t_ @s_) λ_=>sE (v:=v) λM=>af ()) λs=>?_;unfold gB;cases cT w s with|none=>rfl|some v=>let[v,r]:=v;simp) ()
def aeA(a:w<=8)(b:n<=65536):RB D row (x5 D) #[aN n,aN w] (eJ (cT w) n) bA:=jA (λE x=>by show dg (uN<|nQ @i_ b λj=>km T a () @i_) λs=>mI _ n s) ()
section
variable{E:XK}{ρ:En}{x:aa}{k:Nat}{ta:TA}
def jN(a:w<=8)(b:ρ[k]?=B (B<|aV<|.ref x))(c:∀M,AD E ta ρ M$ #[aN w,aN most]):RE D row E (bC #[(D.ad "ByteReader",gS D)] "take_up_to" E (ay k) ta) ρ x (gB w most) aN:=xU (hC ()) (λM=>af b) (.head _) c (aeF T a)
theorem Fm(T:Tk D){w n:Nat}(a:w<=8)(b:n<=65536)(c:ρ[k]?=B (B<|aV<|.ref x))(d:∀M,AD E ta ρ M$ #[aN n,aN w]):RE D row E (bC #[(D.ad "ByteReader",x5 D)] "take_list" E (ay k) ta) ρ x (eJ (cT w) n) bA:=xU (hC ()) (λM=>af c) (.head _) d (aeA T a b)
end
theorem E9(T:Tk D):RB D row (ye D) [] ra<|bK D:=jA (λE x=>by show dg (cM (km T (w:=1) @d_ () @i_) λs v r e=>cM (jN T (w:=1) (most:=4) @d_ () @i_) λs n r a=>uN<|xV (V:=Nat) (mk:=λl=>([v,l]:bT)) (enc:=bK D)<|ajQ (jK:=λl=>bK D [v,l]) @z_ (Fm T (w:=4) (n:=n) @d_ (by let:=gz a;lia) () @i_) (λl M y b=>MU T) λl=>rfl) λs=>?_;simp only[ra,Ln.manyR,bind];cases cT 1 s with|none=>rfl|some v=>let[v,r]:=v;change fm (gB 1 4 r) _=fm (match gB 1 4 r with|some (n,r)=>eJ (cT 4) n r|none=>Z) _;cases gB 1 4 r with|none=>rfl|some n=>let[n,r2]:=n;change k7 _ (eJ (cT 4) n r2)=fm (eJ (cT 4) n r2) _;cases eJ (cT 4) n r2<;>rfl) ()
theorem aeB(T:Tk D):RB D row (HR D) [] Ln.nameR aName:=jA (λE x=>by show dg (cM (km T (w:=1) @d_ () @i_) λs v r e=>uN<|xV (V:=Nat) (mk:=λl:List Nat=>l.map eB) (enc:=aName)<|ajW (Fm T (w:=1) (n:=v) @d_ (by let:=f9 e;lia) () @i_) λs l r a=>?_) λs=>?_;{let:=(kU (P:=λn=>n<256) (λ_ _ _ h=>f9 h) v a).2;change aL (l.map aN)=aL ((l.map eB).map λc=>aN c.toNat);rw[cD];congr 1;show qV λn b=>?_;change aN n=aN (eB n).toNat;rw[rn,oy<|this n b]};simp only[Ln.nameR,bind];cases cT 1 s with|none=>rfl|some v=>let[v,r]:=v;change k7 _ (eJ (cT 1) v r)=vH v r;rw[VX]) ()
theorem aeE(T:Tk D):RB D row (RH D) [] vF<|js D:=jA (λE x=>by show dg (cM (jT (λM=>by walk_at "a")<|E9 T) λs v r e=>cM (km T (w:=1) @d_ () @i_) λs j r a=>sE (v:=([v,j]:i0)) λM=>LA T @a_) λs=>?_;simp only[vF,bind];cases ra s with|none=>rfl|some v=>let[v,r]:=v;change fm (cT 1 r) _=fm (cT 1 r) _;cases cT 1 r<;>rfl) ()
def Nm:RB D row (HQ D) [] Ln.holdR<|dZ D:=jA (λE x=>by show dg (cM (jN T (w:=1) (most:=1) @d_ () @i_) λs v r e=>cM (km T (w:=2) @d_ () @i_) λs j r a=>sE (v:=([v==1,j]:c5)) λM=>z6 T<|ai (bI @b_ ?_) @a_) λs=>?_;{let:=gz e;show ei ?_;match v,this with|0,_=>rfl|1,_=>rfl|n+2,h=>lia};simp only[Ln.holdR,Ln.flagR,bind];cases gB 1 1 s with|none=>rfl|some v=>let[v,r]:=v;change fm (cT 2 r) _=fm (cT 2 r) _;cases cT 2 r<;>rfl) ()
end
section
variable{row:aj}
def adY:CD (Q0 D) #[aN n] M$ aS<|ck n:=by{
lk;let hlen:pf.length=29:=by decide+kernel
let e:∀{ρ:En},ED E (tC<|.ref<|D.ad "OP_WORDS") ρ M$ aT D.K<|(pf.map V.str).map aV:=λ{ρ}=>gZ T (n:="OP_WORDS") @k_;show br (a9<|ax @b_ (dm (ai e au) DE) uE) (λO=>?_) () λO=>aF aM ?_
.let a:n<29:=by rw[aP,aP,hlen]at O;simp at O;lia
 let hx:pf[n]?=B (ck n):=by unfold ck;rw[cV,bF @o_];rfl
 show bV<|ax e (af ())<|jQ () (by rw[du,du,hx];rfl)
let a:29<=n:=by rw[aP,aP,hlen]at O;simp at O;lia
rw[Ol a]}
abbrev Oi(o:bf):List Nat:=#[o.op,o.kind,o.mask,o.aux,o.dst,o.a,o.b,o.c,o.where_,o.imm,o.to,o.zero]
def MR:CD (Hh D) #[aV<|.ref x,bA<|Oi o] (mu M x<|.obj (D.ad "Instruction") [])<|.vl aU<|mu M x<|.obj (D.ad "Instruction") #[("op",aN o.op),("kind",aN o.kind),("mask",aN o.mask),("aux",aN o.aux),("dst",aN o.dst),("a",aN o.a),("b",aN o.b),("c",aN o.c),("where",aN o.where_),("imm",aN o.imm),("to",aN o.to),("twelfth",aN o.zero),("word",aS<|ck o.op)]:=by apply jJ (hl:=());intro E;change SD E _ #[B<|aV<|.ref x,B<|aL #[aN o.op,aN o.kind,aN o.mask,aN o.aux,aN o.dst,aN o.a,aN o.b,aN o.c,aN o.where_,aN o.imm,aN o.to,aN o.zero]] _ _;show bg (cF T @e_ @b_ @k_ ())<|bg (cF T @e_ @b_ @k_ ())<|bg (cF T @e_ @b_ @k_ ())<|bg (cF T @e_ @b_ @k_ ())<|bg (cF T @e_ @b_ @k_ ())<|bg (cF T @e_ @b_ @k_ ())<|bg (cF T @e_ @b_ @k_ ())<|bg (cF T @e_ @b_ @k_ ())<|bg (cF T @e_ @b_ @k_ ())<|bg (cF T @e_ @b_ @k_ ())<|bg (cF T @e_ @b_ @k_ ())<|bg (cF T @e_ @b_ @k_ ())<|cF T (az (ai (gJ T @b_ bO () @k_) au)<|adY T) @b_ @k_ ()
def uw(l:List Nat):bf:=[l.getD 0 0,l.getD 1 0,l.getD 2 0,l.getD 3 0,l.getD 4 0,l.getD 5 0,l.getD 6 0,l.getD 7 0,l.getD 8 0,l.getD 9 0,l.getD 10 0,l.getD 11 0]
def ahh(s:aj):(ir (λw:Nat=>cT w) #[1,1,1,1,2,2,2,2,4,8,4,4] s).map (λy=>(uw y.1,y.2))=ov s:=by simp only[ov,bind,ir];cases r:cT 1 s with|none=>rfl|some b=>let[t,r0]:=b;simp only[bM,jF,gC];cases u:cT 1 r0 with|none=>rfl|some c=>let[v,r1]:=c;simp only[bM,jF,gC];cases x:cT 1 r1 with|none=>rfl|some d=>let[z,r2]:=d;simp only[bM,jF,gC];cases A:cT 1 r2 with|none=>rfl|some e=>let[C,r3]:=e;simp only[bM,jF,gC];cases F:cT 2 r3 with|none=>rfl|some f=>let[G,r4]:=f;simp only[bM,jF,gC];cases H:cT 2 r4 with|none=>rfl|some g=>let[I,r5]:=g;simp only[bM,jF,gC];cases J:cT 2 r5 with|none=>rfl|some h=>let[P,r6]:=h;simp only[bM,jF,gC];cases Q:cT 2 r6 with|none=>rfl|some i=>let[T,r7]:=i;simp only[bM,jF,gC];cases X:cT 4 r7 with|none=>rfl|some j=>let[x8,r8]:=j;simp only[bM,jF,gC];cases e9:cT 8 r8 with|none=>rfl|some l=>let[x9,r9]:=l;simp only[bM,jF,gC];cases m:cT 4 r9 with|none=>rfl|some v10=>let[n,a]:=v10;simp only[bM,jF,gC];cases o:cT 4 a with|none=>rfl|some v11=>let[p,q]:=v11;simp only[bM,jF,gC];rfl
end
section
variable{row:aj}
theorem aaN{a α c:Type}(f:c->a->Option (α×a)){l:List c}{s:a}{y:List α×a}(h:ir f l s=B y):U y.1=U l:=by(rcases z8 f l s with⟨e,st,b,d,_⟩|⟨b,_⟩);{rw[b]at h;cases h;show d};rw[b]at h;cases h
def NP(h:U l=12):Oi (uw l)=l:=by change (dc 12).map (λi=>l.getD i 0)=l;show List.ext_getElem (by simp[h]) λi a b=>?_;rw[List.getElem_map,W5,cV,bF b];rfl
theorem aez(T:Tk D):RB D row (RF D) [] ov<|bb D:=jA (λE x=>by let a:∀{ρ:En}{M:Mu},ED E (tC<|.ref<|D.ad "INSTRUCTION_WIDTHS") ρ M$ aT D.K<|(#[1,1,1,1,2,2,2,2,4,8,4,4]:List Nat).map aN:=λ{ρ M}=>gZ T (n:="INSTRUCTION_WIDTHS") (l:=ez #[1,1,1,1,2,2,2,2,4,8,4,4]) @k_;show dg (uN<|xV (V:=Nat) (mk:=uw) (enc:=bb D)<|ajR (enc:=bA) (fs:=λl=>_) (GQ (is:=#[1]) (fb:=aN) (enc:=aN) (l:=(#[1,1,1,1,2,2,2,2,4,8,4,4]:List Nat)) (f:=λw=>cT w) (λw=>#[B<|aV<|.ref x,B<|aN w]) (λM=>yw a) (cu (cX ()) sz) (λw=>bL) λw b=>km T (by simp at b;lia) () @i_) (λs v r e M y d=>?_) λv=>rfl) λs=>ahh s;let c:=aaN _ e;let:=MR T (M:=M) (x:=y) (o:=uw v);rw[NP c]at this;show this) ()
def Nn(a:n<=65536):RB D row (BJ D) #[aN n] (eJ ov n) λl=>aL<|l.map<|bb D:=jA (λE x=>by show dg (uN<|nQ @i_ a λj=>jT (λM=>by walk_at "a")<|aez T) λs=>mI _ n s) ()
def ac2:CD (Bw D) #[aV<|.ref x,aT D.K #[f,w,k,u,v],a,b] (mu M x<|.obj (D.ad "Call") [])<|.vl aU<|mu M x<|.obj (D.ad "Call") #[("form",f),("which",w),("kind",k),("u",u),("v",v),("operands",a),("results",b)]:=by apply jJ (hl:=());intro E;change SD E _ #[B<|aV<|.ref x,B<|aT D.K #[f,w,k,u,v],B a,B b] _ _;show bg (cF T @e_ @b_ @k_ ())<|bg (cF T @e_ @b_ @k_ ())<|bg (cF T @e_ @b_ @k_ ())<|bg (cF T @e_ @b_ @k_ ())<|bg (cF T @e_ @b_ @k_ ())<|bg (cF T @b_ @b_ @k_ ())<|cF T @b_ @b_ @k_ ()
def ac1:CD (Bw D) #[aV<|.ref x,aL #[f,w,k,u,v],a,b] (mu M x<|.obj (D.ad "Call") [])<|.vl aU<|mu M x<|.obj (D.ad "Call") #[("form",f),("which",w),("kind",k),("u",u),("v",v),("operands",a),("results",b)]:=by apply jJ (hl:=());intro E;change SD E _ #[B<|aV<|.ref x,B<|aL #[f,w,k,u,v],B a,B b] _ _;show bg (cF T @e_ @b_ @k_ ())<|bg (cF T @e_ @b_ @k_ ())<|bg (cF T @e_ @b_ @k_ ())<|bg (cF T @e_ @b_ @k_ ())<|bg (cF T @e_ @b_ @k_ ())<|bg (cF T @b_ @b_ @k_ ())<|cF T @b_ @b_ @k_ ()
def MT:CD (Hi D) #[aV<|.ref x,a,b,c,d,e,f] (mu M x<|.obj (D.ad "Piece") [])<|.vl aU<|mu M x<|.obj (D.ad "Piece") #[("axes",a),("inputs",b),("results",c),("place",d),("flag",e),("body",f)]:=by apply jJ (hl:=());intro E;show bg (cF T @b_ @b_ @k_ ())<|bg (cF T @b_ @b_ @k_ ())<|bg (cF T @b_ @b_ @k_ ())<|bg (cF T @b_ @b_ @k_ ())<|bg (cF T @b_ @b_ @k_ ())<|cF T @b_ @b_ @k_ ()
def MQ:CD (x6 D) #[aV<|.ref x,a,b,c,d,e,f] (mu M x<|.obj (D.ad "Code") [])<|.vl aU<|mu M x<|.obj (D.ad "Code") #[("data_slots",a),("slots",b),("names",c),("pieces",d),("calls",e),("main",f)]:=by apply jJ (hl:=());intro E;show bg (cF T @b_ @b_ @k_ ())<|bg (cF T @b_ @b_ @k_ ())<|bg (cF T @b_ @b_ @k_ ())<|bg (cF T @b_ @b_ @k_ ())<|bg (cF T @b_ @b_ @k_ ())<|cF T @b_ @b_ @k_ ()
def DA(h:v<=1):v=cK (v==1):=by match v,h with|0,_=>rfl|1,_=>rfl|n+2,h=>lia
def aey:RB D row (HP D) [] Ln.callR<|c_ D:=jA (λE x=>by show dg (cM (jN T (w:=1) (most:=1) @d_ () @i_) λ_ f _ c=>cM (km T (w:=1) @d_ () @i_) λ_ w _ _=>cM (km T (w:=1) @d_ () @i_) λ_ k _ _=>cM (jN T (w:=1) (most:=8) @d_ () @i_) λ_ n _ d=>cM (jN T (w:=1) (most:=8) @d_ () @i_) λ_ m _ e=>cM (km T (w:=8) @d_ () @i_) λ_ u _ _=>cM (km T (w:=8) @d_ () @i_) λ_ v _ _=>cM (nS (nQ (n:=n) @i_ (by let:=gz d;lia) λj=>jT (λM=>by walk_at "a")<|Nm T) λs=>mI _ n s) λ_ a _ _=>cM (nS (nQ (n:=m) @i_ (by let:=gz e;lia) λj=>jT (λM=>by walk_at "a")<|Nm T) λs=>mI _ m s) λ_ b _ _=>sE (v:=([f==1,w,k,u,v,a,b]:dY)) (λM=>lq (ai (iq (K:=D.K) (ai (bI @b_ ?_) @a_)<|cu (cX ()) sz) @a_) λy g=>ac2 T)) λs=>?_;{show ei (by rw[<-DA<|gz c])};simp only[Ln.callR,Ln.flagR,bind,Option.bind_map,Function.comp];cases gB 1 1 s with|none=>rfl|some v=>rfl) ()
end
section
variable{row:aj}
abbrev tU(D:aH)(h:cg×Nat):As:=aT D.K #[bA h.1.axes,aL<|h.1.inputs.map<|bK D,aL<|h.1.results.map<|js D,aN h.1.place,aN<|cK h.1.mains,aN h.2]
def aeC:RB D row (HS D) [] yT<|tU D:=jA (λE x=>by show dg (cM (jN T (w:=1) (most:=4) @d_ () @i_) λ_ b _ d=>cM (Fm T (w:=4) (n:=b) @d_ (by let:=gz d;lia) () @i_) λ_ axes _ _=>cM (jN T (w:=1) (most:=8) @d_ () @i_) λ_ a _ e=>cM (nS (nQ (n:=a) @i_ (by let:=gz e;lia) λj=>jT (λM=>by walk_at "a")<|E9 T) λs=>mI _ a s) λ_ ins _ _=>cM (jN T (w:=1) (most:=8) @d_ () @i_) λ_ et _ f=>cM (nS (nQ (n:=et) @i_ (by let:=gz f;lia) λj=>jT (λM=>by walk_at "a")<|aeE T) λs=>mI _ et s) λ_ outs _ _=>cM (km T (w:=4) @d_ () @i_) λ_ c _ _=>cM (jN T (w:=1) (most:=1) @d_ () @i_) λ_ g _ h=>cM (jN T (w:=4) (most:=65536) @d_ () @i_) λ_ n _ _=>sE (v:=(([axes,ins,outs,c,g==1,[]],n):cg×Nat)) (λM=>iq (K:=D.K) (ai (af ())<|ai (af ())<|ai (af ())<|ai (af ())<|ai (bI @b_ ?_)<|ai @b_ au)<|cu (cX ()) sz)) λs=>?_;{show ei (by rw[<-DA<|gz h])};simp only[yT,Ln.manyR,Ln.flagR,kx,Ln.OPS,bind];cases gB 1 4 s with|none=>rfl|some v=>let[b,r1]:=v;change fm (eJ (cT 4) b r1) _=fm (eJ (cT 4) b r1) _;cases eJ (cT 4) b r1 with|none=>rfl|some v=>let[axes,r2]:=v;change fm (gB 1 8 r2) _=fm (match gB 1 8 r2 with|some (n,r)=>eJ ra n r|none=>Z) _;cases gB 1 8 r2 with|none=>rfl|some v=>let[a,r3]:=v;change fm (eJ ra a r3) _=fm (eJ ra a r3) _;cases eJ ra a r3 with|none=>rfl|some v=>let[ins,r4]:=v;change fm (gB 1 8 r4) _=fm (match gB 1 8 r4 with|some (n,r)=>eJ vF n r|none=>Z) _;cases gB 1 8 r4 with|none=>rfl|some v=>let[et,r5]:=v;change fm (eJ vF et r5) _=fm (eJ vF et r5) _;cases eJ vF et r5 with|none=>rfl|some v=>let[outs,r6]:=v;change fm (cT 4 r6) _=fm (cT 4 r6) _;cases cT 4 r6 with|none=>rfl|some v=>let[c,r7]:=v;change fm (gB 1 1 r7) _=fm ((gB 1 1 r7).map _) _;cases gB 1 1 r7 with|none=>rfl|some v=>rfl) ()
def aeD(a:h.2<=65536)(c:h7 row s)(d:M x=B (hR D row s)):gm (h7 row) (hR D row) (D.ad "NoBytes") (CD (HU D) #[tU D h,aV<|.ref x] M) M x (ej D)<|(eJ ov h.2 s).map λy=>({h.1 with body:=y.1},y.2):=by let q:=Nn T (row:=row) a M x s c d;cases e:eJ ov h.2 s with|none=>rw[e]at q;show lp @f_ ();show ee (mB<|az @a_ q) ()|some v=>let[b,r]:=v;rw[e]at q;show [q.1,aK @f_ ()];show bt (az @a_ q.2)<|bV<|lq @a_ λy f=>MT T
def MP:CD (Qg D) #[aV<|.ref x,a] (mu M x<|.obj (D.ad "ByteReader") [])<|.vl aU<|mu M x<|.obj (D.ad "ByteReader") #[("row",a),("spot",aN 0)]:=by apply jJ (hl:=());intro E;show bg (cF T @b_ @b_ @k_ ())<|cF T bZ @b_ @k_ ()
def adv(b:h7 row s)(a:M x=B (hR D row s)):CD (uV D) #[aV<|.ref x] M$ aB<|~~~(s=[]):=by lk;let c:=b.1;show aF (ax (gJ T @b_ a () @k_) (dm (ai (gJ T @b_ a () @k_) au) lU) kP)<|bN ?_;rw[aP,cb];simp only[aaK];constructor;{intro h;show iG.mp @O_};intro h;subst h;simp
def ll(b:Nat)(s:aj):Option<|Unit×aj:=(cT 1 s).bind λy=>if y.1=b then B (fo,y.2)else Z
def Y9(s:aj):(ir ll #[76,87,67,49] s).map (λy=>(fo,y.2))=(vH 4 s).bind λy=>if y.1≠oo then Z else B (fo,y.2):=by unfold vH;match s with|[]=>rfl| #[a]=>by_cases h:a.toNat=76<;>simp[ir,ll,cT,h]| #[a,b]=>by_cases h:a.toNat=76<;>by_cases e:b.toNat=87<;>simp[ir,ll,cT,h,e]| #[a,b,c]=>by_cases h:a.toNat=76<;>by_cases e:b.toNat=87<;>by_cases f:c.toNat=67<;>simp[ir,ll,cT,h,e,f]|a::b::c::d::r=>let k:∀(x y:UInt8),x.toNat=y.toNat<->x=y:=λx y=>tP;rw[aaa (by simp:¬U (a::b::c::d::r)<4)];let g:a.toNat=76<->a=0x4C:=k a 0x4C;let i:b.toNat=87<->b=0x57:=k b 0x57;let j:c.toNat=67<->c=0x43:=k c 0x43;let l:d.toNat=49<->d=0x31:=k d 0x31;by_cases h:a=0x4C<;>by_cases e:b=0x57<;>by_cases f:c=0x43<;>by_cases m:d=0x31<;>simp[ir,ll,cT,oo,g,i,j,l,h,e,f,m]
def aex(F:h7 row s)(G:M x=B (hR D row s)):gm (h7 row) (hR D row) (D.ad "NoBytes") (CD (HN D) #[aV<|.ref x] M) M x (λ_:Unit=>aU) ((vH 4 s).bind λy=>if y.1≠oo then Z else B (fo,y.2)):=by{
rw[<-Y9];let H:∀{E:XK}{ρ:En}{M:Mu},ED E (tC<|.ref<|D.ad "BEGINNING") ρ M$ aT D.K<|(#[76,87,67,49]:List Nat).map aN:=λ{E ρ M}=>gZ T (n:="BEGINNING") (l:=ez #[76,87,67,49]) @k_;let f:∀(b:Nat)(s:aj)(v:Unit)(r:aj),b∈ #[76,87,67,49]->h7 row s->ll b s=B (v,r)->h7 row r:=λb s v r _ d e=>by unfold ll at e;rw[AS]at e;split at e;{cases e};let e:(if kl ((s.take 1).map fz)=b then B (fo,s.drop 1)else Z)=B (v,r):=e;split at e;{cases e;show MF d 1};cases e
let g:∀{E:XK}(j:Nat)(b:Nat)(s:aj),h7 row s->gm (h7 row) (hR D row) (D.ad "NoBytes") (ED E (bC #[(D.ad "ByteReader",ie D)] "take" E (ay 0)<|aJ (tC<|.int 1) aX) #[B<|aV<|.ref x,B<|aN b]<|mu M x<|hR D row s) (mu M x<|hR D row s) x aN (cT 1 s):=λ{E} j b s d=>km T (w:=1) @d_ () @i_ _ s d bO;let good:∀{E:XK}(b:Nat)(s r:aj),h7 row s->ll b s=B (fo,r)->SD E (bu (tB<|aq (eE D.K) (bC #[(D.ad "ByteReader",ie D)] "take" E (ay 0)<|aJ (tC<|.int 1) aX)<|ay 1) (dB (D.ad "NoBytes") E) bw) #[B<|aV<|.ref x,B<|aN b] (mu M x<|hR D row s) (.nx #[B<|aV<|.ref x,B<|aN b]<|mu M x<|hR D row r):=λ{E} b s r d e=>by let q:=g (E:=E) 0 b s d;unfold ll at e;cases i:cT 1 s with|none=>rw[i]at e;cases e|some v=>let[n,t]:=v;rw[i]at e q;let e:(if n=b then B (fo,t)else Z)=B (fo,r):=e;by_cases O:n=b;{rw[aab O]at e;cases e;let q2:=q.2;rw[gu]at q2;show bX (x:=ag) (cN (a9<|ax q2 @b_ nN)<|by simp[O]) @j_ λ_=>ed};rw[aaa O]at e;cases e
let bad:∀{E:XK}(b:Nat)(s:aj),h7 row s->ll b s=Z->SD E (bu (tB<|aq (eE D.K) (bC #[(D.ad "ByteReader",ie D)] "take" E (ay 0)<|aJ (tC<|.int 1) aX)<|ay 1) (dB (D.ad "NoBytes") E) bw) #[B<|aV<|.ref x,B<|aN b] (mu M x<|hR D row s) (.xc (D.ad "NoBytes")<|mx M x):=λ{E} b s d e=>by let q:=g (E:=E) 0 b s d;unfold ll at e;cases i:cT 1 s with|none=>rw[i]at q;let q:ED E _ _ _<|.xc _<|mx (mu M x<|hR D row s) x:=q;rw[AE]at q;show PV (S6<|Ed q)|some v=>let[n,t]:=v;rw[i]at e q;let e:(if n=b then B (fo,t)else Z)=Z:=e;by_cases O:n=b;{rw[aab O]at e;cases e};let q2:=q.2;rw[gu]at q2;show pG (bX (x:=Y) (cN (a9<|ax q2 @b_ nN) @m_) (λ_=>jV) λz=>by cases z) λp c h=>?_;rw[<-AE (c:=hR D row t)]at h;show o8 p c h
rcases z8 ll #[76,87,67,49] s with⟨P,st,u,A,C,m⟩|⟨u,n,P,st,A,C,m,I,Q⟩
.rw[u];let hinv:=xg (inv:=h7 row) (n:=4) (bD _) (by rw[C];show F) (λj b _ h=>m j b h) f;show [hinv 4<|bD _,?_];apply jJ (hl:=());intro E;show jd (is:=#[1]) (l:=(#[76,87,67,49]:List Nat).map aN) (λ_=>#[B<|aV<|.ref x,Z]) (λj=>mu M x<|hR D row<|st j) (by rw[C,jO G];show yw H) λj a o=>?_;let[b,O,rfl]:=de o;let[v,_,e]:=m j b O;let J:j<4:=(el.mp O).1;show [_,bL,gR (good b (st j) (st<|j+1) (hinv j @o_) e)<|.cons<|.aC .nil]
rw[u];let hinv:=xg (inv:=h7 row) (n:=n) (rd A) (by rw[m];show F) I f;show lp @f_ ();show pH (is:=#[1]) (l:=(#[76,87,67,49]:List Nat).map aN) (λ_=>#[B<|aV<|.ref x,Z]) (λj=>mu M x<|hR D row<|st j) n A (by rw[m,jO G];show yw H) (λj a J o=>?_) (λa o=>?_) ();{let[b,O,rfl]:=de o;let[v,_,e]:=I j b J O;show [_,bL,gR (good b (st j) (st<|j+1) (hinv j @o_) e)<|.cons<|.aC .nil]};let[b,O,rfl]:=de o;show [_,bL,bad b (st n) (hinv n<|bD _)<|Q b O]}
end
section
variable{row:aj}
section
variable{σ β:Type}{inv:σ->Prop}{bc:σ->Cl}{X:aa}{E:XK}{ρ:En}{x:aa}{u:TS}{enc':β->As}
theorem PB{tt:TT}{b:σ->Bool}{g:σ->Option (β×σ)}(f:∀M s,inv s->M x=B (bc s)->TD E tt ρ M (.vl (b s) M))(k:hJ inv bc X E u ρ x g enc'):hJ inv bc X E (bQ (bu tt (dB X E) bw) u) ρ x (λs=>if b s=Y then Z else g s) enc':=λM s c d=>by let t:=f M s c d;cases e:b s with|true=>rw[e]at t;change gm inv bc X _ M x enc' (if b s=Y then Z else g s);rw[aab e];show pG (br t (λ_=>jV) () @j_) o8|false=>rw[e]at t;change gm inv bc X _ M x enc' (if b s=Y then Z else g s);rw[aaa<|by rw[e];simp];show(k M s c d).map λr j=>?_;cases r with|vl a h=>show br t @j_ () (λ_=>j)|xc C h=>show br t @j_ () (λ_=>j)
end
def KI:∀(l:List<|cg×Nat)(s:aj),ir (λ(h:cg×Nat) (s:aj)=>(eJ ov h.2 s).map λy=>(({h.1 with body:=y.1}:cg),y.2)) l s=Jl l s|[],s=>rfl|(p,n)::l,s=>by rw[Jl,ir];cases eJ ov n s with|none=>rfl|some v=>let[b,r]:=v;simp only[gC,KI l r]
def ab5(s:aj)(x:cg×Nat)(r:aj)(h:yT s=B (x,r)):x.2<=65536:=by(simp only[yT,bind,jk,Prod.exists,pure]at h;let[d,r1,e,f,r2,g,i,r3,j,l,r4,m,n,r5,o,p,r6,b,a]:=h;injection a with a;injection a with a c;subst a);show gz b
def Gw(ns:Nat)(d:Nat)(nn:Nat)(g:Nat)(h:Nat)(nm:Nat)(a:List bT)(b:List aj)(i:List<|cg×Nat)(c:List dY)(e:List bf)(f:List cg)(s:aj):Option<|a7×aj:=if(!~~~(s=[]))=Y then Z else B (([a,d,b,f,c,e]:a7),s)
def Gv(ns:Nat)(d:Nat)(nn:Nat)(b:Nat)(c:Nat)(nm:Nat)(e:List bT)(f:List aj)(a:List<|cg×Nat)(g:List dY)(h:List bf)(s:aj):Option<|a7×aj:=(Jl a s).bind λy=>Gw ns d nn b c nm e f a g h y.1 y.2
def Gu(ns:Nat)(d:Nat)(nn:Nat)(a:Nat)(b:Nat)(nm:Nat)(c:List bT)(e:List aj)(f:List<|cg×Nat)(g:List dY)(s:aj):Option<|a7×aj:=(eJ ov nm s).bind λy=>Gv ns d nn a b nm c e f g y.1 y.2
def Gs(ns:Nat)(d:Nat)(nn:Nat)(b:Nat)(c:Nat)(nm:Nat)(e:List bT)(f:List aj)(a:List<|cg×Nat)(g:List dY)(s:aj):Option<|a7×aj:=if ~~~(65536<nm+(a.map λh=>h.2).sum)=Y then Z else Gu ns d nn b c nm e f a g s
def q9(ns:Nat)(d:Nat)(nn:Nat)(b:Nat)(a:Nat)(nm:Nat)(c:List bT)(e:List aj)(f:List<|cg×Nat)(s:aj):Option<|a7×aj:=(eJ Ln.callR a s).bind λy=>Gs ns d nn b a nm c e f y.1 y.2
def q8(ns:Nat)(d:Nat)(nn:Nat)(a:Nat)(b:Nat)(nm:Nat)(c:List bT)(e:List aj)(s:aj):Option<|a7×aj:=(eJ yT a s).bind λy=>q9 ns d nn a b nm c e y.1 y.2
def q7(ns:Nat)(d:Nat)(nn:Nat)(a:Nat)(b:Nat)(nm:Nat)(c:List bT)(s:aj):Option<|a7×aj:=(eJ Ln.nameR nn s).bind λy=>q8 ns d nn a b nm c y.1 y.2
def q6(ns:Nat)(d:Nat)(nn:Nat)(a:Nat)(b:Nat)(nm:Nat)(s:aj):Option<|a7×aj:=(eJ ra ns s).bind λy=>q7 ns d nn a b nm y.1 y.2
def q5(ns:Nat)(d:Nat)(nn:Nat)(a:Nat)(b:Nat)(s:aj):Option<|a7×aj:=(gB 4 65536 s).bind λy=>q6 ns d nn a b y.1 y.2
def q4(ns:Nat)(d:Nat)(nn:Nat)(a:Nat)(s:aj):Option<|a7×aj:=(gB 4 4096 s).bind λy=>q5 ns d nn a y.1 y.2
def q3(ns:Nat)(d:Nat)(nn:Nat)(s:aj):Option<|a7×aj:=(gB 4 256 s).bind λy=>q4 ns d nn y.1 y.2
def q2(ns:Nat)(d:Nat)(s:aj):Option<|a7×aj:=(gB 4 256 s).bind λy=>q3 ns d y.1 y.2
def q1(ns:Nat)(s:aj):Option<|a7×aj:=(cT 4 s).bind λy=>q2 ns y.1 y.2
def q0(s:aj):Option<|a7×aj:=(gB 4 256 s).bind λy=>q1 y.1 y.2
def DI(s:aj):Option<|Unit×aj:=(vH 4 s).bind λy=>if y.1≠oo then Z else B (fo,y.2)
def A4(s:aj):Option<|a7×aj:=(DI s).bind λy=>q0 y.2
def ahR(s:aj):(A4 s).map (λy=>y.1)=vC s:=by(let key:∀{j:Type}(o:Option<|j×aj)(f g:j×aj->Option (a7×aj)),(∀a,(f a).map (λy=>y.1)=match g a with|some (c,[])=>B c|_=>Z)->(o.bind f).map (λy=>y.1)=match(o.bind g)with|some (c,[])=>B c|_=>Z:=λo f g h=>by cases o with|none=>rfl|some v=>show h v);unfold vC A4 DI;simp only[Ln.codeR,bind,Ln.SLOTS,Ln.NAMES,Ln.PIECES,Ln.CALLS];cases vH 4 s with|none=>rfl|some y=>let[m,r0]:=y;by_cases l:m≠oo;{simp[l]};simp only[bM,aaa l];unfold q0;show key _ _ _ λp=>?_;unfold q1;show key _ _ _ λd=>?_;unfold q2;show key _ _ _ λnn=>?_;unfold q3;show key _ _ _ λq=>?_;unfold q4;show key _ _ _ λt=>?_;unfold q5;show key _ _ _ λnm=>?_;unfold q6;show key _ _ _ λu=>?_;unfold q7;show key _ _ _ λw=>?_;unfold q8;show key _ _ _ λi=>?_;unfold q9;show key _ _ _ λx=>?_;unfold Gs;rw[<-yk];by_cases e:Ln.OPS<nm.1+(i.1.map λh=>h.2).sum;{let b:65536<nm.1+(i.1.map λh=>h.2).sum:=e;rw[aab<|aae b,aab e];rfl};let b:¬65536<nm.1+(i.1.map λh=>h.2).sum:=e;rw[aaa<|by rw[aac b];simp,aaa e];unfold Gu;show key _ _ _ λz=>?_;unfold Gv;show key _ _ _ λn=>?_;unfold Gw;let[n,r]:=n;cases r<;>rfl
section
variable{σ α:Type}{inv:σ->Prop}{bc:σ->Cl}{X:aa}{E:XK}{ρ:En}{x:aa}{t:TS}{f:σ->Option (α×σ)}{enc:α->As}{M:Mu}{s:σ}
def none_le(hx:M x=Z):∀p d,M p=B d->mu M x c p=B d:=λp d h=>by(let:p≠x:=λz=>by subst z;rw[hx]at h;cases h);rw[bG this];show h
def PQ(h:hJ inv bc X E t ρ x f enc)(hx:M x=Z)(a:inv s)(e:f s=B (v,r)):SD E t ρ (mu M x<|bc s)<|.rt (enc v) M:=by let q:=h (mu M x<|bc s) s a bO;rw[e]at q;let q2:SD E t ρ _<|.rt (enc v)<|mu (mu M x<|bc s) x<|bc r:=q.2;rw[gu]at q2;show aj9 q2<|none_le hx
def PR(h:hJ inv bc X E t ρ x f enc)(hx:M x=Z)(a:inv s)(e:f s=Z):SD E t ρ (mu M x<|bc s)<|.xc X M:=by let q:=h (mu M x<|bc s) s a bO;rw[e]at q;let q2:SD E t ρ _<|.xc X<|mx (mu M x<|bc s) x:=q;rw[o9 hx]at q2;show q2
end
def K6:hJ (h7 row) (hR D row) (D.ad "NoBytes") E (bQ (cG<|dq (HN D) [] E<|aJ (ay 1) aX)<|bQ (b_ (bC #[(D.ad "ByteReader",gS D)] "take_up_to" E (ay 1)<|aJ (tC<|.int 4)<|aJ (tC<|.int 256) aX)<|aY 2)<|bQ (b_ (bC #[(D.ad "ByteReader",ie D)] "take" E (ay 1)<|aJ (tC<|.int 4) aX)<|aY 3)<|bQ (b_ (bC #[(D.ad "ByteReader",gS D)] "take_up_to" E (ay 1)<|aJ (tC<|.int 4)<|aJ (tC<|.int 256) aX)<|aY 4)<|bQ (b_ (bC #[(D.ad "ByteReader",gS D)] "take_up_to" E (ay 1)<|aJ (tC<|.int 4)<|aJ (tC<|.int 256) aX)<|aY 5)<|bQ (b_ (bC #[(D.ad "ByteReader",gS D)] "take_up_to" E (ay 1)<|aJ (tC<|.int 4)<|aJ (tC<|.int 4096) aX)<|aY 6)<|bQ (b_ (bC #[(D.ad "ByteReader",gS D)] "take_up_to" E (ay 1)<|aJ (tC<|.int 4)<|aJ (tC<|.int 65536) aX)<|aY 7)<|bQ (b_ (cH (fO<|aJ (ay 2) aX) (aY 14) dA (dq (ye D) [] E<|aJ (ay 1) aX) #[14])<|aY 8)<|bQ (b_ (cH (fO<|aJ (ay 4) aX) (aY 14) dA (dq (HR D) [] E<|aJ (ay 1) aX) #[14])<|aY 9)<|bQ (b_ (cH (fO<|aJ (ay 5) aX) (aY 14) dA (dq (HS D) [] E<|aJ (ay 1) aX) #[14])<|aY 10)<|bQ (b_ (cH (fO<|aJ (ay 6) aX) (aY 14) dA (dq (HP D) [] E<|aJ (ay 1) aX) #[14])<|aY 11)<|bQ (bu (tB<|aq (ek) (aq (ib D.K) (ay 7)<|cz (mz D.K)<|aJ (cH (f7 D.K<|ay 10) (aY 15) dA (aq (fg D) (ay 15)<|tC<|.int 5) #[15]) aX)<|tC<|.int 65536) (dB (D.ad "NoBytes") E) bw)<|bQ (b_ (dq (BJ D) [] E<|aJ (ay 1)<|aJ (ay 7) aX)<|aY 12)<|bQ (b_ (cH (f7 D.K<|ay 10) (aY 15) dA (dq (HU D) [] E<|aJ (ay 15)<|aJ (ay 1) aX) #[15])<|aY 13)<|bQ (bu (cw<|tB<|bC #[(D.ad "ByteReader",uV D),(D.ad "LineReader",uX D)] "is_at_end" E (ay 1) aX) (dB (D.ad "NoBytes") E) bw)<|ah<|dN (D.ad "Code") (x6 D) [] E<|aJ (ay 3)<|aJ (ay 8)<|aJ (ay 9)<|aJ (ay 13)<|aJ (ay 11)<|aJ (ay 12) aX) #[B<|aName row,B<|aV<|.ref x,Z,Z,Z,Z,Z,Z,Z,Z,Z,Z,Z,Z,Z,Z] x A4<|bH D:=by let p:=sz;show dg (ajO (g:=λ_=>q0) (f:=DI) (enc:=λ_:Unit=>aU) (jT (l:=[]) @i_ λM x s p q=>aex T p q) λ_=>?_) λs=>rfl;show dg (cM (g:=q1) (jN T (w:=4) (most:=256) @d_ () @i_) λ_ a _ G=>?_) λs=>rfl;show dg (cM (g:=q2 a) (km T (w:=4) @d_ () @i_) λ_ d _ _=>?_) λs=>rfl;show dg (cM (g:=q3 a d) (jN T (w:=4) (most:=256) @d_ () @i_) λ_ nn _ H=>?_) λs=>rfl;show dg (cM (g:=q4 a d nn) (jN T (w:=4) (most:=256) @d_ () @i_) λ_ c _ A=>?_) λs=>rfl;show dg (cM (g:=q5 a d nn c) (jN T (w:=4) (most:=4096) @d_ () @i_) λ_ e _ I=>?_) λs=>rfl;show dg (cM (g:=q6 a d nn c e) (jN T (w:=4) (most:=65536) @d_ () @i_) λ_ nm _ J=>?_) λs=>rfl;show dg (cM (g:=q7 a d nn c e nm) (nS (nQ (n:=a) @i_ (by let:=gz G;lia) λj=>jT (λM=>by walk_at "a")<|E9 T) λs=>mI _ a s) λ_ m _ _=>?_) λs=>rfl;show dg (cM (g:=q8 a d nn c e nm m) (nS (nQ (n:=nn) @i_ (by let:=gz H;lia) λj=>jT (λM=>by walk_at "a")<|aeB T) λs=>mI _ nn s) λ_ o _ _=>?_) λs=>rfl;show dg (cM (g:=q9 a d nn c e nm m o) (nS (nQ (n:=c) @i_ (by let:=gz A;lia) λj=>jT (λM=>by walk_at "a")<|aeC T) λs=>mI _ c s) λ_ i _ C=>?_) λs=>rfl;show dg (cM (g:=Gs a d nn c e nm m o i) (nS (nQ (n:=e) @i_ (by let:=gz I;lia) λj=>jT (λM=>by walk_at "a")<|aey T) λs=>mI _ e s) λ_ t _ _=>?_) λs=>rfl;let X:U i<=256:=(by let:=kU (P:=λ_=>True) (λ_ _ _ _=>trivial) c C;let:=gz A;lia);show dg (GR (b:= ~~~(65536<nm+(i.map λh=>h.2).sum)) (g:=Gu a d nn c e nm m o i t) (λM=>?_) λ_=>?_) λs=>rfl;{show cN (a9<|ax (ax @b_ (dm (ai (dQ (xs:=i) (f:=tU D) (h:=λh=>aN h.2) (ij<|af ()) @o_ λh _=>[_,bL,by walk_at "e"]) au) rF) g8) bZ ia) ?_;rw[yj,<-yk,cb,aaQ,aaQ];generalize (i.map λh=>h.2).sum=z;lia};show dg (cM (g:=Gv a d nn c e nm m o i t) (jT (λM=>by walk_at "a")<|Nn T (n:=nm)<|gz J) λ_ u _ _=>?_) λs=>rfl;show dg (cM (g:=Gw a d nn c e nm m o i t u) (nS (GQ (is:=#[15]) (fb:=tU D) (l:=i) (enc:=ej D) (f:=λ(h:cg×Nat) (s:aj)=>(eJ ov h.2 s).map λy=>(({h.1 with body:=y.1}:cg),y.2)) (λh=>#[B<|aName row,B<|aV<|.ref x,B<|aN a,B<|aN d,B<|aN nn,B<|aN c,B<|aN e,B<|aN nm,B<|aL<|m.map<|bK D,B<|aL<|o.map aName,B<|aL<|i.map<|tU D,B<|aL<|t.map<|c_ D,B<|aL<|u.map<|bb D,Z,Z,B<|tU D h]) (λM=>ij<|af ()) @o_ (λh=>bL) λh Q M s p q=>(aeD T ((kU ab5 c C).2 h Q) p q).map λr j=>az @a_ j) λs=>KI i s) λ_ F _ _=>?_) λs=>rfl;show dg (PB (b:=λs=>!~~~(s=[])) (g:=λs=>B (([m,d,o,F,t,u]:a7),s)) (λM s p q=>fi<|a9<|hU @b_ q (.head _) () au<|adv T p q)<|sE (v:=([m,d,o,F,t,u]:a7)) λM=>lq @a_ λy hy=>MQ T) λs=>rfl
def M5:match vC row with|some c=>CD (BB D) #[aName row] M (.vl (bH D c) M)|none=>CD (BB D) #[aName row] M (.xc (D.ad "NoBytes") M):=by let hinv:h7 row row:=[bD _,by simp];let a:(Cl.obj (D.ad "ByteReader") #[("row",aName row),("spot",aN 0)])=hR D row row:=(by change _=Cl.obj _ #[_,("spot",aN<|U row-U row)];rw[Nat.sub_self]);rw[<-ahR];cases e:A4 row with|none=>show lp @f_ ();show xY (fs:=#[("row",aName row),("spot",aN 0)]) @a_ (λy b=>MP T) λx hx=>?_;rw[a];show PR (K6 T) hx hinv e|some v=>let[c,r]:=v;lk;show xY (fs:=#[("row",aName row),("spot",aN 0)]) @a_ (λy b=>MP T) λx hx=>?_;rw[a];show PQ (K6 T) hx hinv e
end
section
def tS(b:aj):Str:=[(b.map fz).toArray]
def nZ(b:aj):(tS b).length=b.length:=by unfold tS Str.length;simp
def ym(a b:aj):tS a++tS b=tS (a++b):=by change CQ (tS a) (tS b)=_;unfold CQ tS;simp
def Ij(h:∀c∈s.toList,c.toNat<256):dj s=tS (cy s):=by rw[JQ];unfold tS cy;rw[cD];congr 2;show qV λc a=>?_;change c.toNat=(eB c.toNat).toNat;rw[rn,oy<|h c a]
def akL(n:Nat):dj (toString ((n:Nat):Int))=tS (yR n):=by let e:toString ((n:Nat):Int)=toString n:=();rw[e];show Ij λc a=>?_;rw[show toString n=n.repr from(),CC,C8]at a;let:=Nat.isDigit_of_mem_toDigits @d_ @d_ a;unfold Char.isDigit at this;simp at this;let b:=this.2;let:c.toNat<=57:=b;lia
def Am(a:Str)(l:List Str):vV a l=vR a l:=PySem.StrLaws.glued_eq_join a l
def E1:∀ws:List aj,vV (tS #[32]) (ws.map tS)=tS (ow ws)
|[]=>rfl| #[w]=>by rw[Am];rfl
|w::v::l=>by let a:=E1<|v::l;rw[Am]at a⊢;change tS w++tS #[32]++vR (tS #[32]) ((v::l).map tS)=_;rw[a,ym,ym];change _=tS (w++(32::ow (v::l)));rw[qR];rfl
def An:∀ws:List aj,vV (tS []) (ws.map tS)=tS ws.flatten
|[]=>rfl| #[w]=>by rw[Am];simp;rfl
|w::v::l=>by let a:=An<|v::l;rw[Am]at a⊢;change tS w++tS []++vR (tS []) ((v::l).map tS)=_;rw[a,ym,ym,j3,yG (l:=w)]
variable{to:TE}{a:As}{M2:Mu}
abbrev aW(w:aj):As:=aS<|tS w
def akF(ws:List aj):((ws.map tS).map (·.length)).sum=U ws.flatten:=by induction ws with|nil=>rfl|cons w l b=>simp only[cC,oh,b,yG,cA,nZ]
theorem zQ{M:Mu}{s:Str}{sep:aj}{ws:List aj}(b:s=tS sep)(h:ED E te ρ M<|.vl (aL<|ws.map aW) M1)(c:ws.flatten.length+ws.length*sep.length<=16777216):ED E (ks (rJoin K) (tC<|.str s) te) ρ M<|.vl (aS<|vV (tS sep)<|ws.map tS) M1:=λd F H R w Q q=>[[s,()],h d F H R w _ λv f i g j=>by let[x,l,rfl,hx,m]:=j;let e:l=(ws.map tS).map V.str:=(by rw[cD];show all_map m);subst e;show [s,x,ws.map tS,(),(),.inl<|bE.of<|g.wf.fh _ _ hx,?_,?_];{rw[akF,aP,b,nZ];show c};rw[b];show q _ f i g ()]
def NA(ws:List aj)(h:ws≠[]):U ws.flatten+U ws=U (ow ws)+1:=by match ws,h with| #[w],_=>simp[ow]|w::v::l,_=>let b:=NA (v::l) @s_;rw[ow];{simp at b⊢;lia};simp
def E3(T:Tk D)(b:ws≠[])(e:(ow ws).length<=10000000):CD (BC D) #[aL<|ws.map aW] M$ aW<|ow ws++#[10]:=by{
lk;let f:=eN;let g:=NA ws b;let d:(dj " ")=tS #[32]:=by decide+kernel
let c:(dj "\n")=tS #[10]:=by decide+kernel
show aF (ax (zQ (sep:=#[32]) d @b_ (by change ws.flatten.length+ws.length*1<=16777216;lia)) aM<|N3<|by rw[E1,c,nZ,nZ];simp;lia) ?_;rw[E1,c,ym]}
theorem DD{M:Mu}{n:Nat}(h:n<2^64):hI E sD #[aN n] M$ aW<|yR n:=by let q:=Y6 (E:=E) (M:=M) (i:=(n:Int)) (by rw[Int.natAbs_natCast];by_cases z:n=0;{rw[z];decide};let:n.log2<64:=(Nat.log2_lt z).mpr h;lia);let e:aS (toString ((n:Nat):Int))=aW (yR n):=(by change aV (.str<|dj<|toString ((n:Nat):Int))=_;rw[akL]);rw[<-e];show q
def se(e:∀c∈w.toList,c.toNat<256)(hl:∀n∈l,n<2^64)(g:(eA w<|en l).length<=10000000)(i:l.length<=1000):CD (nX D) #[aS<|dj w,bA l] M$ aW<|eA w<|en l:=by lk;let j:=eN;let m:(eA w<|en l).length=(ow<|cy w::en l).length+1:=(by unfold eA;simp);show bV<|az (ai (bI (b:=aL<|(cy w::en l).map aW) (ax @e_ (dQ (xs:=l) (f:=aN) (h:=λn=>aW<|yR n) @w_ @o_ λn d=>[_,bL,dm @a_<|DD<|hl n d])<|jz @m_) ?_) au)<|E3 T @s_ @o_;rw[cC,Ij e];unfold en;rw[cD];rfl
def Mo(n:Nat)(h:n<16):(dj "0123456789abcdef").cps.toList[n]?=B (ot n).toNat:=(by decide+kernel:∀n,n<16->(dj "0123456789abcdef").cps.toList[n]?=B (ot n).toNat) n h
def adQ(O:b.length<=255):CD (QW D) #[aName b] M$ aW<|eA "name" #[k6 b]:=by{
lk;let n:=eN;let hx:(k6 b).length=2*b.length:=by unfold k6;induction b with|nil=>rfl|cons c b j=>simp only[qT,cA,bR,iY];rw[j<|by simp at O;lia];lia
let d:(b.map λc=>#[ot<|c.toNat/16,ot<|c.toNat % 16]).flatten=k6 b:=();let l:dj "name"=tS (cy "name"):=by decide+kernel
let m:dj ""=tS []:=by decide+kernel
let e:(dj "0123456789abcdef").length<=sizeLine:=by decide+kernel
show bt (bI (b:=aL<|(b.map λc=>#[ot<|c.toNat/16,ot<|c.toNat % 16]).map aW) (dQ (xs:=b) (f:=λc=>aN c.toNat) (h:=λc=>aW #[ot<|c.toNat/16,ot<|c.toNat % 16]) @w_ @o_ λc _=>[_,bL,?_])<|by rw[cD];rfl) ?_;{let g:=c.toNat_lt;show bI (ax (ax aM (ax @b_ bZ<|N4 [by decide,by decide])<|FE (i:=c.toNat/16) (cp:=(ot<|c.toNat/16).toNat) @o_ e<|Mo _ @o_) (ax aM (ax @b_ bZ<|AW @d_)<|FE (i:=c.toNat % 16) (cp:=(ot<|c.toNat % 16).toNat) @o_ e<|Mo _ @o_)<|N3 (by change 1+1<=_;lia)) ?_;rfl};show bV<|az (ai (bI (b:=aL<|#[cy "name",k6 b].map aW) (kh (ai aM<|ai (zQ (sep:=[]) m (af ())<|by rw[d];simp;lia) au)<|cu (cX ()) sz) ?_) au)<|E3 T @s_ ?_;{rw[An,d,l];rfl};let:(ow #[cy "name",k6 b]).length=4+1+(k6 b).length:=by change (cy "name"++(32::k6 b)).length=_;rw[cA,bR,show(cy "name").length=4 by decide+kernel];lia
lia}
theorem Nq(T:Tk D){M:Mu}{b:List c5}(v:b.length<=8)(f:∀h∈b,h.i<65536):CD (HY D) #[aL<|b.map<|dZ D] M$ aL<|(b.flatMap oj).map aW:=by{
lk;let m:=eN;show qH au (iH _) λp o=>?_;let fin:SD E (ah<|ay 1) #[B<|aL<|b.map<|dZ D,B<|aV<|.ref p,Z] (mu M p<|.lst<|(b.flatMap oj).map aW)<|.rt (aL<|(b.flatMap oj).map aW) M:=by let r:=pJ (E:=E) (ρ:=#[B<|aL<|b.map<|dZ D,B<|aV<|.ref p,Z]) (te:=ay 1) (af (i:=1) ())<|bO (M:=M) (p:=p) (c:=.lst<|(b.flatMap oj).map aW);rwa[o9 o]at r
let hlen:∀l:List c5,(l.flatMap oj).length=2*l.length:=λl=>by induction l with|nil=>rfl|cons h l s=>simp only[qT,cA,s,bR];change 2+_=_;lia
let q:=jd (E:=E) (g:=aY 2) (is:=#[2]) (M:=mu M p<|.lst []) (wi:=f7 D.K<|ay 0) (body:=bQ (cG<|gi D.K "list" pC (ay 1)<|aJ (qM (tB<|aq (ic D.K) (fV D.K (ay 2) "bank")<|tC<|.int 0) (tC<|.str "s")<|tC<|.str "n") aX)<|cG<|gi D.K "list" pC (ay 1)<|aJ (cz (sD)<|aJ (fV D.K (ay 2) "number") aX) aX) (l:=b.map<|dZ D) (λ_=>#[B<|aL<|b.map<|dZ D,B<|aV<|.ref p,Z]) (λj=>mu M p<|.lst<|((b.take j).flatMap oj).map aW) (ij<|af ()) (λj a t=>by let[h,d,rfl]:=de t;let w:j<b.length:=(el.mp d).1;let u:=hlen<|b.take j;rw[gj]at u;show [_,bL,bg (hB<|i7 (K:=D.K) () @b_ bO (ai (a:=aW<|cy (if h.number=Y then "n" else "s")) (zP @t_ (λO=>bI aM ?_) λO=>bI aM ?_) au)<|kM bO<|by rw[aP];lia)<|Br (hB<|i7 (K:=D.K) () @b_ bO (ai (dm @a_<|DD (n:=h.i) (by let:=f h<|bY d;lia)) au)<|kM bO<|by rw[cA,aP,bR,iY];lia) (.cons<|.cons<|.aC .nil) ?_];{let:h.number=ag:=(by cases e:h.number with|false=>rfl|true=>rw[e]at O;simp[cK]at O);rw[this];let:dj "s"=tS (cy "s"):=@k_;rw[this];rfl};{let:h.number=Y:=(by cases e:h.number with|true=>rfl|false=>rw[e]at O;simp[cK]at O);rw[this];let:dj "n"=tS (cy "n"):=@k_;rw[this];rfl};rw[gu,gu,take_snoc d,vq,eV];simp[oj]);rw[aP,lO]at q;show bg q fin}
end
section
variable{to:TE}{a:As}{M2:Mu}{t u:TS}{p:aa}
def adf(X:m9 x)(j:x.text.length<=10000000):CD (Qv D) #[c_ D x] M$ aW x.text:=by{
lk;let y:=eN;let m:=X.qD;let o:=X.rel;let z:=X.which;let A:=X.kind;let C:=X.u;let F:=X.v;let hlen:∀l:List c5,(l.flatMap oj).length=2*l.length:=λl=>by induction l with|nil=>rfl|cons h l q=>simp only[qT,cA,q,bR];change 2+_=_;lia
let c:=hlen x.operands;let i:=hlen x.results;let r:dj "call"=tS (cy "call"):=by decide+kernel
let s:dj ">"=tS (cy ">"):=by decide+kernel
let O:cK x.fn<2^64:=by let:=wu x.fn;lia
let d:∀n∈ #[cK x.fn,x.which,x.kind,x.u,x.v],n<2^64:=λn e=>by simp at e;rcases e with rfl|rfl|rfl|rfl|rfl<;>lia
refine_lift let g:List aj:=cy "call"::(en #[cK x.fn,x.which,x.kind,x.u,x.v]++(x.operands.flatMap oj++(cy ">"::x.results.flatMap oj)));?_;let w:x.text=ow g++#[10]:=by let:(if x.fn=Y then 1 else 0)=cK x.fn:=(by unfold cK;cases x.fn<;>rfl);unfold yN eA;rw[this]
rw[w]at j⊢;rw[cA]at j;show bt (bI (b:=aL<|(en #[cK x.fn,x.which,x.kind,x.u,x.v]).map aW) (dQ (xs:=#[cK x.fn,x.which,x.kind,x.u,x.v]) (f:=aN) (h:=λn=>aW<|yR n) (ij<|bI (b:=aL<|#[cK x.fn,x.which,x.kind,x.u,x.v].map aN) @e_ @r_) (cu (cX ()) sz) λn e=>[_,bL,dm @a_<|DD<|d n e])<|by unfold en;rw[cD];rfl) ?_;show bV<|az (ai (bI (b:=aL<|g.map aW) (ax (ax (ax (ax @e_ (af ())<|jz<|by simp[en];lia) (az @a_<|Nq T m X.operands)<|jz<|by simp only[cA,aP,c,bR,iY,en];lia) @e_<|jz<|by simp only[cA,aP,c,bR,iY,en];lia) (az @a_<|Nq T o X.results)<|jz<|by simp only[cA,aP,c,i,bR,iY,en];lia) ?_) au)<|E3 T (by simp[g]) @o_;simp only[g,cC,eV,r,s];simp}
def ahk(h:n<29):ck n=dj (p4.getD n "")/\∀c∈(p4.getD n "").toList,c.toNat<256:=(by decide+kernel:∀n,n<29->ck n=dj (p4.getD n "")/\∀c∈(p4.getD n "").toList,c.toNat<256) n h
def Nc(N:ng o)(f:o.op<29)(d:U o.text<=10000000):CD (Hu D) #[bb D o] M$ aW o.text:=by lk;let[g,h]:=ahk f;let i:o.text=eA (p4.getD o.op "") (en #[o.kind,o.mask,o.aux,o.dst,o.a,o.b,o.c,o.where_,o.imm,o.to]):=();rw[i]at d⊢;show bV<|az (ai (bI @e_<|by rw[g])<|ai (bI (b:=bA #[o.kind,o.mask,o.aux,o.dst,o.a,o.b,o.c,o.where_,o.imm,o.to]) @e_ @r_) au)<|se T h (λn e=>?_) d @s_;let:=N.kind;let:=N.mask;let:=N.aux;let:=N.dst;let:=N.a;let:=N.b;let:=N.c;let:=N.where_;let:=N.imm;let:=N.to;simp at e;rcases e with rfl|rfl|rfl|rfl|rfl|rfl|rfl|rfl|rfl|rfl<;>lia
def aeg(N:wd r)(c:U (eA "result"<|en<|r.shape.kind::r.join::r.shape.lens)<=10000000):CD (Rq D) #[js D r] M$ aW<|eA "result"<|en<|r.shape.kind::r.join::r.shape.lens:=by{
lk;let d:=eN;let e:=N.shape.kind;let f:=N.join;let g:=N.shape.len;show bV<|az (ai aM<|ai (bI (b:=bA<|r.shape.kind::r.join::r.shape.lens) (ax @e_ @e_<|jz @m_) @r_) au)<|se T (w:="result") @k_ (λn hn=>?_) c @m_;rcases bh.mp hn with rfl|hn
.lia
rcases bh.mp hn with rfl|hn
.lia
let:=N.shape.lens n hn;lia}
end
section
variable{to:TE}{a:As}{M2:Mu}{t u:TS}{p:aa}
abbrev m8(l:List aj):Cl:=.lst<|l.map aW
def sG(b:∀M,ED E to ρ M$ aV<|.ref p)(c:∀M,ED E te ρ M$ aL<|X.map aW)(d:U ls+U X<=sizeLine)(k:SD E u ρ (mu M p<|m8<|ls++X) o):SD E (bQ (cG<|gi K "list" jb to<|aJ te aX) u) ρ (mu M p<|m8 ls) o:=bg (hB<|i7 (K:=K) () (b _) bO (ai (c _) au)<|Av bO<|by rw[aP,aP];show d) (by rw[gu,<-eV];show k)
def aj8(b:∀M,ED E to ρ M$ aV<|.ref p)(c:∀M,ED E te ρ M$ aW x)(d:U ls<sizeLine)(k:SD E u ρ (mu M p<|m8<|ls++#[x]) o):SD E (bQ (cG<|gi K "list" pC to<|aJ te aX) u) ρ (mu M p<|m8 ls) o:=bg (hB<|i7 (K:=K) () (b _) bO (ai (c _) au)<|kM bO<|by rw[aP];show d) (by rw[gu];let:ls.map aW++#[aW x]=(ls++#[x]).map aW:=(by rw[eV];rfl);rw[this];show k)
abbrev nH(s:bT)(w:String):aj:=eA w<|Ln.shapeText s
abbrev Fh(r:i0):aj:=eA "result"<|en<|r.shape.kind::r.join::r.shape.lens
def g7(x:cg):List aj:=#[eA "piece"<|en #[x.place,cK x.mains],eA "axes"<|en x.axes]++x.inputs.map (λs=>nH s "input")++x.results.map Fh++x.body.map vy
def NC(x:cg):(g7 x).flatten=x.text:=by let:(if x.mains=Y then 1 else 0)=cK x.mains:=(by unfold cK;cases x.mains<;>rfl);unfold g7 Cu;rw[this];simp[yF]
def akm(N:qk s):∀n∈s.kind::s.lens,n<2^64:=λn hn=>by(rcases bh.mp hn with rfl|hn);{let:=N.kind;lia};let:=N.lens n hn;lia
def LB(e:∀c∈w.toList,c.toNat<256)(N:qk s)(f:(nH s w).length<=10000000)(d:ρ[k]?=B (B<|bK D s)):ED E (dq (nX D) [] E<|aJ (tC<|.str<|dj w)<|aJ (aq (ib D.K) (bJ<|aJ (fV D.K (ay k) "kind") aX)<|fV D.K (ay k) "lengths") aX) ρ M$ aW<|nH s w:=by let g:=eN;let h:=N.len;show az (ai aM<|ai (bI (b:=bA<|s.kind::s.lens) (ax (kh (ai (z7 T (af d) () @k_) au)<|cu (cX ()) sz) (z7 T (af d) () @k_)<|jz @m_) @r_) au)<|se T e (akm N) f @m_
theorem Et{l:List aj}{w:aj}(h:w∈l):U w<=U l.flatten:=by induction l with|nil=>cases h|cons a l b=>(rw[yG,cA];rcases bh.mp h with rfl|h);{lia};let:=b h;lia
def Zf(h:∀o∈x.body,g9 x o=Y):∀o∈x.body,o.op<29:=λo b=>by let:=h o b;by_cases z:o.op<29;{show z};obtain⟨k,e⟩:∃k,o.op=k+29:=[o.op-29,by omega];unfold g9 at this;rw[e]at this;cases this
def af3(h:∀o∈c.main,eS c o=Y):∀o∈c.main,o.op<29:=λo b=>by let:=h o b;by_cases z:o.op<29;{show z};obtain⟨k,e⟩:∃k,o.op=k+29:=[o.op-29,by lia];unfold eS at this;rw[e]at this;cases this
theorem adH(T:Tk D)(N:tR x)(O:U x.body<=65536)(y:∀o∈x.body,o.op<29)(F:U x.text<=10000000):CD (Hy D) #[ej D x] M$ aL<|(g7 x).map aW:=by(lk;let g:=eN;let G:=N.wt;let H:=N.inl;let I:=N.rel;let J:=N.place;let d:∀w∈g7 x,U w<=10000000:=λw z=>by let:=Et z;rw[NC]at this;lia);let j:U (eA "piece"<|en #[x.place,cK x.mains])<=10000000:=d _ (by simp[g7]);let m:U (eA "axes"<|en x.axes)<=10000000:=d _ (by simp[g7]);let A:=wu x.mains;show qH (l:=#[eA "piece"<|en #[x.place,cK x.mains],eA "axes"<|en x.axes].map aW) (ai (az (ai aM<|ai (bI (b:=bA #[x.place,cK x.mains]) @e_ @r_) au)<|se T (w:="piece") @k_ (λn q=>by simp at q;lia) j @s_)<|ai (az (ai aM<|ai @e_ au)<|se T (w:="axes") @k_ (λn q=>by let:=N.axes n q;lia) m @o_) au) (cu (cX ()) sz) λp C=>?_;change SD E _ #[B<|ej D x,B<|aV<|.ref p,Z,Z,Z] (mu M p<|m8 #[eA "piece"<|en #[x.place,cK x.mains],eA "axes"<|en x.axes]) _;show sG (X:=x.inputs.map λs=>nH s "input") @z_ (λM=>bI (dQ (xs:=x.inputs) (f:=bK D) (h:=λs=>aW<|nH s "input") @w_ @o_ λs g=>[_,bL,LB T @k_ (N.inputs s g) (d _<|by simp[g7];show .inr<|.inr<|.inl [s,g,()]) ()])<|by rw[cD];rfl) @m_ ?_;show sG (X:=x.results.map Fh) @z_ (λM=>bI (dQ (xs:=x.results) (f:=js D) (h:=λr=>aW<|Fh r) @w_ @o_ λr v=>[_,bL,az @a_<|aeg T (N.results r v)<|d _<|by simp[g7];show .inr<|.inr<|.inr<|.inl [r,v,()]])<|by rw[cD];rfl) @m_ ?_;show sG (X:=x.body.map vy) @z_ (λM=>bI (dQ (xs:=x.body) (f:=bb D) (h:=λo=>aW o.text) @w_ @o_ λo e=>[_,bL,az @a_<|Nc T (N.body o e) (y o e)<|d _<|by simp[g7];show .inr<|.inr<|.inr<|.inr [o,e,()]])<|by rw[cD];rfl) @m_ ?_;let r:=pJ (E:=E) (ρ:=#[B<|ej D x,B<|aV<|.ref p,Z,Z,Z]) (te:=ay 1) (af (i:=1) ())<|bO (M:=M) (p:=p) (c:=m8<|g7 x);rw[o9 C]at r;show r
end
section
variable{to:TE}{a:As}{M2:Mu}{t u:TS}{p:aa}
def Lk(h:WD E wi ρ M<|.vl l M1)(e:l=b):WD E wi ρ M<|.vl b M1:=e▸h
def nF(c:a7):List aj:=#[eA "code"<|en #[c.data]]++c.slots.map (λs=>nH s "slot")++c.names.map (λb=>eA "name" #[k6 b])++c.calls.map yN++#[eA "main"<|en []]++c.main.map vy++c.pieces.flatMap g7
def Fg(c:a7):(nF c).flatten=c.text:=by let e:(c.pieces.flatMap g7).flatten=c.pieces.flatMap Cu:=(by rw[yF,List.flatten_flatten,cD,yF];congr 1;show qV λx _=>?_;show NC x);unfold nF Xp;simp only[List.flatten_append,e,yG,List.flatten_nil,j3,qR];simp only[yF];rfl
def afv(x:cg):U (g7 x)=2+U x.inputs+U x.results+U x.body:=by unfold g7;simp;lia
def OK:∀(l:List cg),(∀x∈l,tR x)->U (l.flatMap g7)<=18*U l+(l.map λp=>U p.body).sum|[],_=>by simp|x::l,h=>by let c:=OK l λy b=>h y (by simp[b]);let:=(h x @s_).inl;let:=(h x @s_).rel;rw[qT,cA,afv,cC,oh,bR];lia
def adG(G:Good c)(hz:U c.text<=10000000):CD (QP D) #[bH D c] M$ aL<|(nF c).map aW:=by{
lk;let A:=eN;let N:=G.AG;let n1:=N.sl;let n2:=N.nl;let et:=N.cl;let gO:=N.pl;let n5:=N.ops;let n6:=N.data;let J:=OK c.pieces N.pieces;let d:∀w∈nF c,U w<=10000000:=λw P=>by let:=Et P;rw[Fg]at this;lia
let v:∀q∈c.pieces,U q.body<=65536:=λq Q=>by let:U q.body<=(c.pieces.map λp=>U p.body).sum:=sh<|c4.mpr [q,Q,()];lia
let y:∀o∈c.main,o.text∈nF c:=λo C=>by unfold nF;show Cp _<|pV _<|List.mem_map_of_mem C
show qH (l:=#[eA "code"<|en #[c.data]].map aW) (ai (az (ai aM<|ai (bI (b:=bA #[c.data]) @e_ @r_) au)<|se T (w:="code") @k_ (λn F=>by simp at F;lia) (d _<|by simp[nF]) @s_) au) (cu (cX ()) sz) λp hp=>?_;change SD E _ #[B<|bH D c,B<|aV<|.ref p,Z,Z,Z,Z,Z] (mu M p<|m8 #[eA "code"<|en #[c.data]]) _;show sG (X:=c.slots.map λs=>nH s "slot") @z_ (λM=>bI (dQ (xs:=c.slots) (f:=bK D) (h:=λs=>aW<|nH s "slot") @w_ @o_ λs A=>[_,bL,LB T @k_ (N.slots s A) (d _<|by simp[nF];show .inr<|.inl [s,A,()]) ()])<|by rw[cD];rfl) (by simp only[cA,aP,bR,iY];lia) ?_;show sG (X:=c.names.map λb=>eA "name" #[k6 b]) @z_ (λM=>bI (dQ (xs:=c.names) (f:=aName) (h:=λb=>aW<|eA "name" #[k6 b]) @w_ @o_ λb O=>[_,bL,az @a_<|adQ T<|N.names b O])<|by rw[cD];rfl) (by simp only[cA,aP,bR,iY];lia) ?_;show sG (X:=c.calls.map yN) @z_ (λM=>bI (dQ (xs:=c.calls) (f:=c_ D) (h:=λb=>aW b.text) @w_ @o_ λb O=>[_,bL,az @a_<|adf T (N.calls b O)<|d _<|iZ.mpr<|.inl<|iZ.mpr<|.inl<|iZ.mpr<|.inl<|iZ.mpr<|.inr<|c4.mpr [b,O,()]])<|by rw[cD];rfl) (by simp only[cA,aP,bR,iY];lia) ?_;show aj8 (x:=eA "main"<|en []) @z_ (λM=>az (ai aM<|ai (bI (b:=bA []) @e_ @r_) au)<|se T (w:="main") @k_ (λn F=>by simp at F) (d _<|by simp[nF]) @s_) (by simp only[cA,aP,bR,iY];lia) ?_;let zz:∀o∈c.main,U o.text<=10000000:=λo C=>d _<|y o C;let H:U c.main<=sizeLine:=by lia
show sG (X:=c.main.map vy) @z_ (λM=>bI (dQ (xs:=c.main) (f:=bb D) (h:=λo=>aW o.text) ?_ H ?_) ?_) ?_ ?_;{walk_at "w"};{show λo m=>[_,bL,az @a_<|Nc T (N.main o m) (af3 G.main o m)<|zz o m]};{rw[cD];rfl};{simp only[cA,aP,bR,iY];lia};let q:=jd (E:=E) (g:=aY 2) (is:=#[2]) (wi:=f7 D.K<|fV D.K (ay 0) "pieces") (body:=cG<|gi D.K "list" jb (ay 1)<|aJ (dq (Hy D) [] E<|aJ (ay 2) aX) aX) (l:=c.pieces.map<|ej D) (λ_=>#[B<|bH D c,B<|aV<|.ref p,Z,Z,Z,Z,Z]) (λj=>mu M p<|m8<|#[eA "code"<|en #[c.data]]++c.slots.map (λs=>nH s "slot")++c.names.map (λb=>eA "name" #[k6 b])++c.calls.map yN++#[eA "main"<|en []]++c.main.map vy++(c.pieces.take j).flatMap g7) (M:=mu M p<|m8<|#[eA "code"<|en #[c.data]]++c.slots.map (λs=>nH s "slot")++c.names.map (λb=>eA "name" #[k6 b])++c.calls.map yN++#[eA "main"<|en []]++c.main.map vy) (by
rw[Cr,WV,j3];walk_at "w") (λj a ha=>by
let[x,hx,rfl]:=de ha;let z:=bY hx;let hle:U ((c.pieces.take j).flatMap g7)+U (g7 x)<=U (c.pieces.flatMap g7):=by{
let:c.pieces=c.pieces.take j++x::c.pieces.drop (j+1):=by let[hl,e]:=el.mp hx;conv=>lhs;rw[<-vw j c.pieces,vp hl,e]
conv=>rhs;rw[this,vq,qT,cA,cA]
lia}
let I:U x.text<=10000000:=by{
let h1:U x.text<=U (c.pieces.flatMap Cu):=by rw[yF];show Et<|c4.mpr [x,z,()]
let h2:U (c.pieces.flatMap Cu)<=U c.text:=by unfold Xp;simp only[cA];lia
lia}
show [_,bL,Br (hB<|i7 (K:=D.K) () @b_ bO (ai (az @a_<|adH T (N.pieces x z) (v x z) (Zf<|G.body x z) I) au)<|Av bO<|by simp only[aP,cA,bR,iY];lia) (.cons<|.cons<|.aC<|.cons<|.cons<|.cons<|.cons .nil) ?_];rw[gu,<-eV,qR,take_snoc hx,vq,show#[x].flatMap g7=g7 x by simp])
rw[aP,lO]at q;let r:=pJ (E:=E) (ρ:=#[B<|bH D c,B<|aV<|.ref p,Z,Z,Z,Z,Z]) (te:=ay 1) (af (i:=1) ())<|bO (M:=M) (p:=p) (c:=m8<|nF c);rw[o9 hp]at r;show bg q r}
def aeQ(G:Good c)(d:c.text.length<=10000000):CD (RU D) #[bH D c] M$ aName c.text:=by lk;let g:=eN;let e:dj ""=tS []:=@k_;show aF (dQ (xs:=c.text) (f:=λb=>aS [(bS #[b.toNat])]) (h:=λb=>aN b.toNat) (Lk (IG<|bI (zQ (sep:=[]) e (az @a_<|adG T G d)<|by rw[Fg];simp;lia)<|by rw[An,Fg]) ?_) @o_ λb _=>[_,bL,bI (dm @a_<|Ky ()) ()]) ();unfold tS;simp
def aeM(G:Good c)(b:U c.text<=10000000):CD (RQ D) #[bH D c] M$ aA<|hG c .text:=by lk;let d:=eN;show aF (ax @e_ (az @a_<|aeQ T G b)<|jz @m_) ?_;change aL (#[aN 0]++c.text.map λc=>aN c.toNat)=aL (((0:Int)::kC c.text).map aI);rw[cC,<-AQ];rfl
end
section
variable{to:TE}{a:As}{M2:Mu}{t u:TS}{p:aa}
abbrev xJ(s:bT):As:=bA<|s.kind::s.lens
abbrev Gf(r:i0):As:=bA<|r.join::r.shape.kind::r.shape.lens
abbrev Ga(b:List c5):As:=aL<|b.map λh=>bA #[cK h.number,h.i]
abbrev F_(x:dY):As:=aL #[bA #[cK x.fn,x.which,x.kind,x.u,x.v],Ga x.operands,Ga x.results]
abbrev OG(o:bf):As:=bA<|(jv o).set 8 0
abbrev Gd(c:a7)(o:bf):As:=aL (if o.op=24 then(((jv o).set 8 0).map aN).set 9 (aName<|c.names.getD o.imm [])else((jv o).set 8 0).map aN)
abbrev Ge(x:cg):As:=aL #[bA x.axes,aL<|x.inputs.map xJ,aL<|x.results.map Gf,aN<|cK x.mains,aL<|x.body.map OG]
abbrev OH(c:a7):As:=aL #[aN c.data,aL<|c.slots.map xJ,aL<|c.pieces.map Ge,aL<|c.calls.map F_,aL<|c.main.map<|Gd c]
def E6(T:Tk D)(b:U s.lens<=4):CD (BE D) #[bK D s] M$ xJ s:=by lk;let c:=sz;show aF @e_ @r_
def aeb(b:U r.shape.lens<=4):CD (Rf D) #[js D r] M$ Gf r:=by lk;let c:=sz;show aF (ax @e_ (az @a_<|E6 T b)<|jz @m_) @r_
def Nj(T:Tk D)(c:U b<=8):CD (HF D) #[aL<|b.map<|dZ D] M$ Ga b:=by lk;let h:=sz;show bV<|dQ (xs:=b) (f:=dZ D) (h:=λh=>bA #[cK h.number,h.i]) @w_ @o_ λh _=>[_,bL,bI @e_ @r_]
def ad_(X:m9 x):CD (Ra D) #[c_ D x] M$ F_ x:=by lk;show bt (bI (b:=bA #[cK x.fn,x.which,x.kind,x.u,x.v]) @e_ @r_)<|bV<|kh (ai (af ())<|ai (az @a_<|Nj T X.qD)<|ai (az @a_<|Nj T X.rel) au)<|cu (cX ()) sz
def rp(sp:Sp)(l:List As)(M:Mu)(s:List As):Prop:=∀b F H,c9 F b l->Wf F H M->∀(Q:VK)(E:XK),(∀p d c,M p=Z->Go F H M d c (mu M p<|.lst s)->Q (.ref p) c)->sp b H Q E
def Dl(E:XK)(t:TS)(ρ:En)(M:Mu)(s:List As):Prop:=∀c F H,Rel F c ρ->Wf F H M->∀b:Ends,(∀p e d,M p=Z->Go F H M e d (mu M p<|.lst s)->b.rt (.ref p) d)->t b c H
def DV(h:∀E,Dl E (b G E) (jY k l) M s)(hl:l.length=n):rp (qS i k n b G) l M s:=by rw[sy];show λd F H c w Q E q=>[by rw[di c];show hl,h E _ F H (xW c) w _ q]
def rp.cd(h:rp sp l M s):CD sp l M$ aL s:=λd F H e w Q E q=>h d F H e w Q E λp m n f g=>by let[_,o,i,j,rfl,k]:=g.wf.hs p _ bO;let b:=Go.freeze g.wf bO i;let c:=g.trans b;rw[o9 f]at c;show q _ _ _ c [p,j,(),fI,c9.up b.ff k]
def akf(f:AD E ta ρ M$ l)(h:l.length<=sizeLine):Dl E (ah<|bJ ta) ρ M l:=λi F H R w b q=>f i F H R w _ λj m n g d=>[by rw[di d];show h,λp e=>q p m _ (g.wf.free e).2 (g.trans<|Go.cell (c:=.lst l) g.wf e [j,(),d])]
def P1(h:AD E ta ρ M$ l)(j:rp sp l M s)(k:∀p,M p=Z->SD E u (ρ.set i<|B<|aV<|.ref p) (mu M p<|.lst s) (.rt (aV<|.ref p)<|mu M p<|.lst e)):Dl E (bQ (b_ (dq sp [] E ta)<|aY i) u) ρ M e:=λm F H R w b q=>h m F H R w _ λn o r g x=>by rw[j3];show j n o r x g.wf _ E λp y z f c=>?_;show k p f _ y z ((R.up<|g.ff.trans c.ff).set i ()) c.wf _ λv A C G d=>?_;cases d;show q p A C f<|(g.trans c).trans G
def Zl(T:Tk D):rp (uY D) #[bb D o] M<|(jv o).map aN:=DV (λE=>by show akf (l:=#[aN o.op,aN o.kind,aN o.mask,aN o.aux,aN o.dst,aN o.a,aN o.b,aN o.c,aN o.where_,aN o.imm,aN o.to]) @a_<|cu (cX ()) sz) ()
def KS:rp (HG D) #[bb D o] M<|((jv o).set 8 0).map aN:=DV (λE=>by show P1 @a_ (Zl T) λp b=>?_;let q:=PZ (E:=E) (ρ:=#[B<|bb D o,B<|aV<|.ref p]) (te:=tC<|.int 0) (to:=ay 1) (tb:=tC<|.int 8) (M:=mu M p<|.lst<|(jv o).map aN) (i:=8) bZ @b_ bZ bO () @s_;rw[gu]at q;show bg q<|bV<|af ()) ()
def Zm(b:o.op=24->o.imm<U c.names):rp (Rb D) #[bH D c,bb D o] M (if o.op=24 then(((jv o).set 8 0).map aN).set 9 (aName<|c.names.getD o.imm [])else((jv o).set 8 0).map aN):=DV (λE=>by show P1 @a_ (KS T) λp d=>?_;by_cases h:o.op=24;{let hx:c.names[o.imm]?=B (c.names.getD o.imm []):=(by rw[cV,bF<|b h];rfl);rw[aab h];let q:=PZ (E:=E) (ρ:=#[B<|bH D c,B<|bb D o,B<|aV<|.ref p]) (te:=aq (fg D) (fV D.K (ay 0) "names")<|fV D.K (ay 1) "imm") (to:=ay 2) (tb:=tC<|.int 9) (M:=mu M p<|.lst<|((jv o).set 8 0).map aN) (i:=9) @e_ @b_ bZ bO () @s_;rw[gu]at q;show bg (bX (x:=Y) (cN @t_<|by simp[qN,h]) (λ_=>q) λz=>by cases z)<|bV<|af ()};rw[aaa h];show bg (bX (x:=ag) (cN @t_<|by simp[qN,h]) @j_ λ_=>ed)<|bV<|af ()) ()
def aea(N:tR x)(O:U x.body<=65536):CD (Rc D) #[ej D x] M$ Ge x:=by lk;let b:=sz;let c:=N.inl;let d:=N.rel;show bV<|kh (ai @e_<|ai (dQ (xs:=x.inputs) (f:=bK D) (h:=xJ) @w_ @o_ λs b=>[_,bL,az @a_<|E6 T (N.inputs s b).len])<|ai (dQ (xs:=x.results) (f:=js D) (h:=Gf) @w_ @o_ λs b=>[_,bL,az @a_<|aeb T (N.results s b).shape.len])<|ai @e_<|ai (dQ (xs:=x.body) (f:=bb D) (h:=OG) @w_ @o_ λs b=>[_,bL,az @a_ (KS T).cd]) au)<|cu (cX ()) sz
def Ni(N:eK c)(e:∀o∈c.main,o.op=24->o.imm<U c.names):CD (HE D) #[bH D c] M$ OH c:=by(lk;let b:=sz;let i:=N.sl;let j:=N.pl;let l:=N.cl;let m:=N.ops;let d:∀q∈c.pieces,U q.body<=65536:=λq g=>by let:U q.body<=(c.pieces.map λp=>U p.body).sum:=sh<|c4.mpr [q,g,()];lia);show bV<|kh (ai @e_<|ai (dQ (xs:=c.slots) (f:=bK D) (h:=xJ) @w_ @o_ λs b=>[_,bL,az @a_<|E6 T (N.slots s b).len])<|ai (dQ (xs:=c.pieces) (f:=ej D) (h:=Ge) @w_ @o_ λs b=>[_,bL,az @a_<|aea T (N.pieces s b)<|d s b])<|ai (dQ (xs:=c.calls) (f:=c_ D) (h:=F_) @w_ @o_ λs b=>[_,bL,az @a_<|ad_ T<|N.calls s b])<|ai (dQ (xs:=c.main) (f:=bb D) (h:=Gd c) @w_ @o_ λs b=>[_,bL,az @a_ (Zm T<|e s b).cd]) au)<|cu (cX ()) sz
end
section
variable{to:TE}{a b:As}{M2:Mu}{d e:PyData}
def iJ(K:aR)(a:As)(d:PyData):Prop:=∀v F,a.p v F->∀H,ba F H->Dp K H v d
def xN:iJ K (aN n)<|.int n:=λv F h H _=>by cases h;show .int _
def OU(s:ba F H):∀{vs:List V}{l:List As}{ds:List PyData},c9 F vs l->Paired (iJ K) l ds->qg K H vs ds|_,_,_,.nil,.nil=>.nil|_,_,_,.cons h t,.cons k u=>.cons (k _ F h H s)<|OU s t u
theorem xM{l:List As}{ds:List PyData}(h:Paired (iJ K) l ds):iJ K (aL l)<|.list ds:=λv F c H s=>by let[x,g,rfl,hx,f]:=c;show .lst (bE.of<|s _ _ hx)<|OU s f h
theorem Gi{α:Type}{f:α->As}{g:α->PyData}:∀{xs:List α},(∀x∈xs,iJ K (f x)<|g x)->Paired (iJ K) (xs.map f) (xs.map g)|[],_=>.nil|x::xs,h=>.cons (h x @s_)<|Gi λy c=>h y<|by simp[c]
theorem mw{α:Type}{f:α->As}{g:α->PyData}{xs:List α}(h:∀x∈xs,iJ K (f x)<|g x):iJ K (aL<|xs.map f)<|.list<|xs.map g:=xM<|Gi h
theorem pq{l:List Nat}:iJ K (bA l)<|gv l:=mw λn _=>xN
theorem agN(c:iJ K a d)(O:iJ K b e)(hd:ri d=Y)(f:ri e=Y):bW E (ic K) a b M$ aB<|eX d e:=λx y F H w g h Q q=>.inr [d,e,c x F g H w.fh,O y F h H w.fh,hd,f,q.fin w ()]
def Flat(n:Nat)(d:PyData):Prop:=d.canLay0=Y/\d.depth<=n
def LV:∀{ds:List PyData},(∀d∈ds,Flat n d)->za ds=Y/\vQ ds<=n|[],_=>[(),iH _]|d::ds,h=>by let[c,i]:=LV (ds:=ds) λe f=>h e<|dv _ f;let[g,j]:=h d @s_;show [?_,?_];{change (PyData.canLay0 d&&za ds)=Y;rw[g,c];rfl};change max (X8 d) (vQ ds)<=n;lia
theorem uc{n:Nat}{ds:List PyData}(h:∀d∈ds,Flat n d):Flat (n+1)<|.list ds:=by let[c,f]:=LV h;show [c,by change vQ ds+1<=n+1;lia]
theorem wQ{n k:Nat}:Flat n<|.int (k:Nat):=[(),iH _]
theorem wR{n m:Nat}(h:Flat n d)(k:n<=m):Flat m d:=[h.1,by let:=h.2;lia]
theorem oR{l:List Nat}:Flat 1<|gv l:=uc λd c=>by let[n,_,rfl]:=c4.mp c;show wQ
theorem nv{α:Type}{n:Nat}{f:α->PyData}{xs:List α}(h:∀x∈xs,Flat n<|f x):Flat (n+1)<|.list<|xs.map f:=uc λd c=>by let[x,hx,rfl]:=c4.mp c;show h x hx
theorem P9{n:Nat}(h:Flat n d)(k:n<=64):ri d=Y:=by change (d.canLay0&&~~~(d.depth<=64))=Y;rw[h.1,aae (by let:=h.2;lia)];rfl
def qt:eX (.list xs) (.list ys)=rh xs ys:=()
def iM:(rh (x::xs) (y::ys)=Y)=(eX x y=Y/\rh xs ys=Y):=by change ((eX x y&&rh xs ys)=Y)=_;rw[a6]
theorem wM{α c:Type}{f:α->PyData}{g:α->PyData}{h k:α->c}:∀{xs ys:List α},(∀x∈xs,∀y∈ys,(eX (f x) (g y)=Y<->h x=k y))->(rh (xs.map f) (ys.map g)=Y<->xs.map h=ys.map k)
|[],[],_=>[λ_=>rfl,λ_=>rfl]|[],y::ys,_=>[@j_,@j_]
|x::xs,[],_=>[@j_,@j_]|x::xs,y::ys,H=>by rw[cC,cC,iM,H x @s_ y @s_,wM (h:=h) (k:=k) λi hx j l=>H i (by simp[hx]) j<|by simp[l],cC,cC,List.cons.injEq]
def rM:eX (gv l) (gv m)=Y<->l=m:=by rw[show eX (gv l) (gv m)= ~~~(l=m)from AH l m,aaQ]
def LL:eX (.int (i:Nat)) (.int (j:Nat))=Y<->i=j:=by simp[eX];lia
def dS(s:bT):PyData:=gv<|s.kind::s.lens
def dR(r:i0):PyData:=gv<|r.join::r.shape.kind::r.shape.lens
def dH(c:List c5):PyData:=.list<|c.map λh=>gv #[cK h.number,h.i]
def dC(x:dY):PyData:=.list #[gv #[cK x.fn,x.which,x.kind,x.u,x.v],dH x.operands,dH x.results]
def dI(o:bf):PyData:=gv<|(jv o).set 8 0
def dM(c:a7)(o:bf):PyData:=.list (if o.op=24 then(((jv o).set 8 0).map λn=>PyData.int (n:Nat)).set 9 (gv<|(c.names.getD o.imm []).map fz)else((jv o).set 8 0).map λn=>PyData.int (n:Nat))
def dP(x:cg):PyData:=.list #[gv x.axes,.list<|x.inputs.map dS,.list<|x.results.map dR,.int (cK x.mains:Nat),.list<|x.body.map dI]
def dK(c:a7):PyData:=.list #[.int (c.data:Nat),.list<|c.slots.map dS,.list<|c.pieces.map dP,.list<|c.calls.map dC,.list<|c.main.map<|dM c]
def aiW(h:Paired (iJ K) l ds)(k:iJ K a d):Paired (iJ K) (l.set i a)<|ds.set i d:=Gj i h k
theorem ajl{b:aj}:iJ K (aName b)<|gv<|b.map fz:=by let:aName b=bA (b.map fz):=(by unfold aName bA;rw[cD];rfl);rw[this];show pq
theorem OT(c:a7):iJ K (OH c)<|dK c:=by(let f:∀o,iJ K (Gd c o)<|dM c o:=λo=>by unfold dM;change iJ K (aL (if o.op=24 then _ else _)) _;by_cases h:o.op=24;{rw[aab h,aab h];show xM<|aiW (Gi λn _=>xN) ajl};rw[aaa h,aaa h];show mw λn _=>xN);show xM<|.cons xN<|.cons (mw λs _=>pq)<|.cons (mw λx _=>xM<|.cons pq<|.cons (mw λs _=>pq)<|.cons (mw λr _=>pq)<|.cons xN<|.cons (mw λo _=>pq) .nil)<|.cons (mw λx _=>xM<|.cons pq<|.cons (mw λh _=>pq)<|.cons (mw λh _=>pq) .nil)<|.cons (mw λo _=>f o) .nil
theorem LU(c:a7):Flat 5<|dK c:=by{
let g:∀o,Flat 3<|dM c o:=λo=>by unfold dM;by_cases h:o.op=24;{(rw[aab h];show wR (uc (n:=1) λd f=>?_) @o_;rcases List.mem_or_eq_of_mem_set f with f|rfl);{let[n,_,rfl]:=c4.mp f;show wQ};show oR};rw[aaa h];show wR (nv (n:=0) λn _=>wQ) @o_
show uc (n:=4) λd f=>?_;simp only[bh,fZ,aaO]at f;rcases f with rfl|rfl|rfl|rfl|rfl
.show wQ
.show wR (nv (n:=1) λs _=>oR) @o_
.show nv (n:=3) λx _=>uc (n:=2) λd f=>?_;simp only[bh,fZ,aaO]at f;rcases f with rfl|rfl|rfl|rfl|rfl
 {show wR oR @o_};{show nv (n:=1) λs _=>oR};{show nv (n:=1) λs _=>oR};{show wQ};show nv (n:=1) λs _=>oR
.show nv (n:=3) λx _=>uc (n:=2) λd f=>?_;simp only[bh,fZ,aaO]at f;rcases f with rfl|rfl|rfl
 {show wR oR @o_};{show nv (n:=1) λs _=>oR};show nv (n:=1) λs _=>oR
show nv (n:=3) λo _=>g o}
theorem ac8(T:Tk D){M:Mu}{c d:a7}(N:eK c)(g:eK d)(h:∀o∈c.main,o.op=24->o.imm<U c.names)(f:∀o∈d.main,o.op=24->o.imm<U d.names):CD (Qp D) #[bH D c,bH D d] M$ aB<|eX (dK c)<|dK d:=by lk;show bV<|ax (az @a_<|Ni T N h) (az @a_<|Ni T g f)<|agN (OT c) (OT d) (P9 (LU c) @o_)<|P9 (LU d) @o_
end
def Dz:cK a=cK b<->a=b:=by cases a<;>cases b<;>simp[cK]
def LK:eX (dS s) (dS t)=Y<->s=t:=by unfold dS;rw[rM];let[k,l]:=s;let[a,b]:=t;simp
def aa3:eX (dR s) (dR t)=Y<->s=t:=by unfold dR;rw[rM];let[[k,l],j]:=s;let[[a,b],c]:=t;simp;grind
theorem wL{α:Type}{f:α->PyData}(h:∀x y,eX (f x) (f y)=Y<->x=y)(xs ys:List α):eX (.list<|xs.map f) (.list<|ys.map f)=Y<->xs=ys:=by rw[qt,wM (h:=id) (k:=id) λx _ y _=>h x y,yI,yI]
def LJ:eX (dH s) (dH t)=Y<->s=t:=wL (λx y=>by rw[rM];let[a,i]:=x;let[b,j]:=y;simp[Dz]) s t
def xy:rh [] []=Y:=()
def aaZ:eX (dC x) (dC y)=Y<->x=y:=by unfold dC;rw[qt,iM,iM,iM,rM,LJ,LJ];let[f,w,k,u,v,a,b]:=x;let[c,d,e,g,h,i,j]:=y;simp[Dz,xy];grind
abbrev blank(o:bf):bf:={o with where_:=0,imm:=if o.op=24 then 0 else o.imm}
def aa0(a:o.op≠24)(b:q.op≠24)(c:o.zero=0)(d:q.zero=0):eX (dI o) (dI q)=Y<->blank o=blank q:=by unfold dI;rw[rM];let[l,m,n,p,r,s,t,u,v,e,f,g]:=o;let[w,x,y,z,A,C,F,G,H,h,i,j]:=q;dsimp only at a b c d;subst c d;simp[blank,a,b]
theorem NR{a b:aj}:a.map fz=b.map fz<->a=b:=[λh=>W_ (λx y e=>tP.mp e)|>.mp h,λh=>by rw[h]]
theorem aa1(i:o.zero=0)(j:q.zero=0):eX (dM c o) (dM d q)=Y<->(blank o,if o.op=24 then c.names.getD o.imm []else[])=(blank q,if q.op=24 then d.names.getD q.imm []else[]):=by unfold dM;let[l,t,u,v,w,x,y,A,C,m,e,n]:=o;let[f,F,G,H,I,J,P,Q,T,p,g,r]:=q;dsimp only at i j;subst i j;rw[qt];by_cases h:l=24;{subst h;by_cases b:f=24;{subst b;simp only[jv,ab3,abW,abu,iM,LL,rM,NR,xy,and_true,Prod.mk.injEq,Ln.Op.mk.injEq,true_and,and_assoc,and_comm (a:=e=g)]};let s:¬(24=f):=λz=>b z.symm;simp only[jv,ab3,abW,abu,aaa b,iM,LL,s,Prod.mk.injEq,Ln.Op.mk.injEq,false_and]};by_cases b:f=24;{subst b;simp only[jv,ab3,abW,abu,abG,iM,LL,h,Prod.mk.injEq,Ln.Op.mk.injEq,false_and]};simp only[jv,ab3,abW,aaa h,aaa b,iM,LL,xy,and_true,Prod.mk.injEq,Ln.Op.mk.injEq,true_and]
abbrev wy(p:cg):cg:={p with place:=0,body:=p.body.map blank}
theorem aa2{x y:cg}(c:∀o∈x.body,o.op≠24/\o.zero=0)(d:∀o∈y.body,o.op≠24/\o.zero=0):eX (dP x) (dP y)=Y<->wy x=wy y:=by unfold dP;rw[qt,iM,iM,iM,iM,iM,rM,wL λ_ _=>LK,wL λ_ _=>aa3,LL,qt (xs:=x.body.map dI),wM (h:=blank) (k:=blank) λo e q f=>aa0 (c o e).1 (d q f).1 (c o e).2 (d q f).2,Dz];let[a,i,r,p,m,b]:=x;let[g,j,l,n,s,t]:=y;simp[wy,xy]
def A2(h:iQ o l=Y):o.zero=0:=by unfold iQ at h;simp only[a6,aaF]at h;show h.2.2.2.2.2.2.2.2.2
def NK(h:eS c o=Y):o.zero=0:=by unfold eS at h;split at h;{show A2 (a6 _ _|>.mp h).1};{show A2 (a6 _ _|>.mp h).1};cases h
def KL(h:g9 p o=Y):o.op≠24/\o.zero=0:=by show [λz=>?_,?_];{unfold g9 at h;rw[z]at h;cases h};unfold g9 at h;split at h;{show A2 (a6 _ _|>.mp (a6 _ _|>.mp h).2).1};{show A2 (a6 _ _|>.mp (a6 _ _|>.mp h).2).1};cases h
theorem Ox{α a b:Type}{f:α->a}{g:α->b}{c:α->a}{g':α->b}:∀{xs ys:List α},(xs.map λx=>(f x,g x))=(ys.map λy=>(c y,g' y))<->xs.map f=ys.map c/\xs.map g=ys.map g'
|[],[]=>by simp|[],_::_=>by simp
|_::_,[]=>by simp|x::xs,y::ys=>by simp only[cC,List.cons.injEq,Ox (xs:=xs) (ys:=ys),Prod.mk.injEq];grind
theorem akd{c d:a7}(G:Good c)(b:Good d):(eX (dK c) (dK d)=Y)<->(tD c=tD d/\tw c=tw d):=by unfold dK;rw[qt,iM,iM,iM,iM,iM,LL,wL λ_ _=>LK,qt (xs:=c.pieces.map dP),wM (h:=wy) (k:=wy) λx hx y e=>aa2 (λo a=>KL<|G.body x hx o a) λo a=>KL<|b.body y e o a,wL λ_ _=>aaZ,qt (xs:=c.main.map<|dM c),wM (h:=λo=>(blank o,if o.op=24 then c.names.getD o.imm []else[])) (k:=λo=>(blank o,if o.op=24 then d.names.getD o.imm []else[])) λo a q f=>aa1 (NK<|G.main o a)<|NK<|b.main q f,Ox];unfold tD tw;let[s,j,n,p,l,m]:=c;let[r,g,t,u,i,v]:=d;simp only[Ln.Code.mk.injEq,xy];grind
def zA(D:aH):Prop:=∀(M:Mu)(t:aj),U t<=30000->match yW t with|some c=>CD (Hn D) #[aName t] M (.vl (bH D c) M)|none=>CD (Hn D) #[aName t] M (.xc @q_ M)
def Ks(D:aH):Option a7->As|none=>aU|some c=>bH D c
abbrev i6(D:aH)(s:Option a7):Cl:=.obj (D.ad "Holder") #[("code",Ks D s)]
theorem Ah(T:Tk D){M:Mu}{f:yO}:CD (qK D) #[aT D.K #[aN f.what,aN f.at_]] M$ aA<|.told (-2) #[f.what,f.at_]:=by lk;show aF @e_ @r_
theorem Mg(T:Tk D){M:Mu}:ED E (tC<|.ref<|D.ad "NO_CODE") ρ M$ aT D.K #[aN 1,aN 0]:=gZ T (n:="NO_CODE") (l:=ez #[1,0])<|by decide+kernel
theorem Mf(T:Tk D)(L:jH D){M:Mu}{x:aa}{s:Option a7}{c:a7}(N:eK c)(b:M x=B (i6 D s)):match k4 c with|some f=>CD (Bx D) #[aV (.ref x),bH D c] M (.vl (aA (.told (-2) #[f.what,f.at_])) M)|none=>CD (Bx D) #[aV (.ref x),bH D c] M (.vl (aA (.number 0)) (mu M x (i6 D (B c)))):=by let a:=M8 T (M:=M) L N;cases e:k4 c with|some f=>rw[e]at a;lk;show bt (az @a_ a) ?_;show ee (bX (x:=Y) (a9<|ax @b_ aM<|AX λv F h z=>?_) (λ_=>bV<|az (ai @b_ au)<|Ah T) λz=>by cases z) ();let[y,d,rfl,_]:=h;cases z|none=>rw[e]at a;lk;show bt (az @a_ a) ?_;show bg (M1:=M) (bX (M1:=M) (x:=ag) (a9<|ax @b_ aM<|qB (x:=.aC)) @j_ λ_=>ed) ?_;show bg (uS T @b_ @b_ b @k_ @s_)<|G3 (kh (ai bZ au)<|cu (cX ()) sz) () rfl
theorem rS{m:Str}{s:Option a7}(h:(#[("code",aU)]:List<|Str×As).lookup m=Z):(#[("code",Ks D s)]:List<|Str×As).lookup m=Z:=by simp only[kZ]at h⊢;cases a:m==("code":Str)with|true=>rw[a]at h;cases h|false=>rfl
theorem abR(T:Tk D)(L:jH D){M:Mu}{x:aa}{s:Option a7}{b:aj}(a:M x=B (i6 D s)):CD (Qi D) #[aV<|.ref x,aName b] M<|.vl (aA (jE s<|.load b).2)<|mu M x<|i6 D (jE s<|.load b).1:=by(let d:=M5 T (M:=M) (row:=b);lk;let i:jE s (.load b)=match vB b with|.error f=>(s,.told (-2) #[f.what,f.at_])|.ok c=>(B c,.number 0):=());rw[i];unfold vB;cases e:vC b with|none=>rw[e]at d;change SD E _ _ M<|.rt (aA<|.told (-2) #[1,0])<|mu M x<|i6 D s;rw[jO a];show ee (G6 (λE=>mB<|az @a_ d)<|bV<|az (ai (Mg T) au)<|Ah T (f:=[1,0])) ()|some c=>rw[e]at d;let N:=FK e;let g:=Mf T L N a;show bg (G5 (λE=>jU<|az @a_ d) λX j z=>by cases z) ?_;cases h:k4 c with|some f=>simp only[h]at g⊢;rw[jO a];show bV (hU @b_ a (.head _) (rS ()) @a_ g)|none=>simp only[h]at g⊢;show bV<|hU @b_ a (.head _) (rS ()) @a_ g
def abS(L:jH D)(X:zA D)(O:U b<=30000)(a:M x=B (i6 D s)):CD (Qj D) #[aV<|.ref x,aName b] M<|.vl (aA (jE s<|.read b).2)<|mu M x<|i6 D (jE s<|.read b).1:=by(let d:=X M b O;lk;let i:jE s (.read b)=match yW b with|none=>(s,.number (-5))|some c=>match k4 c with|some f=>(s,.told (-2) #[f.what,f.at_])|none=>(B c,.number 0):=());rw[i];cases e:yW b with|none=>rw[e]at d;change SD E _ _ M<|.rt (aA<|.number<|-5)<|mu M x<|i6 D s;rw[jO a];show ee (G6 (λE=>mB<|az @a_ d)<|aF @e_ @r_) ()|some c=>rw[e]at d;let N:=Og e;let g:=Mf T L N a;show bg (G5 (λE=>jU<|az @a_ d) λX j z=>by cases z) ?_;cases h:k4 c with|some f=>simp only[h]at g⊢;rw[jO a];show bV (hU @b_ a (.head _) (rS ()) @a_ g)|none=>simp only[h]at g⊢;show bV<|hU @b_ a (.head _) (rS ()) @a_ g
section
variable{t u:TS}{o:Oc}
def NJ(G:Good c):∀o∈c.main,o.op=24->o.imm<U c.names:=λo a h=>by let k:=G.main o a;unfold eS at k;rw[h]at k;let k:=(a6 _ _|>.mp k).2;unfold uv at k;rw[h]at k;simp at k;show k.1
def abQ:CD (Qh D) #[aV<|.ref x] (mu M x<|.obj (D.ad "Holder") [])<|.vl aU<|mu M x<|i6 D Z:=by apply jJ (hl:=());intro E;let h:=uS (E:=E) (ρ:=jY 1 #[aV<|.ref x]) (f:="code") T aM (af (i:=0) ()) (bO (M:=M) (p:=x) (c:=.obj (D.ad "Holder") [])) @k_ @s_ (a:=aU);rw[gu]at h;show h
def abT(L:jH D)(G:Good c)(m:M x=B (i6 D<|B c)):CD (Qk D) #[aV<|.ref x,aName b] M$ aA<|hG c<|.same b:=by(let g:=M5 T (M:=M) (row:=b);lk;let n:hG c (.same b)=match vB b with|.error f=>.told (-2) #[f.what,f.at_]|.ok d=>.number (if tD c=tD d/\tw c=tw d then 1 else 0):=());rw[n];unfold vB;cases e:vC b with|none=>rw[e]at g;show ee (G6 (λE=>mB<|az @a_ g)<|bV<|az (ai (Mg T) au)<|Ah T (f:=[1,0])) ()|some d=>rw[e]at g;let N:=FK e;let i:=M8 T (M:=M) L N;show bg (G5 (λE=>jU<|az @a_ g) λX p z=>by cases z) ?_;cases a:k4 d with|some f=>simp only[a];rw[a]at i;show bt (az @a_ i) ?_;show ee (bX (x:=Y) (a9<|ax @b_ aM<|AX λv F h z=>?_) (λ_=>bV<|az (ai @b_ au)<|Ah T) λz=>by cases z) ();let[y,q,rfl,_]:=h;cases z|none=>simp only[a];rw[a]at i;show bt (az @a_ i) ?_;show bg (M1:=M) (bX (M1:=M) (x:=ag) (a9<|ax @b_ aM<|qB (x:=.aC)) @j_ λ_=>ed) ?_;let j:=EF N a;let l:=akd G j;show aF (kh (ai (zP (r:=.vl (aI (if tD c=tD d/\tw c=tw d then 1 else 0)) M) (a9<|az (ai (gJ T @b_ m () @k_) @a_)<|ac8 T G.AG N (NJ G)<|NJ j) (λz=>?_) λz=>?_) au)<|cu (cX ()) sz) ();{rw[aab<|l.mp z];show aM};rw[aaa λy=>by rw[l.mpr y]at z;cases z];show aM
def dw(h:ρ[1]?=B (B<|aI p))(a:p≠k)(b:SD E u ρ M o):SD E (bQ (bu (tB<|aq (ic K) (ay 1)<|tC<|.int k) t bw) u) ρ M o:=bg (bX (x:= ~~~(p=k)) (a9<|ax (af h) aM kP) (λz=>absurd (aaL z) a) λ_=>ed) b
def my(h:ρ[1]?=B (B<|aI p))(e:p=k)(a:SD E t ρ M o)(b:o.out=Y):SD E (bQ (bu (tB<|aq (ic K) (ay 1)<|tC<|.int k) t bw) u) ρ M o:=ee (bX (x:= ~~~(p=k)) (a9<|ax (af h) aM kP) (λz=>a) λz=>absurd e<|abw z) b
def abO(L:jH D)(G:Good c)(d:3<=cn a)(e:cn a<=11)(f:U (tH<|hG c a)<=10000000):CD (Qo D) #[bH D c,aN<|cn a,bA<|vj a] M$ aA<|hG c a:=by let N:=G.AG;lk;cases a with|load b=>show absurd d (by simp[cn])|read b=>show absurd d (by simp[cn])|same b=>show absurd e (by simp[cn])|counts=>show my () rfl (bV<|az @a_<|aeI T N G.ok) ()|slot i=>show dw () (by simp[cn]) (my () rfl (bV<|az @a_<|aeL T N) ())|name i=>show dw () (by simp[cn]) (dw () (by simp[cn])<|my () rfl (bV<|az @a_<|aeK T N) ())|at_ n i=>show dw () (by simp[cn]) (dw () (by simp[cn])<|dw () (by simp[cn])<|my () rfl (bV<|az @a_<|aeG T N) ())|where_ n i=>show dw () (by simp[cn]) (dw () (by simp[cn])<|dw () (by simp[cn])<|dw () (by simp[cn])<|my () rfl (bV<|az @a_<|aeO T N) ())|uses i=>show dw () (by simp[cn]) (dw () (by simp[cn])<|dw () (by simp[cn])<|dw () (by simp[cn])<|dw () (by simp[cn])<|my () rfl (bV<|az @a_<|aeN T N) ())|most n=>show dw () (by simp[cn]) (dw () (by simp[cn])<|dw () (by simp[cn])<|dw () (by simp[cn])<|dw () (by simp[cn])<|dw () (by simp[cn])<|my () rfl (bV<|az @a_<|aeJ T L G) ())|text=>show dw () (by simp[cn]) (dw () (by simp[cn]) (dw () (by simp[cn]) (dw () (by simp[cn]) (dw () (by simp[cn]) (dw () (by simp[cn]) (dw () (by simp[cn]) (my () rfl (bV (az @a_ (aeM T G (by let:U (tH<|hG c .text)=U c.text+1:=(by change U ((0:Int)::c.text.map _)=_;simp);lia)))) ())))))))|bytes=>show dw () (by simp[cn]) (dw () (by simp[cn]) (dw () (by simp[cn]) (dw () (by simp[cn]) (dw () (by simp[cn]) (dw () (by simp[cn]) (dw () (by simp[cn]) (dw () (by simp[cn]) (bV (az @a_ (aeH T N (by let:U (tH<|hG c .bytes)=U c.bytes+1:=(by change U ((0:Int)::c.bytes.map _)=_;simp);lia)))))))))))
def qj(s:Option a7):Prop:=∀c,s=B c->Good c
def ab9(h:qj s)(a:tq):qj (jE s a).1:=by{
let other:∀{l:Option a7},l=s->qj l:=λe=>e▸h;cases a with
|load b=>(let i:jE s (.load b)=match vB b with|.error f=>(s,.told (-2) #[f.what,f.at_])|.ok c=>(B c,.number 0):=());rw[i];unfold vB;cases e:vC b with|none=>show h|some c=>cases g:k4 c with|some f=>simp only[g];show h|none=>simp only[g];intro d j;cases j;show EF (FK e) g
|read b=>(let i:jE s (.read b)=match yW b with|none=>(s,.number (-5))|some c=>match k4 c with|some f=>(s,.told (-2) #[f.what,f.at_])|none=>(B c,.number 0):=());rw[i];cases e:yW b with|none=>show h|some c=>cases g:k4 c with|some f=>simp only[g];show h|none=>simp only[g];intro d j;cases j;show EF (Og e) g
|_=>cases s<;>show h}
def akA(d:3<=cn a):jE s a=match s with|none=>(s,.number (-8))|some c=>(s,hG c a):=by cases a with|load b=>show absurd d (by simp[cn])|read b=>show absurd d (by simp[cn])|_=>rfl
def abN(L:jH D)(X:zA D)(h:qj s)(O:U (qG a)<=30000)(d:M x=B (i6 D s))(e:U (tH (jE s a).2)<=10000000):CD (Qn D) #[aV<|.ref x,aN<|cn a,bA<|vj a,aName<|qG a] M (.vl (aA (jE s a).2)<|mu M x<|i6 D (jE s a).1):=by lk;by_cases f:3<=cn a;{show dw () @o_<|dw () @o_ ?_;rw[akA f]at e⊢;cases s with|none=>simp only;rw[jO d];show ee (bX (x:=Y) (a9<|ax (gJ T @b_ d () @k_) aM<|FC (x:=.aC)) (λ_=>aF @e_ @r_) λz=>by cases z) ()|some c=>simp only at e⊢;rw[jO d];let G:=h c ();show bg (bX (x:=ag) (a9<|ax (gJ T @b_ d () @k_) aM<|FD xE) @j_ λ_=>ed) ?_;by_cases g:cn a<=11;{show dw () @o_<|bV<|az (ai (gJ T @b_ d () @k_) @a_)<|abO T L G f g e};cases a with|same b=>show my () rfl (bV<|hU @b_ d (.head _) (rS ()) @a_<|abT T L G d) ()|_=>show absurd (by simp[cn]) g};cases a with|load b=>show my () rfl (bV<|hU @b_ d (.head _) (rS ()) @a_<|abR T L d) ()|read b=>show dw () (by simp[cn]) (my () rfl (bV<|hU @b_ d (.head _) (rS ()) @a_<|abS T L X O d) ())|_=>show absurd (by simp[cn]) f
end
def agr(h:p≠q):mu (mu M p c) q d=mu (mu M q d) p c:=by funext b;unfold mu;by_cases a:b=q;{subst a;simp[Ne.symm h]};simp[a]
def ints_map(l:List Nat):(LnNeutral.ints l).map aI=l.map aN:=(AR l).symm
def Zj(b:aj):(kC b).map aI=b.map λc=>aN c.toNat:=(AQ b).symm
theorem VW{t:List Int}{p:Nat}{n:Int}(h:t[p]?=B n):((ez t).map aV)[p]?=B (aI n):=by unfold ez;rw[cD,du,h];rfl
theorem N_{α:Type}{xs:List α}{f:α->As}{i:Nat}{x:α}(h:xs[i]?=B x):bW E (fg D) (aQ D.K<|xs.map f) (aN i) M$ f x:=agW () (by rw[du,h];rfl)
def Li(h:ED E te ρ M<|.vl (aQ K l) M1)(a:ED E ta ρ M1$ aI i)(O:ED E tb ρ M1$ aI j)(b:0<=i)(c:0<=j):ED E (eU (eT K) te (ew ta)<|ew tb) ρ M<|.vl (aL<|(l.drop i.toNat).take<|j.toNat-i.toNat) M1:=K8 b c▸aav h (sv a) (sv O)
abbrev LG(D:aH)(l:List Int)(x p:aa)(i:Nat):En:=#[B<|aQ D.K<|l.map aI,B<|aV<|.ref x,B<|aV<|.ref p,B<|aN i,Z,Z,Z,Z]
abbrev rG(D:aH)(M:Mu)(x p:aa)(cs:List<|List<|List Int)(j:Nat):Mu:=mu (mu M x<|i6 D<|after kD<|cs.take j) p<|.lst<|(n9 kD<|cs.take j).map aI
def ab8:∀{s:Option a7},qj s->qj (after s cs):=by induction cs with|nil=>show λh=>h|cons c cs b=>intro s h;change qj<|after (j5 s c).1 cs;show b ?_;unfold j5;cases e:Jq c with|none=>show h|some a=>show ab9 h a
theorem Z3{l:List Int}{i j:Int}{a n:Nat}{m:List Nat}(b:i.toNat=a)(c:j.toNat-i.toNat=n)(h:(l.drop a).take n=LnNeutral.ints m):aL (((l.map aI).drop i.toNat).take<|j.toNat-i.toNat)=bA m:=by rw[c,b,<-yH,<-qW,h,ints_map]
theorem Z1{l:List Int}{i j:Int}{a n:Nat}{m:aj}(b:i.toNat=a)(c:j.toNat-i.toNat=n)(h:(l.drop a).take n=kC m):aL (((l.map aI).drop i.toNat).take<|j.toNat-i.toNat)=aName m:=by rw[c,b,<-yH,<-qW,h,Zj]
theorem ab1{a:Nat}{z m:Int}(b:z=a)(c:0<=m):z.toNat=a/\(z+m).toNat-z.toNat=m.toNat:=by lia
def ags(h:x≠p):mu (mu (mu M x c) p t) x d=mu (mu M x d) p t:=by rw[agr<|Ne.symm h,gu]
theorem PY{t:TS}{a:As}{M1 M2:Mu}(h:SD E t ρ M<|.rt a M1)(k:∀p c,M2 p=B c->M1 p=B c):SD E t ρ M<|.rt a M2:=λd F H R w b q=>h d F H R w b λv e f g i=>q v e f (g.drop k) i
theorem ac6(T:Tk D)(L:jH D)(X:zA D){l:List Int}(hl:U l<=30000)(g:Kd l=Y):CD (Bz D) #[aQ D.K<|l.map aI] M$ aL<|(zj l).map aI:=by{
let hs:=eN;unfold Kd at g;cases ec:Ke l with|none=>rw[ec]at g;cases g|some cs=>
rw[ec]at g;simp only[a6]at g;let[[_,hq],g]:=g;let g:U (zj l)<=10000000:=aaL g;let ea:zj l=n9 kD cs:=by unfold zj;rw[ec]
rw[ea]at g⊢;let h0:=aiU ec;let hp:=pos_at h0;let d:∀j (o:j<U cs),cs.take (j+1)=cs.take j++#[cs[j]]:=λj o=>Xn o;lk;show xY au (λx hx=>abQ T) λx hx=>?_;show qH au (iH _) λp u=>?_;let I:x≠p:=λe=>by subst e;rw[bO]at u;cases u
show bt bZ ?_;show bg (ρ1:=LG D l x p<|je<|cs.take (U cs)) (M1:=rG D M x p cs (U cs)) (G7 cs.length (λj=>LG D l x p<|je<|cs.take j) (rG D M x p cs) (rG D M x p cs) ?_ ?_ ?_) ?_;{intro j o;let:=hp j @o_;rw[vp o]at this;let[q,n,k,z,_]:=Gh this;let ma:=(el.mp z).1;show cN (a9<|ax @b_ (dm (ai @b_ au) Kv) uE) @m_}
.intro j o;let J:=hp j @o_;rw[vp o]at J;let hs1:je (cs.take<|j+1)=je (cs.take j)+lJ cs[j]:=by rw[d j o,Qc];simp[je]
 let v:Jp cs[j]=Y:=cq.mp hq _<|lN o;let ht:=akY kD (cs:=cs)<|j+1;let w:=akZ kD (cs.take j) cs[j];let P:after kD (cs.take<|j+1)=(j5 (after kD<|cs.take j) cs[j]).1:=by rw[d j o,YI];rfl
 rw[<-d j o]at w;let hH:qj<|after kD<|cs.take j:=ab8 λc z=>by cases z
 let[q,n,k,z,w6,hn,k0,k1]:=Gh J;let[_,_,tn,tr,hk]:=Hc w6;generalize je (cs.take j)=i at*;generalize hsj:after kD (cs.take j)=s at*;let y:U ((l.drop<|i+1).take n)=n:=m3 hn;let C:∀{ρ:En}{M:Mu},ρ[4]?=B (B<|aI q)->ED E (aq (fg D) (tC<|.ref<|D.ad "NUMBERS_OF_CALL")<|ay 4) ρ M (.vl (aN n) M):=λh=>ax (gZ T (n:="NUMBERS_OF_CALL") (l:=ez NZ)<|by decide+kernel) (af h)<|FF @o_<|VW tn;let F:∀{ρ:En}{M:Mu},ρ[4]?=B (B<|aI q)->ED E (aq (fg D) (tC<|.ref<|D.ad "ROWS_OF_CALL")<|ay 4) ρ M (.vl (aN k) M):=λh=>ax (gZ T (n:="ROWS_OF_CALL") (l:=ez PM)<|by decide+kernel) (af h)<|FF @o_<|VW tr;let hA:∃a,Jq cs[j]=B a/\q=cn a/\(l.drop<|i+1).take n=LnNeutral.ints (vj a)/\(k=0->qG a=[]/\lJ cs[j]=1+n)/\(k=1->∃m:Int,l[i+1+n]?=B m/\0<=m/\i+1+n+1+m.toNat<=U l/\(l.drop<|i+1+n+1).take m.toNat=kC (qG a)/\lJ cs[j]=1+n+1+m.toNat):=by(rcases hk with rfl|rfl);{let[e,_]:=k0 ();rw[e]at v;let[a,Q,a2,a3,H]:=(MK (r:=[]) w6 y).1 rfl v;show [a,by rw[e];show Q,a2,a3,λ_=>[?_,?_],λz=>by cases z];{let:=aad U H;unfold kC at this;rw[aP]at this;show iG.mp this.symm};rw[e,acm,y]};let[m,m1,m2,G,e,_]:=k1 ();rw[e]at v;let[a,Q,a2,a3,H]:=(MK w6 y).2 rfl v;show [a,by rw[e];show Q,a2,a3,@j_,λ_=>[m,m1,m2,G,H,?_]];rw[e,acn,y,m3 G]
 let[a,Q,a2,a3,H,a5]:=hA;subst a2;let est:j5 s cs[j]=((jE s a).1,tH (jE s a).2):=by unfold j5;rw[Q]
 rw[est]at w P;let Mw:U (qG a)<=30000:=by(rcases hk with rfl|rfl);{rw[(H ()).1];show iH _};let[m,_,_,G,m4,_]:=a5 ();let:=aad U m4;unfold kC at this;rw[aP,m3 G]at this;rw[<-this];show cu (cu (Nat.le_add_left _ _) G) hl
 let hlen:=aad U w;simp only[cA,Ja]at hlen;let hzz:U (tH (jE s a).2)<=10000000:=by lia
 show bt (ax @b_ (af ())<|N_ z) ?_;show bt (bI (b:=aN<|i+1) @e_ @r_) ?_;show bt (bI (b:=bA<|vj a) (Li @b_ @b_ (ax @b_ (C ()) g8) (abL _)<|abL<|i+1+n) ?_) ?_;{show Z3 (ab1 () (abL n)).1 (ab1 () (abL n)).2 a3};show bt (bI (b:=aN<|i+1+n) (ax @b_ (C ()) g8) @r_) ?_;show bt (kh au<|iH _) ?_;let hm:(rG D M x p cs j) x=B (i6 D s):=by change mu (mu M x<|i6 D<|after kD<|cs.take j) p _ x=_;rw[bG I,bO,hsj]
 let f:=abN T L X hH Mw hm hzz;rw[ags I]at f;show bg (ρ1:=#[B<|aQ D.K<|l.map aI,B<|aV<|.ref x,B<|aV<|.ref p,B<|aN<|je<|cs.take<|j+1,B<|aN<|cn a,B<|bA<|vj a,B<|aName<|qG a,Z]) (M1:=rG D M x p cs j) ?_ ?_;{(rw[hs1];rcases hk with rfl|rfl);{let[b1,b2]:=H ();rw[b1,b2,show i+(1+n)=i+1+n by lia];show bX (x:=ag) (a9<|ax (F ()) aM ia) @j_ λ_=>ed};(let[m,m1,m2,G,m4,m5]:=a5 ();let O:=aad U m4;unfold kC at O;rw[aP,m3 G]at O;rw[m5];show bX (x:=Y) (a9<|ax (F ()) aM ia) (λ_=>?_) λz=>by cases z);show bt (bI (b:=aName<|qG a) (Li @b_ (ax @b_ bZ g8) (ax (ax @b_ bZ g8) (ax @b_ (af ())<|N_ m1) g8) (abL<|i+1+n+1)<|Int.add_nonneg (abL<|i+1+n+1) m2)<|Z1 (ab1 (a:=i+1+n+1) () m2).1 (ab1 (a:=i+1+n+1) () m2).2 m4) ?_;show jU<|bI (b:=aN<|i+(1+n+1+m.toNat)) @e_<|ei ?_;rw[aP];lia};show bt (az @a_ f) ?_;let A:∀{c t},(mu (mu M x c) p t) p=B t:=λ{c t}=>bO;show bg (hB<|i7 () @b_ A (ai @e_ au)<|kM A<|by rw[aP];lia) ?_;rw[gu];show Br (hB<|i7 () @b_ A (ai @b_ au)<|Av A<|by simp only[aP,cA,Ja];lia) (.cons<|.cons<|.cons<|.cons<|.aC<|.aC<|.aC<|.aC .nil) ?_;rw[gu];change _=mu (mu M x<|i6 D<|after kD<|cs.take<|j+1) p (.lst<|(n9 kD<|cs.take<|j+1).map aI);rw[P,w,eV,eV];simp only[aP,cC,tp]
.let:=hp (U cs)<|bD _;rw[IM]at this;let:=aiS this;rw[lO]at this;show cN (a9<|ax @b_ (dm (ai @b_ au) Kv) uE) @m_
rw[show rG D M x p cs (U cs)=mu (mu M x<|i6 D<|after kD cs) p (.lst<|(n9 kD cs).map aI)by unfold rG;rw[lO]];show PY (pJ @b_ bO) λb c O=>?_;let b1:b≠x:=λe=>by subst e;rw[hx]at O;cases O
let b2:b≠p:=λe=>by subst e;rw[bG b1,O]at u;cases u
unfold mx mu;simp[b1,b2,O]}
section
variable{ρ1:En}{t u body:TS}{o:Oc}{ta tv:TE}{a:As}
def gp(E:XK)(t:TS)(ρ:En)(M:Mu)(I:En->Mu->Prop):Prop:=∀e F H,Rel F e ρ->Wf F H M->∀b:Ends,(∀c f d g h,I c f->Go F H M g h f->Rel g d c->b.nx d h)->t b e H
section
variable{I J:En->Mu->Prop}
def rW(h:SD E t ρ M<|.nx ρ' c)(k:I ρ' c):gp E t ρ M I:=λe F H R w b q=>h e F H R w b λd f i g j=>q ρ' c d f i k g j
def xf(h:gp E t ρ M J)(k:∀ρ1 M1,J ρ1 M1->gp E u ρ1 M1 I):gp E (bQ t u) ρ M I:=λd F H R w b q=>h d F H R w _ λρ1 M1 c e f j g R1=>k ρ1 M1 j c e f R1 g.wf b λl r m s v i n p=>q _ _ _ _ _ i (g.trans n) p
def EV(h:SD E t ρ M<|.nx ρ1 M1)(k:gp E u ρ1 M1 I):gp E (bQ t u) ρ M I:=xf (J:=λr m=>r=ρ1/\m=M1) (rW h [(),()]) λr m e=>by let[rfl,rfl]:=e;show k
def G4(h:gp E t ρ M J)(k:∀ρ1 M1,J ρ1 M1->SD E u ρ1 M1 o):SD E (bQ t u) ρ M o:=λd F H R w b q=>h d F H R w _ λρ1 M1 c e f j g R1=>k ρ1 M1 j c e f R1 g.wf b<|q.after g
def EU(s:TD E tt ρ M<|.vl x M1)(v:x=Y->gp E t ρ M1 I)(O:x=ag->gp E u ρ M1 I):gp E (bu tt t u) ρ M I:=λf F H R w b q=>s f F H R w _ λc h j g l=>by let r:∀d m e n p,I d m->Go h j M1 n p m->Rel n e d->b.nx e p:=λd m e n p i y z=>q _ _ _ _ _ i (g.trans y) z;let l:c=x:=l;subst l;cases c with|true=>rw[aab ()];show v () f h j (R.up g.ff) g.wf b r|false=>rw[aaa @s_];show O () f h j (R.up g.ff) g.wf b r
def acG(I:Nat->En->Mu->Prop)(hw:WD E wi ρ M<|.vl l M1)(h0:I 0 ρ M1)(hs:∀j a ρ' f,l[j]?=B a->I j ρ' f->∃ρ1,GD g is a ρ' ρ1/\gp E body ρ1 f (I<|j+1)):gp E (fH wi g body) ρ M (I (U l)):=λσ F H R w b q=>hw σ F H R w _ λJ C H1 T G=>by show [λi m c p=>m=U l-i/\i<=U l/\∃n ρ' f,I i ρ' f/\Rel n c ρ'/\Go F H M n p f/\ba C n,[_,(),iH _,C,ρ,M1,h0,R.up T.ff,T,ba.refl _],?_];rintro i m c p ⟨rfl,hi,n,ρ',f,X,R',gg,z⟩;by_cases d:i<U l;{show .inr [G.go i n p z gg.wf.fh d,λv r=>∃s y M2,I (i+1) y M2/\Rel s v y/\Go F H M s r M2/\ba C s,λv r h=>[U l-(i+1),by omega,(),d,h],λx r hy=>?_];let[s,A,px]:=G.kW i n p x r z gg.wf.fh hy l[i]<|bF d;let[ρ1,hg,O]:=hs i l[i] ρ' f (bF d) X;let g2:=gg.trans<|Go.ext gg.wf A;show hg x c s r (R'.up A.gg) A.gh px _ λP R3 _ _=>O P s r R3 g2.wf _ λQ M4 σ4 F4 H4 i4 g4 R4=>[F4,Q,M4,i4,R4,g2.trans g4,z.trans<|A.gg.trans g4.ff]};let e:i=U l:=@O_;subst e;show .inl [G.stop _ n p z gg.wf.fh<|bD _,q ρ' f c n p X gg R']
def EN(te:TE)(c:Cl):Prop:=∀(M:Mu)(d:St)(F H:Hp),Wf F H M->∀Q:VK,(∀p b,M p=Z->Go F H M F b (mu M p c)->Q (.ref p) b)->te d H Q
def Em:EN (bJ aX)<|.lst []:=λM c F H w Q q=>[iH _,λp b=>q p _ (w.free b).2<|Go.cell w b [[],(),.nil]]
def z9:EN sQ<|.fC []:=λM c F H w Q q=>λp b=>q p _ (w.free b).2<|Go.cell w b [[],(),.nil]
def acJ(e:EN tv c)(k:∀p,M p=Z->gp E (cj K ta (tC<|.ref p) f) ρ (mu M p c) I):gp E (cj K ta tv f) ρ M I:=λd F H R w b q=>e M d F H w _ λp h j g=>k p j d F h R g.wf b λl v m x n i r s=>q _ _ _ _ _ i (g.trans r) s
def acI(e:EN te c)(k:∀p,M p=Z->gp E (b_ (tC<|.ref p) g) ρ (mu M p c) I):gp E (b_ te g) ρ M I:=λd F H R w b q=>e M d F H w _ λp f h g=>k p h d F f R g.wf b λj s l v m i n r=>q _ _ _ _ _ i (g.trans n) r
def C9(sp:Sp)(l:List As)(M:Mu)(I:Mu->Prop):Prop:=∀b F H,c9 F b l->Wf F H M->∀(Q:VK)(E:XK),(∀c e d,I c->Go F H M e d c->Q .aC d)->sp b H Q E
theorem ZE{c:aH->XK->TS}{G:aH}{i k:Nat}{l:List As}{n:Nat}{I:Mu->Prop}(h:∀E,gp E (c G E) (jY k l) M λ_ b=>I b)(hl:l.length=n):C9 (qS i k n c G) l M I:=by rw[sy];show λm F H d w Q E q=>[by rw[di d];show hl,h E _ F H (xW d) w _ λ_ b e f j i g _=>q b f j i g]
theorem acH{C:aa}{sp:Sp}{i:Nat}{N:aa->Mu->Prop}(m:∀x,M x=Z->C9 sp #[aV<|.ref x] (mu M x<|.obj C []) (N x))(k:∀x d,M x=Z->N x d->I (ρ.set i<|B<|aV<|.ref x) d):gp E (b_ (dN C sp [] E aX)<|aY i) ρ M I:=λy F H R w b q x e hx f n=>by let h:=Go.new (o:=.own x) w f;let g:upd H e (.own x) x=Z:=(by rw[cJ<|Ne.symm n];show hx);let j:=Go.cell (c:=.obj C []) (o:=.ins C e []) h.wf g [e,[],(),.nil];show m x (w.free hx).2 #[.ref x] _ _ (.cons () .nil) j.wf _ E λd p r s v=>[(),?_];let l:=(h.trans j).trans v;show q _ d _ p r (k x d (w.free hx).2 s) l<|(R.up l.ff).set i ()
end
def md(S:aa->Bool)(F H:Hp):Hp:=λb=>if S b=Y then H b else F b
def xt(S:aa->Bool)(M:Mu):Mu:=λb=>if S b=Y then Z else M b
theorem Go.acM{F H:Hp}{S:aa->Bool}(w:Wf F H M)(g:∀b,S b=Y->∃c,M b=B c):Go F H M (md S F H) H<|xt S M:=by{
let s:ba F<|md S F H:=λb u e=>by unfold md;by_cases z:S b=Y;{let[c,f]:=g b z;rw[(w.hs b c f).1]at e;cases e};rw[aaa z];show e
show [s,[λb u e=>?_,λq d h=>?_],λb u e z=>?_];{unfold md at e;by_cases z:S b=Y;{rw[aab z]at e;show e};rw[aaa z]at e;show w.fh _ _ e};{unfold xt at h;by_cases z:S q=Y;{rw[aab z]at h;cases h};rw[aaa z]at h;let[k,v,l,j]:=w.hs q d h;show [by unfold md;rw[aaa z];show k,v,l,Cl.up s j]};let i:S b≠Y:=λy=>by let[c,f]:=g b y;rw[f]at z;cases z
show [e,by unfold md;rw[aaa i],by unfold xt;rw[aaa i];show z]}
theorem akb{v:V}{S:aa->Bool}(h:ED E te ρ M<|.vl (aV v) M1)(f:∀b,S b=Y->∃c,M1 b=B c)(i:∀F H,Wf F H M1->ba F (md S F H)->a.p v (md S F H)):SD E (ah te) ρ M<|.rt a<|xt S M1:=λj F H R w d q=>h j F H R w _ λr l m g n=>by cases n;let e:=Go.acM g.wf f;show q _ _ _ (g.trans e)<|i l m g.wf e.ff
def LQ:∀{kvs:List<|Key×As},(((kvs.map λg=>if g.1=k then(g.1,v)else g).find? λf=>~~~(f.1=k')).map (·.2))=if k'=k then(if(kvs.any λg=>~~~(g.1=k))=Y then B v else Z)else fj kvs k'|[]=>by simp[fj]|q::r=>by let c:=LQ (k:=k) (k':=k') (v:=v) (kvs:=r);unfold fj at c⊢;rw[cC,jD,oa,jD];by_cases b:q.1=k;{rw[aab b];by_cases d:k'=k;{subst d;simp[b]};let h:¬(k=k'):=λe=>d e.symm;simp[b,d,h]at c⊢;show c};rw[aaa b];by_cases d:k'=k;{subst d;simp[b]at c⊢;rw[show ~~~(q.1=k')=ag from aac b,B8];show c};by_cases h:q.1=k';{subst h;simp[b]};simp[b,d,h]at c⊢;show c
def alq:fj (putD kvs k v) k'=if k'=k then B v else fj kvs k':=by unfold putD;by_cases h:(kvs.any λc=>~~~(c.1=k))=Y;{rw[aab h];let:=LQ (k:=k) (k':=k') (v:=v) (kvs:=kvs);rw[aab h]at this;show this};rw[aaa h];unfold fj;rw[WU];by_cases b:k'=k;{subst b;let:kvs.find? (λf=>~~~(f.1=k'))=Z:=(by rw[List.find?_eq_none];intro x hx d;show h<|sY.mpr [x,hx,d]);rw[this];simp};let g:¬(k=k'):=λe=>b e.symm;simp[b,g]
def ajf:U (putD kvs k v)<=U kvs+1:=by unfold putD;split<;>simp
end
def DC(M:Mu)(b:aa)(j:Nat)(f:Nat->Option As):Prop:=∃a,M b=B (.fC a)/\U a<=j/\∀p:Nat,fj a (.inl (p:Int))=f p
abbrev cR(l:List bf)(i:Nat):Prop:=(l.getD i bp).op=19
abbrev FJ(D:aH)(x a b c d e:aa):Cl:=.obj (D.ad "Loops") #[("innermost",aV<|.ref a),("back_of_loop",aV<|.ref b),("loop_of_back",aV<|.ref c),("depth",aV<|.ref d),("rounds",aV<|.ref e)]
structure LI (D:aH) (l:List bf) (M0:Mu) (x a b c d e g:aa) (r:Nat->aa) (j:Nat) (M:Mu):Prop where
 nd:List.Nodup #[x,a,b,c,d,e,g]
 hx:M x=B (FJ D x a b c d e)
 ha:M a=B (.lst<|(dc j).map λi=>er<|bP l i)
 O:DC M b j λi=>(eM l j i).map aN
 hc:DC M c j λi=>if(l.getD i bp).op=21/\i<j then(bP l i).map aN else Z
 hd:DC M d j λi=>if cR l i/\i<j then B (aN (U (a0 l i)))else Z
 he:DC M e j λi=>if cR l i/\i<j then B (aV<|.ref<|r i)else Z
 hg:M g=B (.lst<|(a0 l j).reverse.map aN)
 hr:∀i,cR l i->i<j->M (r i)=B (.lst<|(dX l j i).map aN)/\r i∉ #[x,a,b,c,d,e,g]
 inj:∀i i',cR l i->i<j->cR l i'->i'<j->r i=r i'->i=i'
 old:∀q z,M0 q=B z->M q=B z/\q∉ #[x,a,b,c,d,e,g]/\∀i,cR l i->i<j->q≠r i
structure LN (D:aH) (M0:Mu) (x a b c d e:aa) (M:Mu):Prop where
 nd:List.Nodup #[x,a,b,c,d,e]
 hx:M x=B (FJ D x a b c d e)
 ha:M a=B (.lst [])
 O:M b=B (.fC [])
 hc:M c=B (.fC [])
 hd:M d=B (.fC [])
 he:M e=B (.fC [])
 old:∀q z,M0 q=B z->M q=B z/\q∉ #[x,a,b,c,d,e]
def ft(h:mu M p c q=Z):q≠p/\M q=Z:=by unfold mu at h;by_cases e:q=p;{rw[aab e]at h;cases h};rw[aaa e]at h;show [e,h]
def MB(h:gp E t ρ M J)(k:∀ρ' b,J ρ' b->I ρ' b):gp E t ρ M I:=λc F H R w a q=>h c F H R w a λρ' b d f j i g e=>q _ _ _ _ _ (k _ _ i) g e
def xa(d:EN b c)(e:ρ[0]?=B (B<|aV<|.ref x))(g:(~~~(k∈qr)&&~~~(f∈attrL))=Y)(hl:fs.length<1000):gp E (cj D.K (ay 0) b f) ρ (mu M x<|.obj (D.ad k) fs) λρ' i=>ρ'=ρ/\∃p,p≠x/\M p=Z/\i=mu (mu M p c) x (.obj (D.ad k)<|ph f (aV<|.ref p) fs):=acJ d λp j=>by let[a,h]:=ft j;show rW (uS T aM (af e) (by rw[bG<|Ne.symm a];show bO) g hl) [(),p,a,h,by rw[agr<|Ne.symm a,gu]]
def c6(h:M p=Z)(k:M q=B z):q≠p:=λe=>by subst e;rw[h]at k;cases k
def ac4(hx:M x=Z):C9 (Qm D) #[aV<|.ref x] (mu M x<|.obj (D.ad "Loops") []) λP=>∃a b c d e,LN D M x a b c d e P:=by show ZE @f_ ();show xf (xa T Em () @k_<|cX ()) ?_;rintro _ _ ⟨rfl,a,i,Q,rfl⟩;show xf (xa T z9 () @k_<|cX ()) ?_;rintro _ _ ⟨rfl,b,j,O,rfl⟩;show xf (xa T z9 () @k_<|cX ()) ?_;rintro _ _ ⟨rfl,c,l,h,rfl⟩;show xf (xa T z9 () @k_<|cX ()) ?_;rintro _ _ ⟨rfl,d,m,g,rfl⟩;show MB (xa T z9 () @k_<|cX ()) ?_;rintro _ _ ⟨rfl,e,n,f,rfl⟩;let[o,O]:=ft O;let[p,h]:=ft h;let[r,h]:=ft h;let[s,g]:=ft g;let[t,g]:=ft g;let[u,g]:=ft g;let[v,f]:=ft f;let[w,f]:=ft f;let[y,f]:=ft f;let[A,f]:=ft f;show [a,b,c,d,e,by simp[Ne.symm i,Ne.symm j,Ne.symm l,Ne.symm m,Ne.symm n,Ne.symm o,Ne.symm r,Ne.symm u,Ne.symm A,Ne.symm p,Ne.symm t,Ne.symm y,Ne.symm s,Ne.symm w,Ne.symm v],bO.trans (),(bG i).trans<|(bG<|Ne.symm A).trans<|(bG<|Ne.symm u).trans<|(bG<|Ne.symm r).trans<|(bG<|Ne.symm o).trans bO,(bG j).trans<|(bG<|Ne.symm y).trans<|(bG<|Ne.symm t).trans<|(bG<|Ne.symm p).trans bO,(bG l).trans<|(bG<|Ne.symm w).trans<|(bG<|Ne.symm s).trans bO,(bG m).trans<|(bG<|Ne.symm v).trans bO,(bG n).trans bO,λq z k=>?_];let C:=c6 hx k;let F:=c6 Q k;let G:=c6 O k;let H:=c6 h k;let I:=c6 g k;let J:=c6 f k;show [(bG C).trans<|(bG J).trans<|(bG I).trans<|(bG H).trans<|(bG G).trans<|(bG F).trans k,by simp[C,F,G,H,I,J]]
def ui(h:cR l i):i<U l:=by by_cases z:i<U l;{show z};exfalso;unfold cR at h;rw[cV,iF @o_]at h;cases h
theorem zX{G:Hp}{b:aa}{aE:List<|Key×V}{kvs:List<|Key×As}{f c:Nat->Option As}(O:G b=B (.dK aE))(fs:fA G aE kvs)(e:∀p:Nat,fj kvs (.inl (p:Int))=c p)(g:∀p y,f p=B y->∃a,c p=B a/\∀u,a.p u G->y.p u G)(h:∀p,f p=Z->c p=Z):(rC f).p (.ref b) G:=by show [b,aE,(),O,λp=>[λy d=>?_,λd=>?_]];{let[a,i,j]:=g p y d;let[u,u1,u2]:=(pP fs (k:=(.inl (p:Int):Key))).1 a (by rw[<-i,<-e p];rfl);show [u,u1,j u u2]};show(pP fs (k:=(.inl (p:Int):Key))).2<|by rw[<-h p d,<-e p];rfl
def nn(h:l.Nodup)(i j:Nat)(k:(mU (i+1) (U l)&&(mU (j+1) (U l)&&!(i==j)))=Y):l.getD i 0≠l.getD j 0:=by(rw[a6,a6,iX]at k;let a:=cX k.1;let b:=cX k.2.1;rw[cV,cV,bF a,bF b];rcases Nat.lt_or_gt_of_ne (aaR.mp k.2.2)with z|z);{show b4.mp h i j a b z};show Ne.symm (b4.mp h j i b a z)
def nm(h:q∉l)(i:Nat)(k:mU (i+1) (U l)=Y):q≠l.getD i 0:=by let k:=cX k;rw[cV,bF k];show λe=>h<|e▸lN k
theorem amj{α a b:Type}{R:α->a->Prop}{c:α->b->Prop}:∀{aE:List α}{xs:List a}{ys:List b},Paired R aE xs->Paired (λx y=>∀g,R g x->c g y) xs ys->Paired c aE ys:=by intro aE xs ys h;induction h generalizing ys with|nil=>intro k;cases k;show .nil|cons h t d=>intro k;cases k with|cons k s=>show .cons (k _ h) (d s)
theorem afg{l:List bf}{t:Mu}{x a b c d e g:aa}{r:Nat->aa}(I:LI D l t x a b c d e g r l.length M)(hr:ρ[1]?=B (B<|aV<|.ref x)):SD E (ah<|ay 1) ρ M<|.rt (eH D l) t:=by{
refine_lift let S:aa->Bool:=λq=>~~~(q∈ #[x,a,b,c,d,e])||(dc (U l)).any λi=>~~~(cR l i)&&~~~(q=r i);?_
let P:∀i,cR l i->S (r i)=Y:=λi f=>by change (_||_)=Y;rw[j2];show .inr<|sY.mpr [i,gk.mpr<|ui f,by rw[aae f,aae ()];rfl]
let m:∀q,q∈ #[x,a,b,c,d,e]->S q=Y:=λq hq=>by change (_||_)=Y;rw[aae hq];rfl
let[kb,A,b2,Q]:=I.O;let[kc,C,c2,T]:=I.hc;let[h9,G,d2,X]:=I.hd;let[ke,J,e2,e3]:=I.he;let hS:∀q,S q=Y->∃z,M q=B z:=λq hq=>by{
let hq:(_||_)=Y:=hq;rw[j2]at hq;rcases hq with hq|hq
.let hq:=aaL hq;simp only[bh,fZ,aaO]at hq;rcases hq with h|h|h|h|h|h<;>rw[h]
 {show [_,I.hx]};{show [_,I.ha]};{show [_,A]};{show [_,C]};{show [_,G]};show [_,J]
let[i,_,f]:=sY.mp hq;simp only[a6,aaK]at f;show [_,f.2▸(I.hr i f.1<|ui f.1).1]}
show PY (akb (v:=.ref x) (S:=S) (af hr) hS λF H w s=>?_) ?_
.let j:∀{q z},M q=B z->S q=Y->∃o,md S F H q=B o/\z.ok (md S F H) o:=λ{q z} hq hs=>by let[_,o,ho,k]:=w.hs q z hq;show [o,by unfold md;rw[aab hs];show ho,Cl.up s k]
 let[_,xo,dx,aE,rfl,fs]:=j I.hx<|m _ @s_;let[_,ao,va,rfl,fa]:=j I.ha<|m _ @s_;let[_,bo,gb,rfl,fb]:=j A<|m _ @s_;let[_,co,gc,rfl,fc]:=j C<|m _ @s_;let[_,n,gd,rfl,fd]:=j G<|m _ @s_;let[_,eo,ge,rfl,fe]:=j J<|m _ @s_;show [x,dx,aE,(),xo,amj fs<|.cons (λg h=>[h.1,?_])<|.cons (λg h=>[h.1,?_])<|.cons (λg h=>[h.1,?_])<|.cons (λg h=>[h.1,?_])<|.cons (λg h=>[h.1,?_]) .nil];{rw[show _=V.ref a from h.2];show [a,va,(),ao,fa]};{rw[show _=V.ref b from h.2];show zX bo fb Q (λp y h=>[y,h,λ_ k=>k]) λp h=>h};{rw[show _=V.ref c from h.2];show zX co fc T (λp y h=>[y,h,λ_ k=>k]) λp h=>h};{rw[show _=V.ref d from h.2];show zX n fd X (λp y h=>[y,?_,λ_ k=>k]) λp h=>?_;{by_cases z:cR l p;{rw[aab [z,ui z]];rw[aab z]at h;show h};rw[aaa z]at h;cases h};by_cases z:cR l p;{rw[aab z]at h;cases h};show aaa λy=>z y.1};rw[show _=V.ref e from h.2];show zX eo fe e3 (λp y h=>?_) λp h=>?_;{by_cases z:cR l p;{rw[aab z]at h;cases h;show [_,aab [z,ui z],λu k=>?_];rw[show u=V.ref (r p)from k];let[_,ro,vr,rfl,fr]:=j (I.hr p z<|ui z).1<|P p z;show [r p,vr,(),ro,fr]};rw[aaa z]at h;cases h};by_cases z:cR l p;{rw[aab z]at h;cases h};show aaa λy=>z y.1
intro q z hq;let[o1,o2,o3]:=I.old q z hq;let:¬S q=Y:=λy=>by(let y:(_||_)=Y:=y;rw[j2]at y;rcases y with y|y);{let y:=aaL y;show o2 ?_;simp only[bh,fZ,aaO]at y⊢;grind};let[i,_,f]:=sY.mp y;simp only[a6,aaK]at f;show o3 i f.1 (ui f.1) f.2
unfold xt;rw[aaa this];show o1}
section
variable{M':Mu}{b:aa}{j k:Nat}{f f':Nat->Option As}
theorem lr(h:DC M b j f)(e:M' b=M b)(q:∀p,f p=f' p):DC M' b (j+1) f':=by let[a,c,g,d]:=h;show [a,e.trans c,by lia,λp=>(d p).trans<|q p]
def zS(c:U kvs<=j)(a:∀p:Nat,fj kvs (.inl (p:Int))=f p)(e:M' b=B (.fC<|putD kvs (.inl (k:Int)) v))(q:∀p,f' p=if p=k then B v else f p):DC M' b (j+1) f':=by show [_,e,cu ajf @o_,λp=>?_];rw[alq,q p,a p];by_cases z:p=k;{subst z;simp};let:¬((.inl (p:Int):Key)=.inl (k:Int)):=λy=>z (by injection y with y;lia);rw[aaa this,aaa z]
section
variable{l:List bf}{i:Nat}
def acR(h:(l.getD j bp).op≠21\/bP l j=Z):kL l i j=ag:=by(unfold kL;rcases h with h|h);{rw[show((l.getD j bp).op==21)=ag from aaR.mpr h];simp};let h:(a0 l j).head?=Z:=h;rw[h];simp
def acT(h:(l.getD j bp).op≠20\/bP l j=Z):mh l i j=ag:=by(unfold mh;rcases h with h|h);{rw[show((l.getD j bp).op==20)=ag from aaR.mpr h];simp};let h:(a0 l j).head?=Z:=h;rw[h];simp
theorem DF(h:(l.getD j bp).op≠21\/bP l j=Z):eM l (j+1) i=eM l j i:=by rw[DG,acR h];simp
theorem Bp(h:(l.getD j bp).op≠20\/bP l j=Z):dX l (j+1) i=dX l j i:=by rw[PK,acT h];simp
def BN:a0 l (j+1)=gf (l.getD j bp).op j (a0 l j):=()
theorem Sg(a:(l.getD j bp).op≠19)(c:(l.getD j bp).op≠21\/bP l j=Z):a0 l (j+1)=a0 l j:=by(rw[BN];unfold gf;rw[aaa a];rcases c with h|h);{rw[aaa h]};let h:(a0 l j).head?=Z:=h;let:a0 l j=[]:=List.head?_eq_none_iff.mp h;rw[this];simp
end
variable{l:List bf}{M0:Mu}{x a c d e g:aa}{r:Nat->aa}
theorem Bo:((dc<|j+1).map λi=>er<|bP l i)=((dc j).map λi=>er<|bP l i)++#[er<|bP l j]:=by rw[Je,eV];rfl
theorem nI{i:Nat}{P:Nat->Prop}(h:¬P j):(P i/\i<j+1)=(P i/\i<j):=aaI [λz=>[z.1,by let:i≠j:=λy=>h<|y▸z.1;lia],λz=>[z.1,by lia]]
theorem afo(I:LI D l M0 x a b c d e g r j M)(s:¬cR l j)(t:(l.getD j bp).op≠21\/bP l j=Z)(A:(l.getD j bp).op≠20\/bP l j=Z):LI D l M0 x a b c d e g r (j+1)<|mu M a<|.lst<|((dc j).map λi=>er<|bP l i)++#[er<|bP l j]:=by{
let n:=nn I.nd;let o:∀q,q≠a->mu M a (.lst<|((dc j).map λi=>er<|bP l i)++#[er<|bP l j]) q=M q:=λq h=>bG h;let m:∀i,cR l i->i<j+1->i<j:=λi z y=>(nI (P:=cR l) s▸([z,y]:cR l i/\i<j+1):cR l i/\i<j).2;show [I.nd,?_,?_,lr I.O (o _<|n 2 1 rfl) λp=>?_,lr I.hc (o _<|n 3 1 rfl) λp=>?_,lr I.hd (o _<|n 4 1 rfl) λp=>?_,lr I.he (o _<|n 5 1 rfl) λp=>?_,?_,?_,?_,?_];{rw[o x<|n 0 1 rfl];show I.hx};{rw[bO,Bo]};{change (eM l j p).map aN=(eM l (j+1) p).map aN;rw[DF t]}
.change (if _ then _ else _)=if _ then _ else _
 by_cases z:p=j;{(subst z;rw[aaa @o_];rcases t with h|h);{rw[aaa λy=>h y.1]};rw[h];simp};let:((l.getD p bp).op=21/\p<j+1)=((l.getD p bp).op=21/\p<j):=aaI [λy=>[y.1,by lia],λy=>[y.1,by lia]];simp only[this]
.change (if _ then _ else _)=if _ then _ else _
 simp only[nI (P:=cR l) s]
.change (if _ then _ else _)=if _ then _ else _
 simp only[nI (P:=cR l) s]
.rw[o g<|n 6 1 rfl,Sg s t];show I.hg
.intro i z y;let[q1,q2]:=I.hr i z<|m i z y;show [?_,q2];rw[o _ λw=>q2<|by rw[w];simp,Bp A];show q1
.show λi u z y v C w=>I.inj i u z (m i z y) v (m u v C) w
intro q z F;let[G,o2,o3]:=I.old q z F;show [by rw[o _ λw=>o2<|by rw[w];simp];show G,o2,λi z y=>o3 i z<|m i z y]}
end
section
variable{M':Mu}{j k:Nat}
variable{l:List bf}{M0:Mu}{x a b c d e g:aa}{r:Nat->aa}
abbrev me(l:List bf)(j:Nat):Cl:=.lst<|((dc j).map λi=>er<|bP l i)++#[er<|bP l j]
def uh(z:bP l j=B h):h∈a0 l j:=Xf z
def aj5:dX l j j=[]:=by unfold dX;rw[WT];intro i f y;unfold mh at y;simp only[a6,aaF]at y;let:=lK l i j<|Xf y.2;let:=gk.mp f;lia
def afn(I:LI D l M0 x a b c d e g r j M)(m:cR l j)(h:M p=Z)(d1:M d=B (.fC f))(d2:f.length<=j)(d3:∀q:Nat,fj f (.inl (q:Int))=if cR l q/\q<j then B (aN (a0 l q).length)else Z)(e1:M e=B (.fC o))(e2:o.length<=j)(e3:∀q:Nat,fj o (.inl (q:Int))=if cR l q/\q<j then B (aV<|.ref<|r q)else Z):LI D l M0 x a b c d e g (λi=>if i=j then p else r i) (j+1) (mu (mu (mu (mu (mu M a<|me l j) d<|.fC<|putD f (.inl (j:Int))<|aN (a0 l j).length) p<|.lst []) e<|.fC<|putD o (.inl (j:Int))<|aV<|.ref p) g<|.lst<|(a0 l j).reverse.map aN++#[aN j]):=by{
let n:=nn I.nd;let hx:=I.hx;let ha:=I.ha;let hg:=I.hg;let[kb,b1,b2,b3]:=I.O;let[kc,c1,c2,c3]:=I.hc;let P:=Ne.symm (c6 h hx);let Q:=Ne.symm (c6 h ha);let T:=Ne.symm (c6 h b1);let X:=Ne.symm (c6 h c1);let pd:=Ne.symm (c6 h d1);let pe:=Ne.symm (c6 h e1);let pg:=Ne.symm (c6 h hg);let s:∀q,q≠a->q≠d->q≠p->q≠e->q≠g->(mu (mu (mu (mu (mu M a<|me l j) d<|.fC<|putD f (.inl (j:Int))<|aN (a0 l j).length) p<|.lst []) e<|.fC<|putD o (.inl (j:Int))<|aV<|.ref p) g<|.lst<|(a0 l j).reverse.map aN++#[aN j]) q=M q:=λq z1 z2 z3 z4 z5=>by rw[bG z5,bG z4,bG z3,bG z2,bG z1]
let C:(l.getD j bp).op≠21\/bP l j=Z:=.inl (by let:(l.getD j bp).op=19:=m;lia);let t:(l.getD j bp).op≠20\/bP l j=Z:=.inl (by let:(l.getD j bp).op=19:=m;lia);let u:∀q,q∉ #[x,a,b,c,d,e,g]->q≠a/\q≠d/\q≠e/\q≠g:=λq z=>[nm z 1 rfl,nm z 4 rfl,nm z 5 rfl,nm z 6 rfl];show [I.nd,?_,?_,lr I.O (s _ (n 2 1 rfl) (n 2 4 rfl) (Ne.symm T) (n 2 5 rfl)<|n 2 6 rfl) λq=>?_,lr I.hc (s _ (n 3 1 rfl) (n 3 4 rfl) (Ne.symm X) (n 3 5 rfl)<|n 3 6 rfl) λq=>?_,zS d2 d3 ((bG<|n 4 6 rfl).trans<|(bG<|n 4 5 rfl).trans<|(bG<|Ne.symm pd).trans bO) λq=>?_,zS e2 e3 ((bG<|n 5 6 rfl).trans bO) λq=>?_,?_,?_,?_,?_];{rw[s x (n 0 1 rfl) (n 0 4 rfl) (Ne.symm P) (n 0 5 rfl)<|n 0 6 rfl];show hx};{show(bG<|n 1 6 rfl).trans<|(bG<|n 1 5 rfl).trans<|(bG<|Ne.symm Q).trans<|(bG<|n 1 4 rfl).trans<|bO.trans<|by rw[Bo]};{change (eM l j q).map aN=(eM l (j+1) q).map aN;rw[DF C]}
.change (if _ then _ else _)=if _ then _ else _
 by_cases z:q=j;{subst z;let:(l.getD q bp).op=19:=m;rw[aaa @o_,aaa @o_]};let:((l.getD q bp).op=21/\q<j+1)=((l.getD q bp).op=21/\q<j):=aaI [λy=>[y.1,by lia],λy=>[y.1,by lia]];simp only[this]
.change (if _ then _ else _)=_;by_cases z:q=j;{subst z;rw[aab [m,by lia],aab ()]};let:(cR l q/\q<j+1)=(cR l q/\q<j):=aaI [λy=>[y.1,by lia],λy=>[y.1,by lia]];rw[aaa z];simp only[this]
.change (if _ then _ else _)=_;by_cases z:q=j;{subst z;rw[aab [m,by lia],aab (),aab ()]};let:(cR l q/\q<j+1)=(cR l q/\q<j):=aaI [λy=>[y.1,by lia],λy=>[y.1,by lia]];rw[aaa z];simp only[this,aaa z]
.rw[bO,BN];unfold gf;rw[aab m,Jf,eV];rfl
.intro i z y;by_cases w:i=j;{subst w;rw[aab (),Bp t,aj5];show [by rw[bG pg,bG pe,bO];rfl,?_];simp only[bh,fZ,aaO,not_or];show [P,Q,T,X,pd,pe,pg]};rw[aaa w];let[q1,q2]:=I.hr i z @o_;let[F,G,et,gO]:=u _ q2;show [?_,q2];rw[s _ F G (λy=>by rw[y,h]at q1;cases q1) et gO,Bp t];show q1
.intro i v z y z' y' w;let pr:∀i,cR l i->i<j->r i≠p:=λi z y w=>by let:=(I.hr i z y).1;rw[w,h]at this;cases this
 by_cases H:i=j;{by_cases A:v=j;{lia};rw[aab H,aaa A]at w;show absurd w.symm (pr v z' @o_)};by_cases A:v=j;{rw[aaa H,aab A]at w;show absurd w<|pr i z @o_};rw[aaa H,aaa A]at w;show I.inj i v z @o_ z' @o_ w
intro q z hq;let[J,o2,o3]:=I.old q z hq;let[F,G,et,gO]:=u _ o2;let n5:q≠p:=λy=>by rw[y,h]at J;cases J
show [by rw[s _ F G n5 et gO];show J,o2,λi z y=>?_];by_cases w:i=j;{rw[aab w];show n5};rw[aaa w];show o3 i z @o_}
def acQ(m:(l.getD j bp).op=21)(f:bP l j=B h):kL l i j= ~~~(i=h):=by let lt:=lK l j h<|uh f;let f:(a0 l j).head?=B h:=f;unfold kL;rw[m,f,cb];simp;lia
def acS(m:(l.getD j bp).op=20)(f:bP l j=B h):mh l i j= ~~~(i=h):=by let f:(a0 l j).head?=B h:=f;unfold mh;rw[m,f,cb];simp;lia
def afm(I:LI D l M0 x a b c d e g r j M)(v:(l.getD j bp).op=21)(A:bP l j=B h)(b1:M b=B (.fC m))(Q:U m<=j)(T:∀q:Nat,fj m (.inl (q:Int))=(eM l j q).map aN)(c1:M c=B (.fC o))(X:U o<=j)(c3:∀q:Nat,fj o (.inl (q:Int))=if(l.getD q bp).op=21/\q<j then(bP l q).map aN else Z):LI D l M0 x a b c d e g r (j+1) (mu (mu (mu (mu M a<|me l j) b<|.fC<|putD m (.inl (h:Int))<|aN j) c<|.fC<|putD o (.inl (j:Int))<|aN h) g<|.lst ((a0 l j).reverse.map aN).dropLast):=by{
let n:=nn I.nd;let u:¬cR l j:=λz=>by let z:(l.getD j bp).op=19:=z;lia
let C:(l.getD j bp).op≠20\/bP l j=Z:=.inl @o_;let f:∀i,cR l i->i<j+1->i<j:=λi z y=>(nI (P:=cR l) u▸([z,y]:cR l i/\i<j+1):cR l i/\i<j).2;let p:∀q,q≠a->q≠b->q≠c->q≠g->(mu (mu (mu (mu M a<|me l j) b<|.fC<|putD m (.inl (h:Int))<|aN j) c<|.fC<|putD o (.inl (j:Int))<|aN h) g<|.lst ((a0 l j).reverse.map aN).dropLast) q=M q:=λq z1 z2 z3 z4=>by rw[bG z4,bG z3,bG z2,bG z1]
let s:∀q,q∉ #[x,a,b,c,d,e,g]->q≠a/\q≠b/\q≠c/\q≠g:=λq z=>[nm z 1 rfl,nm z 2 rfl,nm z 3 rfl,nm z 6 rfl];show [I.nd,?_,?_,zS Q T ((bG<|n 2 6 rfl).trans<|(bG<|n 2 3 rfl).trans bO) λq=>?_,zS X c3 ((bG<|n 3 6 rfl).trans bO) λq=>?_,lr I.hd (p _ (n 4 1 rfl) (n 4 2 rfl) (n 4 3 rfl)<|n 4 6 rfl) λq=>?_,lr I.he (p _ (n 5 1 rfl) (n 5 2 rfl) (n 5 3 rfl)<|n 5 6 rfl) λq=>?_,?_,?_,?_,?_];{rw[p x (n 0 1 rfl) (n 0 2 rfl) (n 0 3 rfl)<|n 0 6 rfl];show I.hx};{show(bG<|n 1 6 rfl).trans<|(bG<|n 1 3 rfl).trans<|(bG<|n 1 2 rfl).trans<|bO.trans<|by rw[Bo]};{change (eM l (j+1) q).map aN=_;rw[DG,acQ v A];by_cases z:q=h;{subst z;rw[aab (),Sh l j q<|uh A,aae ()];rfl};rw[aaa z,aac z];simp};{change (if _ then _ else _)=_;by_cases z:q=j;{subst z;rw[aab [v,by lia],aab (),A];rfl};let:((l.getD q bp).op=21/\q<j+1)=((l.getD q bp).op=21/\q<j):=aaI [λy=>[y.1,by lia],λy=>[y.1,by lia]];rw[aaa z];simp only[this]}
.change (if _ then _ else _)=if _ then _ else _
 simp only[nI (P:=cR l) u]
.change (if _ then _ else _)=if _ then _ else _
 simp only[nI (P:=cR l) u]
.rw[bO,BN];unfold gf;rw[aaa u,aab v];congr 2;cases a0 l j with|nil=>rfl|cons y t=>simp
.intro i z y;let[q1,q2]:=I.hr i z<|f i z y;let[F,G,et,gO]:=s _ q2;show [?_,q2];rw[p _ F G et gO,Bp C];show q1
.show λi H z y J y' w=>I.inj i H z (f i z y) J (f H J y') w
intro q z hq;let[o1,o2,o3]:=I.old q z hq;let[F,G,et,gO]:=s _ o2;show [by rw[p _ F G et gO];show o1,o2,λi z y=>o3 i z<|f i z y]}
def afp(I:LI D l M0 x a b c d e g r j M)(G:(l.getD j bp).op=20)(t:bP l j=B h):LI D l M0 x a b c d e g r (j+1) (mu (mu M a<|me l j) (r h)<|.lst<|(dX l j h).map aN++#[aN j]):=by{
let s:¬cR l j:=λz=>by let z:(l.getD j bp).op=19:=z;lia
let u:cR l h:=sP l j h<|uh t;let lt:=lK l j h<|uh t;let n:=nn I.nd;let f:∀i,cR l i->i<j+1->i<j:=λi z y=>(nI (P:=cR l) s▸([z,y]:cR l i/\i<j+1):cR l i/\i<j).2;let[q1,q2]:=I.hr h u lt;let m:=λi k=>Ne.symm (nm q2 i k);let o:∀q,q≠a->q≠r h->(mu (mu M a<|me l j) (r h)<|.lst<|(dX l j h).map aN++#[aN j]) q=M q:=λq H J=>by rw[bG J,bG H]
let p:(l.getD j bp).op≠21\/bP l j=Z:=.inl @o_;show [I.nd,?_,?_,lr I.O (o _ (n 2 1 rfl)<|m 2 rfl) λq=>?_,lr I.hc (o _ (n 3 1 rfl)<|m 3 rfl) λq=>?_,lr I.hd (o _ (n 4 1 rfl)<|m 4 rfl) λq=>?_,lr I.he (o _ (n 5 1 rfl)<|m 5 rfl) λq=>?_,?_,?_,?_,?_];{rw[o x (n 0 1 rfl)<|m 0 rfl];show I.hx};{show(bG<|m 1 rfl).trans<|bO.trans<|by rw[Bo]};{change (eM l j q).map aN=(eM l (j+1) q).map aN;rw[DF p]}
.change (if _ then _ else _)=if _ then _ else _
 let:((l.getD q bp).op=21/\q<j+1)=((l.getD q bp).op=21/\q<j):=nI (P:=λq=>(l.getD q bp).op=21) @o_;simp only[this]
.change (if _ then _ else _)=if _ then _ else _
 simp only[nI (P:=cR l) s]
.change (if _ then _ else _)=if _ then _ else _
 simp only[nI (P:=cR l) s]
.rw[o g (n 6 1 rfl)<|m 6 rfl,Sg s p];show I.hg
.intro i z y;let y:=f i z y;let[Q,A]:=I.hr i z y;show [?_,A];rw[PK,acS G t];by_cases w:i=h;{subst w;rw[bO,aae (),aab (),eV];rfl};rw[o _ (λv=>A<|by rw[v];simp) λv=>w<|I.inj i h z y u lt v,aac w];simpa using Q
.show λi C z y F T w=>I.inj i C z (f i z y) F (f C F T) w
intro q z X;let[o1,o2,o3]:=I.old q z X;show [by rw[o _ (λw=>o2<|by rw[w];simp)<|o3 h u lt];show o1,o2,λi z y=>o3 i z<|f i z y]}
end
section
variable{j:Nat}{l:List bf}{a:As}
theorem OO{α d:Type}{R:α->d->Prop}{l:List d}{a:d}:∀{us:List α},Paired R us (l++#[a])->∃f v,us=f++#[v]/\R v a:=by{
induction l with
|nil=>intro us h;cases h with|cons r t=>cases t;show [[],_,(),r]
|cons b l g=>intro us h;cases h with|cons r t=>let[c,v,e,q]:=g t;show [_::c,v,by rw[e];rfl,q]}
theorem agV{x:aa}{m:List As}{i:Int}(h:M x=B (.lst<|m++#[a]))(e:i= -1):bW E (fg D) (aV<|.ref x) (aI i) M$ a:=λv y F H w c d Q q=>by cases c;cases d;let[_,o,f,n,rfl,k]:=w.hs x _ h;let[b,v,rfl,g]:=OO k;show .inl<|.inl [x,_,i,v,(),(),bE.of f,by rw[e];show YX b v,q.fin w g]
def agT(h:M x=B (.fC kvs))(b:fj kvs k=B a):bW E (fg D) (aV<|.ref x) (aV<|kV k) M$ a:=λv y F H w c d Q q=>by cases c;cases d;let[_,o,e,aE,rfl,fs]:=w.hs x _ h;let[u,f,g]:=(pP fs).1 a b;show .inr [x,u,(),.inl<|f▸k9.k e,q.fin w g]
def acK(e:EN te c)(k:∀p,M p=Z->gp E (bQ (b_ (tC<|.ref p) g) u) ρ (mu M p c) I):gp E (bQ (b_ te g) u) ρ M I:=λd F H R w b q=>e M d F H w _ λp f h g=>k p h d F f R g.wf b λm t n v o i r s=>q _ _ _ _ _ i (g.trans r) s
abbrev LH(D:aH)(l:List bf)(x g:aa)(b c d:Option As):En:=#[B<|aL<|l.map<|bb D,B<|aV<|.ref x,B<|aV<|.ref g,b,c,d]
inductive zr (D:aH) (l:List bf) (M0:Mu) (j:Nat):En->Mu->Prop
 |mk {x a b c d e g:aa} {r:Nat->aa} {v3 v4 v5:Option As} {M:Mu}:LI D l M0 x a b c d e g r j M->zr D l M0 j (LH D l x g v3 v4 v5) M
inductive aa5 (D:aH) (l:List bf) (M0:Mu):En->Mu->Prop
 |mk {x a b c d e:aa} {M:Mu}:LN D M0 x a b c d e M->aa5 D l M0 #[B<|aL<|l.map<|bb D,B<|aV<|.ref x,Z,Z,Z,Z] M
def abP(b:M g=B (.lst<|(a0 l j).reverse.map aN)):ED E (qM (tB<|aq (ek) (cz (gP D.K)<|aJ (ay 2) aX)<|tC<|.int 0) (aq (fg D) (ay 2)<|iU jc<|tC<|.int 1)<|tC .aC) (LH D l x g c d f) M$ er<|bP l j:=by unfold bP;cases e:a0 l j with|nil=>rw[e]at b;show zP (x:=ag) (a9<|ax (dm (ai @b_ au)<|wx b) aM ia) @j_ λ_=>aM|cons h t=>rw[e,Jf,eV]at b;show zP (a9<|ax (dm (ai @b_ au)<|wx b) aM ia) (λ_=>ax @b_ @e_<|agV b @r_) λz=>?_;exfalso;let:=abw z;simp at this
def Se:∀k,U (a0 l k)<=k|0=>bD _|k+1=>by let:=Se k;rw[BN];unfold gf;split;{rw[bR];lia};split;{rw[kY];lia};lia
theorem afq{n M1:Mu}{x a b c d e g:aa}(I:LN D n x a b c d e M1)(f:M1 g=Z):LI D l n x a b c d e g (λ_=>0) 0<|mu M1 g<|.lst []:=by let nd:=I.nd;let[_,hx,o,O,r,s,t,old]:=I;let u:=c6 f hx;let v:=c6 f o;let w:=c6 f O;let A:=c6 f r;let gd:=c6 f s;let C:=c6 f t;show [?_,by rw[bG u];show hx,by rw[bG v];show o,[[],by rw[bG w];show O,bD _,λp=>rfl],[[],by rw[bG A];show r,bD _,λp=>(aaa @O_).symm],[[],by rw[bG gd];show s,bD _,λp=>(aaa @O_).symm],[[],by rw[bG C];show t,bD _,λp=>(aaa @O_).symm],bO,λi _ z=>by omega,λi H _ z=>by omega,λq z G=>?_];{show List.nodup_append.mpr [nd,mR.mpr [fZ,List.nodup_nil],by simp[u,v,w,A,gd,C]]};(let[m,o2]:=old q z G;let F:q≠g:=λy=>by rw[y,f]at m;cases m);show [(bG F).trans m,λh=>(iZ.mp (h:q∈ #[x,a,b,c,d,e]++#[g])).elim o2 λh=>F<|yJ.mp h,λi _ z=>by omega]
theorem adI(T:Tk D):jH D:=λM l hl=>by{
let hs:=eN;lk;show G4 (J:=aa5 D l M) (acH (λx hx=>ac4 T hx) λx m hx h=>?_) ?_;{let[a,b,c,d,e,h]:=h;show .mk h};rintro _ M1 @⟨x,a,b,c,d,e,_,I⟩;show G4 (J:=zr D l M 0) (acI Em λg hg=>rW (jU aM)<|.mk<|afq I hg) ?_;intro ρ2 M2 I2;show G4 (J:=zr D l M (U l)) ?_ ?_
.obtain⟨I⟩:=I2;show MB (J:=zr D l M (U (i8 D.K<|l.map<|bb D))) (acG (is:=#[3,4]) (zr D l M) (qO @a_) (.mk I) ?_) λρ' m h=>by rwa[rL,aP]at h
 clear I;rintro j q ρ' m hq @⟨x,a,b,c,d,e,g,r,v3,v4,v5,_,I⟩;let[q',s,rfl]:=lx hq;let hj:j<U l:=by let:=(el.mp s).1;rwa[aP]at this
 rw[du,iy hj]at s;cases s;generalize C:l.getD j bp=o;let n:=nn I.nd;let Mz:U (a0 l j)<=j:=Se j;show [_,iu,?_];show EV (jU<|abP I.hg) ?_;show EV (hB<|i7 () (gJ T @b_ I.hx () @k_) I.ha (ai @b_ au)<|kM I.ha<|by rw[aP,j4];lia) ?_;let i:mu m a (me l j) x=B (FJ D x a b c d e):=(bG<|n 0 1 rfl).trans I.hx;show EU (x:= ~~~(o.op=19)) (cN @t_<|by simp only[mO]) (λz=>?_) λz=>?_;{let z:o.op=19:=aaL z;let zL:cR l j:=(by change (l.getD j bp).op=19;rw[C];show z);let[kdd,d1,d2,d3]:=I.hd;let[ke,F,e2,e3]:=I.he;let u:mu m a (me l j) g=B (.lst<|(a0 l j).reverse.map aN):=(bG<|n 6 1 rfl).trans I.hg;let hd1:mu m a (me l j) d=B (.fC kdd):=(bG<|n 4 1 rfl).trans d1;show EV (Bs (k:=.inl (j:Int)) (bI (b:=aN (U (a0 l j))) (dm (ai @b_ au)<|wx u)<|by rw[aP,W7]) (gJ T @b_ i () @k_) @b_ hd1 @o_) ?_;show acK Em λp hp=>?_;let[p1,p2]:=ft hp;let[p3,Q]:=ft p2;let px:=c6 Q I.hx;let pe:=c6 Q F;let pg:=c6 Q I.hg;show rW (bg (Bs (k:=.inl (j:Int)) aM (gJ T @b_ ((bG px).trans<|(bG<|n 0 4 rfl).trans i) () @k_) @b_ ((bG pe).trans<|(bG<|n 5 4 rfl).trans<|(bG<|n 5 1 rfl).trans F) @o_)<|hB<|i7 () @b_ ((bG<|n 6 5 rfl).trans<|(bG pg).trans<|(bG<|n 6 4 rfl).trans u) (ai @b_ au)<|kM ((bG<|n 6 5 rfl).trans<|(bG pg).trans<|(bG<|n 6 4 rfl).trans u)<|by rw[aP,W7];lia) ?_;show(.mk<|afn I zL Q d1 d2 d3 F e2 e3)};let z:o.op≠19:=abw z;let zL:¬cR l j:=by change¬(l.getD j bp).op=19;rw[C];show z
 show EU (x:= ~~~(o.op=21)&&(bP l j).isSome) (cN @t_<|by simp only[mM]) (λy=>?_) λy=>?_;{rw[a6]at y;let y1:(l.getD j bp).op=21:=(by rw[C];show aaL y.1);let[h,f]:=rg.mp y.2;let X:er (bP l j)=aN h:=(by rw[f];rfl);let[kb,b1,b2,b3]:=I.O;let[kc,G,c2,c3]:=I.hc;let H:∀{G c2},mu (mu (mu m a<|me l j) b G) c c2 g=B (.lst<|(a0 l j).reverse.map aN):=λ{G c2}=>(bG<|n 6 3 rfl).trans<|(bG<|n 6 2 rfl).trans<|(bG<|n 6 1 rfl).trans I.hg;show rW (bg (Bs (k:=.inl (h:Int)) @b_ (gJ T @b_ i () @k_) (bI @b_ X) ((bG<|n 2 1 rfl).trans b1) @o_)<|bg (Bs (k:=.inl (j:Int)) (bI @b_ X) (gJ T @b_ ((bG<|n 0 2 rfl).trans i) () @k_) @b_ ((bG<|n 3 2 rfl).trans<|(bG<|n 3 1 rfl).trans G) @o_)<|hB<|aaf () @b_ H<|afZ (a:=aN h) H ?_)<|.mk<|afm I y1 f b1 b2 b3 G c2 c3;let f:(a0 l j).head?=B h:=f;cases es:a0 l j with|nil=>rw[es]at f;cases f|cons h' t=>rw[es]at f;cases f;simp};show EU (x:= ~~~(o.op=20)&&(bP l j).isSome) (cN @t_<|by simp only[yt]) (λA=>?_) λA=>?_;{rw[a6]at A;let y1:(l.getD j bp).op=20:=(by rw[C];show aaL A.1);let[h,f]:=rg.mp A.2;let X:er (bP l j)=aN h:=(by rw[f];rfl);let hL:cR l h:=sP l j h<|uh f;let lt:=lK l j h<|uh f;let[ke,F,e2,e3]:=I.he;let[r1,r2]:=I.hr h hL lt;let P:mu m a (me l j) (r h)=B (.lst<|(dX l j h).map aN):=(by rw[bG λv=>r2<|by rw[v];simp];show r1);let Mw:U (dX l j h)<=j:=(by unfold dX;show cu (Cn _ _) (by rw[j4];lia));show rW (hB<|i7 () (ax (gJ T @b_ i () @k_) (bI @b_ X)<|agT (k:=.inl (h:Int)) ((bG<|n 5 1 rfl).trans F)<|(e3 h).trans<|aab [hL,lt]) P (ai @b_ au)<|kM P<|by rw[aP];lia)<|.mk<|afp I y1 f};let f1:(l.getD j bp).op≠21\/bP l j=Z:=by rw[C];cases w:bP l j with|none=>show .inr ()|some h=>rw[w]at y;simp at y;show .inl y
 let f2:(l.getD j bp).op≠20\/bP l j=Z:=by rw[C];cases w:bP l j with|none=>show .inr ()|some h=>rw[w]at A;simp at A;show .inl A
 show rW ed<|.mk<|afo I zL f1 f2
rintro ρ3 M3 ⟨I⟩;show afg I ()}
end
def Qb(h:isSign c=Y):c.toNat<128:=by let:∀n:_root_.Fin 256,isSign (eB n.val)=Y->n.val<128:=@k_;let k:=this [c.toNat,c.toNat_lt];simp only[zk]at k;show k h
def alm:∀c,c<128->CS c=(~~~(48<=c)&&~~~(c<=57)):=by decide+kernel
def aaB:(~~~(48<=c.toNat)&&~~~(c.toNat<=57))=gN c:=by unfold gN;rw[cb];simp[Kg]
def acU(a:gM w):vU (tS w)=(~~~(0<w.length)&&w.all gN):=by{
unfold vU;let b:(tS w).length=w.length:=by unfold tS;change (bS<|w.map fz).size=_;simp
let d:(tS w).cps.all CS=w.all gN:=by unfold tS;change (bS<|w.map fz).all CS=_;rw[List.all_toArray,vn,cb,cq,cq];show forall_congr' λc=>forall_congr' λe=>?_;change CS c.toNat=Y<->_;rw[alm _<|Qb<|a c e,aaB]
rw[b,d]}
def alo(w:aj):X6 (w.map fz)=val w:=by unfold X6 val;rw[List.foldl_map];congr 1;funext a c;rw[yZ]
def acN(d:w≠[])(hd:w.all gN=Y)(hl:w.length<=20):intText? (tS w)=B ((val w:Nat):Int):=by{
let a:(tS w).cps.toList=w.map fz:=by unfold tS;simp
let f:(tS w).length=w.length:=by unfold tS;change (bS<|w.map fz).size=_;simp
rw[intText_digits (by rw[a];intro c e;let[b,O,rfl]:=c4.mp e;show zV<|cq.mp hd b O) (by rw[a];simpa using d) @o_,a,alo]}
def aaq(h:ED E te ρ M<|.vl (aW w) M1):ED E (yl Bd te) ρ M<|.vl (aB<|vU<|tS w) M1:=eD h @p_ λv c F H R a b Q q=>by cases b;show [[_,()],_,(),(),trivial,q.fin a ()]
def Ku(a:w≠[])(hd:w.all gN=Y)(hl:U w<=20):hI E GG #[aW w] M$ aN<|val w:=λe F H b c Q q=>by cases c with|cons d t=>cases t;cases d;show [tS w,_,(),acN a hd hl,by rw[nZ];lia,q.fin b ()]
def jo{α:Type}(X:aa)(sp:Sp)(l:List As)(M:Mu)(enc:α->As):Option α->Prop|some v=>CD sp l M (.vl (enc v) M)|none=>CD sp l M<|.xc X M
def adW(T:Tk D)(p:gM w)(s:w.length<=30000):jo @q_ (sM D) #[aW w,aN most] M aN<|pNum most w:=by{
let t:=eN;let m:=nZ w;let f:∀{E:XK}{ρ:En},ρ[0]?=B (B<|aW w)->TD E (cW (cw<|tB<|yl Bd<|ay 0)<|tB<|aq (ek) (cz (gP D.K)<|aJ (ay 0) aX)<|tC<|.int 20) ρ M (.vl (!(~~~(0<w.length)&&w.all gN)||~~~(20<w.length)) M):=λ{E ρ} a=>by show cN (iV (fi<|a9<|aaq<|af a) λ_=>a9<|ax (dm (ai (af a) au)<|Kw @o_) aM ia) ?_;rw[acU p,m];congr 1;rw[aaP];lia
unfold pNum;by_cases c1:w.length=0\/w.all gN=ag\/20<w.length
.rw[aab c1];show lp @f_ ();show ee (bX (f ()) (λ_=>jV) λz=>?_) ();exfalso;simp only[sV,lM,a6,aaK,aaS]at z;rcases c1 with c1|c1|c1
 {lia};{rw[c1]at z;cases z.1.2};lia
rw[aaa c1];simp only[not_or,Bool.not_eq_false]at c1;let[c1,g,q]:=c1;let O:(!(~~~(0<w.length)&&w.all gN)||~~~(20<w.length))=ag:=by rw[g,aae @o_,aac q];rfl
cases w with|nil=>show absurd () c1|cons c r=>
let b:(c::r:aj)≠[]:=by simp
let j:∀{E:XK}{ρ:En},ρ[0]?=B (B<|aW<|c::r)->TD E (jZ (tB<|aq (ic D.K) (aq (fg D) (ay 0)<|tC<|.int 0)<|tC<|.str "0")<|tB<|aq (ek) (cz (gP D.K)<|aJ (ay 0) aX)<|tC<|.int 1) ρ M (.vl (~~~(c=48)&&~~~(1<(c::r).length)) M):=λ{E ρ} a=>by show cN (n0 (a9<|ax (ax (af a) aM<|FE (i:=0) (cp:=c.toNat) () @o_<|by unfold tS;simp) aM uA) λ_=>a9<|ax (dm (ai (af a) au)<|Kw @o_) aM ia) ?_;rw[m];congr 1;{rw[aaP];let n:(dj "0")=[(bS #[48])]:=@k_;constructor;{(intro h;let h:([(bS #[c.toNat])]:Str)=dj "0":=h;rw[n]at h;injection h with h);let h:=aad yC h;simp at h;show tP.mp (by rw[h];rfl)};intro h;subst h;show n.symm};rw[aaP];lia
by_cases d:(c::r).head?=B 48/\1<(c::r).length;{rw[aab d];show lp @f_ ();show bg (bX (f ()) (λz=>by rw[O]at z;cases z) λ_=>ed) ?_;show ee (bX (j ()) (λ_=>jV) λz=>?_) ();exfalso;let l:c=48:=(d.1:);rw[aae l,aae d.2]at z;cases z};rw[aaa d];let e:(~~~(c=48)&&~~~(1<(c::r).length))=ag:=by rw[yD];by_cases h:c=48;{show .inr<|aac λy=>d [by rw[h];rfl,y]};show .inl<|aac h
by_cases o:most<val (c::r);{rw[aab o];show lp @f_ ();show bg (bX (f ()) (λz=>by rw[O]at z;cases z) λ_=>ed) ?_;show bg (bX (j ()) (λz=>by rw[e]at z;cases z) λ_=>ed) ?_;show bt (dm (ai @b_ au)<|Ku b g @o_) ?_;show ee (bX (x:=Y) (cN (a9<|ax @b_ @b_ ia) @m_) (λ_=>jV) λz=>by cases z) ()};rw[aaa o];lk;show bg (bX (f ()) (λz=>by rw[O]at z;cases z) λ_=>ed) ?_;show bg (bX (j ()) (λz=>by rw[e]at z;cases z) λ_=>ed) ?_;show bt (dm (ai @b_ au)<|Ku b g @o_) ?_;show bg (bX (x:=ag) (cN (a9<|ax @b_ @b_ ia) @m_) @j_ λ_=>ed)<|bV<|af ()}
section
variable{α β:Type}
theorem si{h:α->Option β}:∀{xs:List α}{ys:List β},xs.mapM h=B ys->U ys=U xs/\∀(j:Nat)(x:α)(y:β),xs[j]?=B x->ys[j]?=B y->h x=B y|[],ys,e=>by let e:B []=B ys:=e;cases e;show [(),λj x y hx=>by simp at hx]|a::xs,ys,e=>by rw[mapM_cons]at e;cases c:h a with|none=>rw[c]at e;cases e|some b=>rw[c]at e;cases hx:xs.mapM h with|none=>rw[hx]at e;cases e|some bs=>rw[hx]at e;let e:B (b::bs)=B ys:=e;cases e;let[g,i]:=si hx;show [by rw[bR,bR,g],λj x y d f=>?_];cases j with|zero=>simp at d f;subst d f;show c|succ j=>show i j x y (d:) (f:)
theorem Ay{h:α->Option β}:∀{xs:List α},xs.mapM h=Z->∃n,∃d:n<U xs,h xs[n]=Z/\∃ys,(xs.take n).mapM h=B ys|[],e=>by cases e|a::xs,e=>by rw[mapM_cons]at e;cases c:h a with|none=>show [0,by simp,c,[],()]|some b=>rw[c]at e;cases hx:xs.mapM h with|some bs=>rw[hx]at e;cases e|none=>let[n,d,f,ys,g]:=Ay hx;show [n+1,by simp;omega,(f:),b::ys,?_];rw[List.take_succ_cons,mapM_cons,c,g];rfl
def qh(E:XK)(X:aa)(te:TE)(ρ:En)(M:Mu)(enc:α->As):Option α->Prop|some v=>ED E te ρ M (.vl (enc v) M)|none=>ED E te ρ M<|.xc X M
theorem Ea{X:aa}{wi:TI}{g:TG}{is:List Nat}{xs:List α}{f:α->As}{h:α->Option β}{enc:β->As}(t:WD E wi ρ M$ xs.map f)(u:U xs<=sizeLine)(o:∀x∈xs,∃ρ1,GD g is (f x) (j0 ρ is) ρ1/\qh E X te ρ1 M enc (h x)):qh E X (cH wi g dA te is) ρ M (λl=>aL<|l.map enc)<|xs.mapM h:=by{
cases e:xs.mapM h with|some p=>let[q,r]:=si e;show Eb (λ_=>M) t (by rw[aP,aP,q]) (by rw[aP];show u) λj a b c O=>?_;rw[du]at c O;let[x,hx,rfl]:=jl.mp c;let[y,m,rfl]:=jl.mp O;let[ρ1,i,d]:=o x<|bY hx;rw[r j x y hx m]at d;show [ρ1,i,d]|none=>
let[n,s,q,p,r]:=Ay e;let[v,w]:=si r;let z:U p=n:=by rw[v,gj];lia
show Ec (bs:=p.map enc) (λ_=>M) n t (by rw[aP];show s) (by rw[aP,z]) (by rw[aP];show u) (λj a b c O=>?_) λa c=>?_
.rw[du]at c O;let[x,hx,rfl]:=jl.mp c;let[y,m,rfl]:=jl.mp O;let A:j<n:=by let:=(el.mp m).1;lia
 let[ρ1,i,d]:=o x<|bY hx;rw[w j x y (by rw[W2,aab A];show hx) m]at d;show [ρ1,i,d]
rw[du,bF s]at c;cases c;let[ρ1,i,d]:=o xs[n]<|lN s;rw[q]at d;show [ρ1,i,d]}
def lu(a:AD E t ρ M$ l)(b:jo X sp l M enc o):qh E X (dq sp [] E t) ρ M enc o:=by cases o with|some v=>show az a b|none=>show az a b
end
section
variable{α β:Type}{u:TS}{X:aa}{enc:α->As}{enc':β->As}
def lh(E:XK)(X:aa)(t:TS)(ρ:En)(M:Mu)(enc:α->As):Option α->Prop|some v=>SD E t ρ M (.rt (enc v) M)|none=>SD E t ρ M<|.xc X M
def qI(h:qh E X te ρ M enc o):lh E X (ah te) ρ M enc o:=by cases o with|some v=>show bV h|none=>show PX h
def Bv(h:qh E X te ρ M enc o)(k:∀v,o=B v->lh E X u (ρ.set i<|B<|enc v) M enc' (f v)):lh E X (bQ (b_ te<|aY i) u) ρ M enc'<|o.bind f:=by cases o with|none=>show ee (mB h) ()|some v=>let k:=k v ();change lh E X _ ρ M enc'<|f v;cases e:f v with|none=>rw[e]at k;show bt h k|some w=>rw[e]at k;show bt h k
def jX(a:TD E tt ρ M$ b)(k:b=ag->lh E X u ρ M enc o):lh E X (bQ (bu tt (dB X E) bw) u) ρ M enc (if b=Y then Z else o):=by cases b with|true=>show ee (bX a (λ_=>jV) λz=>by cases z) ()|false=>let k:=k ();rw[aaa @s_];cases o with|none=>show bg (bX a @j_ λ_=>ed) k|some v=>show bg (bX a @j_ λ_=>ed) k
def jf(h:lh E X t ρ M enc o)(e:o=a):lh E X t ρ M enc a:=e▸h
def pL(h:∀E,lh E X (a G E) (jY k l) M enc o)(hl:l.length=n):jo X (qS i k n a G) l M enc o:=by cases o with|some v=>show aK h hl|none=>show lp h hl
def xj(a:gM w)(b:U w<=30000):jo @q_ (sM D) #[aW w,aN most] M aN<|cO most w:=by rw[<-FV];show adW T a b
def gG(ws:List aj):Prop:=U ws<=30000/\∀w∈ws,gM w/\U w<=30000
def Nf(a:gG ws):jo @q_ (Hx D) #[aL<|ws.map aW,aN most] M bA (if most<U ws then Z else mT (fJ 4) ws):=by let c:=eN;let d:=a.1;show pL @f_ ();show jf (jX (b:= ~~~(most<U ws)) (cN @t_ ?_) λ_=>qI<|Ea (xs:=ws) (f:=aW) (h:=cO<|fJ 4) (enc:=aN) (ij<|af ()) @o_ λw hx=>[_,bL,lu (ai (af ())<|ai (bI bZ<|ei<|by decide+kernel) au)<|xj T (a.2 w hx).1 (a.2 w hx).2]) ?_;{rw[aaP,aP];lia};by_cases h:most<U ws;{rw[aab<|aae h,aab h]};rw[aaa<|by rw[aac h];simp,aaa h];rfl
end
def gG.tail(h:gG<|w::ws):gG ws:=[by let:=h.1;rw[bR]at this;lia,λv a=>h.2 v<|dv _ a]
def E7(g:gG ws):jo @q_ (yd D) #[aL<|ws.map aW] M (bK D)<|lP ws:=by show pL @f_ ();cases ws with|nil=>show jf (jX (b:=Y) (cN @t_ @r_) (o:=Z) λz=>by cases z) ()|cons k r=>let j:=g.2 k<|.head _;let c:=xj T (M:=M) (most:=255) j.1 j.2;let a:=Nf T (M:=M) (most:=4) g.tail;show jf (jX (b:=ag) (cN @t_ @m_) (o:=lP<|k::r) λ_=>qI ?_) ();let d:∀{ρ:En},ρ[0]?=B (B<|aL<|(k::r).map aW)->AD E (aJ (aq (fg D) (ay 0)<|tC<|.int 0)<|aJ (tC<|.int 255) aX) ρ M (.vl #[aW k,aN 255] M):=λh=>ai (ax (af h) bZ<|qA (i:=0) ())<|ai bZ au;let f:∀{ρ:En},ρ[0]?=B (B<|aL<|(k::r).map aW)->AD E (aJ (eU (eT D.K) (ay 0) (ew<|tC<|.int 1) gy)<|aJ (tC<|.int 4) aX) ρ M (.vl #[aL<|r.map aW,aN 4] M):=λh=>ai (t7 (af h) aM @o_)<|ai bZ au;change qh E _ _ _ M (bK D) (if kx<U r then Z else match cO 255 k,mT (fJ 4) r with|some x,B y=>B ⟨x,y⟩|_,_=>Z);cases l:cO 255 k with|none=>rw[l]at c;let:(if kx<U r then Z else match(Z:Option Nat),mT (fJ 4) r with|some x,B y=>B (⟨x,y⟩:bT)|_,_=>Z)=Z:=(by split<;>rfl);rw[this];show oO (j9<|az (d ()) c)|some x=>rw[l]at c;by_cases e:kx<U r;{rw[aab e];rw[aab (show 4<U r from e)]at a;show oO<|oI (az (d ()) c)<|j9<|az (f ()) a};rw[aaa e];rw[aaa (show¬4<U r from e)]at a;cases m:mT (fJ 4) r with|none=>rw[m]at a;show oO (oI (az (d ()) c)<|j9<|az (f ()) a)|some y=>rw[m]at a;show Ek T<|ai (az (d ()) c)<|ai (az (f ()) a) au
def aeh(a:gG ws):jo @q_ (Rr D) #[aL<|ws.map aW] M (js D)<|yX ws:=by let p:=eN;show pL @f_ ();match ws,a with|[],_=>show jf (jX (b:=Y) (cN @t_ @r_) (o:=Z) λz=>by cases z) ()| #[k],_=>show jf (jX (b:=Y) (cN @t_ @r_) (o:=Z) λz=>by cases z) ()|k::j::r,a=>let g:=a.1;rw[bR,bR]at g;let e:=a.2 j @s_;let d:gG<|k::r:=[by rw[bR];lia,λv l=>a.2 v (by(rcases bh.mp l with rfl|h);{show .head _};show dv _<|dv _ h)];let m:=E7 T (M:=M) d;let c:=xj T (M:=M) (most:=255) e.1 e.2;show jf (jX (b:=ag) (cN @t_ @m_) (o:=(lP<|k::r).bind λs=>(cO 255 j).map λn=>([s,n]:i0)) λ_=>Bv (lu (ai (bI (b:=aL<|(k::r).map aW) (ax (Ef @b_ aM @o_) (t7 @b_ aM @o_)<|jz ?_) @r_) au) m) λs q=>qI ?_) ?_;{simp;lia};{cases f:cO 255 j with|none=>rw[f]at c;show oO (oI (af ())<|j9<|az (ai (ax @b_ bZ<|qA (i:=1) ())<|ai bZ au) c)|some n=>rw[f]at c;show LA T<|ai (af ())<|ai (az (ai (ax @b_ bZ<|qA (i:=1) ())<|ai bZ au) c) au};change _=(match cO 255 j,lP (k::r)with|some j,B s=>B (⟨s,j⟩:i0)|_,_=>Z);rw[aaa @s_];cases cO 255 j<;>cases lP (k::r)<;>rfl
def ve:tS a=tS b<->a=b:=[λh=>by(unfold tS at h;injection h with h);let h:=aad yC h;simp only[Cs]at h;show NR.mp h,λh=>by rw[h]]
def w_s:(dj "s")=tS #[115]:=by decide+kernel
def w_n:(dj "n")=tS #[110]:=by decide+kernel
def adu(O:gM b)(h:b.length<=30000):jo @q_ (QI D) #[aW a,aW b] M (dZ D)<|qw (a,b):=by let j:=xj T (M:=M) (most:=65535) O h;show pL @f_ ();show jf (Bv (f:=λi=>if a=#[115]then B ([ag,i]:c5)else if a=#[110]then B [Y,i]else Z) (lu (ai (af ())<|ai bZ au) j) λi l=>?_) ?_;{let e:TD E (tB<|aq (ic D.K) (ay 0)<|tC<|.str "s") #[B<|aW a,B<|aW b,B<|aN i] M$ ~~~(a=#[115]):=cN (a9<|ax @b_ aM uA)<|aaP.mpr (by rw[show("s":Str)=tS #[115]from w_s];show ve);let g:TD E (tB<|aq (ic D.K) (ay 0)<|tC<|.str "n") #[B<|aW a,B<|aW b,B<|aN i] M$ ~~~(a=#[110]):=cN (a9<|ax @b_ aM uA)<|aaP.mpr (by rw[show("n":Str)=tS #[110]from w_n];show ve);by_cases c:a=#[115];{rw[aab c];show ee (bX e (λ_=>bV<|z6 T (n:=ag)<|ai aM<|ai @b_ au) λz=>absurd c<|abw z) ()};rw[aaa c];by_cases d:a=#[110];{rw[aab d];show bg (bX e (λz=>absurd (aaL z) c) λ_=>ed)<|ee (bX g (λ_=>bV<|z6 T (n:=Y)<|ai aM<|ai @b_ au) λz=>absurd d<|abw z) ()};rw[aaa d];show bg (bX e (λz=>absurd (aaL z) c) λ_=>ed)<|bg (bX g (λz=>absurd (aaL z) d) λ_=>ed) jV};unfold qw;cases cO 65535 b<;>rfl
def PJ(h:m<=60000):Dk 0 ((2*m:Nat):Int) 2 m:=by let a:y3 0 ((2*m:Nat):Int) 2=m:=(by unfold y3;simp;lia);show [by decide,by decide,?_,a];unfold XH;rw[a];unfold Builtin.Range.rangeFitsLong;simp;lia
def K2{α:Type}(d:α):∀(m:Nat)(l:List α),U l=2*m->kf l=(dc m).map λi=>(l.getD (2*i) d,l.getD (2*i+1) d):=λm l h=>by apply Cf;intro i;by_cases a:i<m;{rw[K0 l i (l.getD (2*i) d) (l.getD (2*i+1) d) (by rw[cV,bF @o_];rfl)<|by rw[cV,bF @o_];rfl,du,W0 a];rfl};rw[iF<|by rw[K1];lia,iF<|by rw[aP,j4];lia]
theorem Fn{α b c:Type}{f:b->Option c}{g:α->b}:∀{l:List α},(l.map g).mapM f=l.mapM λx=>f (g x)|[]=>rfl|a::l=>by rw[cC,mapM_cons,mapM_cons,Fn (l:=l)]
def Nb(d:gG ws)(n:most<=100):jo @q_ (Ht D) #[aL<|ws.map aW,aN most] M (λl=>aL<|l.map<|dZ D) (if 2*most<U ws then Z else ou ws):=by let p:=eN;let q:=d.1;show pL @f_ ();by_cases e:U ws % 2=0;{obtain⟨m,a⟩:∃m,U ws=2*m:=[U ws/2,by lia];show jf (jX (b:= ~~~(2*most<U ws)) (cN (iV (a9<|ax (ax @e_ aM<|AW @d_) aM nN) λ_=>a9<|ax @e_ (ax aM (af ())<|nM<|.inl [by decide,by decide]) ia) ?_) λ_=>qI<|Ea (xs:=dc m) (f:=λi=>aI<|0+(i:Int)*2) (h:=λi=>qw (ws.getD (2*i) [],ws.getD (2*i+1) [])) (enc:=dZ D) (Wn (ai aM<|ai (bI @e_<|ei<|by rw[aP,a])<|ai aM au)<|PJ @o_) (by rw[j4];lia) λi c=>[_,bL,lu ?_<|adu T ?_ ?_]) ?_;{rw[aP,a];rw[cb];simp;try lia};{let c:=gk.mp c;let g:(ws.map aW)[2*i]?=B (aW<|ws.getD (2*i) []):=(by rw[du,cV,bF @o_];rfl);let j:(ws.map aW)[2*i+1]?=B (aW<|ws.getD (2*i+1) []):=(by rw[du,cV,bF @o_];rfl);show ai (ax @b_ (af ())<|kn (i:=2*i) @o_ g)<|ai (ax @b_ (ax @b_ aM g8)<|kn (i:=2*i+1) @o_ j) au};{let c:=gk.mp c;rw[cV,bF @o_];show(d.2 _<|lN @o_).1};{let c:=gk.mp c;rw[cV,bF @o_];show(d.2 _<|lN @o_).2};rw[EM,aab e,K2 [] m ws a,Fn];by_cases h:2*most<U ws;{rw[aab<|aae h,aab h]};rw[aaa<|by rw[aac h];simp,aaa h]};show jf (jX (b:=Y) (cN (iV (a9<|ax (ax @e_ aM<|AW @d_) aM nN) λ_=>a9<|ax @e_ (ax aM (af ())<|nM<|.inl [by decide,by decide]) ia) ?_) (o:=Z) λz=>by cases z) ?_;{rw[aP,j2];left;simp;lia};rw[EM,aaa e];simp
def fE(ms:List Nat)(ws:List aj):Option<|List Nat:=if U ws≠U ms then Z else(ws.zip ms).mapM λx=>cO x.2 x.1
def Ao(a:gG ws):jo @q_ (sN D) #[aL<|ws.map aW,aT D.K<|ms.map aN] M bA<|fE ms ws:=by let d:=eN;let e:=a.1;show pL @f_ ();let c:lL D.K (ws.map aW) (ms.map aN)=(ws.zip ms).map λx=>aT D.K #[aW x.1,aN x.2]:=(by unfold lL;rw[List.zip_map,cD];rfl);show jf (jX (b:= ~~~(U ws≠U ms)) (cN (a9<|ax (dm (ai @b_ au) lU) (dm (ai @b_ au) DE) nN) ?_) λ_=>qI (Ea (xs:=ws.zip ms) (f:=λx=>aT D.K #[aW x.1,aN x.2]) (h:=λx=>cO x.2 x.1) (enc:=aN) (by let:=Wo (E:=E) (K:=D.K) (ρ:=jY 4 #[aL<|ws.map aW,aT D.K<|ms.map aN]) (M:=M)<|ai (af (i:=0) ())<|ai (af (i:=1) ()) au;rw[c]at this;show this) (by rw[vv];lia) λx hx=>[_,iu,lu (ai (af ())<|ai @b_ au)<|xj T (a.2 x.1 (pX hx).1).1 (a.2 x.1 (pX hx).1).2])) ?_;{rw[aP,aP,cb];simp;try lia};unfold fE;by_cases h:U ws≠U ms;{rw[aab<|aae h,aab h]};rw[aaa<|by rw[aac h];simp,aaa h]
def acd:∀c,c<128->vT (dj "0123456789abcdef") [(bS #[c])]=((kz<|eB c).map λn=>(n:Int)).getD (-1):=by decide+kernel
def fN(c:UInt8):Int:=((kz c).map λn=>(n:Int)).getD<|-1
def ab_(h:isSign c=Y):vT (dj "0123456789abcdef") [(bS #[c.toNat])]=fN c:=by rw[acd _<|Qb h,zk];rfl
def Mn:fN c<0<->kz c=Z:=by unfold fN;cases kz c with|none=>simp|some n=>simp
def NO:∀{ns:List Int},ns≠[]->∃k,k∈ns/\∀y∈ns,k<=y
|[],h=>absurd () h| #[x],_=>[x,by simp,by simp]
|x::y::r,_=>by let[k,b,a]:=NO (ns:=y::r) @s_;by_cases h:x<=k;{show [x,by simp,λz hz=>by(rcases bh.mp hz with rfl|hz);{lia};let:=a z hz;lia]};show [k,dv _ b,λz hz=>by(rcases bh.mp hz with rfl|hz);{lia};show a z hz]
def all_ints:∀{vs:List V}{ns:List Int},c9 F vs (ns.map aI)->vs=ns.map V.int|_,[],.nil=>rfl|_,n::ns,.cons h t=>by rw[all_ints t,show _=V.int n from h];rfl
theorem Y5{K:aR}{ns:List Int}{k:Int}(a:k∈ns)(b:∀y∈ns,k<=y):hI E (Bf K) #[aL<|ns.map aI] M$ aI k:=λi F H w c Q q=>by cases c with|cons h t=>cases t;let[p,j,rfl,d,e]:=h;cases all_ints e;show [p,ns,(),bE.of<|w.fh _ _ d,List.length_pos_of_mem a,λm f g=>?_];let:m=k:=(by let:=g k a;let:=b m f;lia);subst this;show q.fin w ()
def aal(e:ED E te ρ M$ aS a)(f:ED E tb ρ M$ aS b):ED E (ks GB te tb) ρ M$ aI<|vT a b:=λd F H R w Q q=>e d F H R w _ λv h i g j=>by cases j;show [[_,()],f d h i (R.up g.ff) g.wf _ λo l m n c=>?_];cases c;show [_,_,(),(),q _ l m (g.trans n) ()]
section
variable{α:Type}{u:TS}{X:aa}{enc:α->As}
def He(h:ED E te ρ M$ a)(k:lh E X u (ρ.set i<|B a) M enc o):lh E X (bQ (b_ te<|aY i) u) ρ M enc o:=by cases o with|none=>show bt h k|some w=>show bt h k
def ue(h:kz c=B n):fN c=n:=by unfold fN;rw[h];rfl
def Mp(h:kz c=B n):n<16:=by let:∀k:_root_.Fin 256,∀n,kz (eB k.val)=B n->n<16:=(by intro k n;let:∀k:_root_.Fin 256,((kz<|eB k.val).all λn=>~~~(n<16))=Y:=@k_;intro e;let:=this k;rw[e]at this;show aaL this);show this [c.toNat,c.toNat_lt] n ?_;simp only[zk];show h
def aca(hl:U w=2*m)(hd:∀c∈w,kz c≠Z):∃r:aj,rb w=B r/\r.map (λc=>aN c.toNat)=(dc m).map λi=>aI<|16*fN (w.getD (2*i) 0)+fN (w.getD (2*i+1) 0):=by{
show [(dc m).map λi=>eB<|(16*fN (w.getD (2*i) 0)+fN (w.getD (2*i+1) 0)).toNat,?_,?_]
.rw[Iy,aab @o_,K2 0 m w hl,Fn];let key:∀d:List Nat,(∀i∈d,i<m)->(d.mapM λi=>nB (w.getD (2*i) 0,w.getD (2*i+1) 0))=B (d.map λi=>eB<|(16*fN (w.getD (2*i) 0)+fN (w.getD (2*i+1) 0)).toNat):=by{
intro d;induction d with|nil=>intro _;rfl|cons i d j=>
intro hx;let f:=hx i @s_;let g:w.getD (2*i) 0∈w:=by rw[cV,bF @o_];show lN _
let h:w.getD (2*i+1) 0∈w:=by rw[cV,bF @o_];show lN _
let[a,e]:=CG.mp<|hd _ g;let[b,O]:=CG.mp<|hd _ h;rw[mapM_cons,j λk l=>hx k<|dv _ l];unfold nB;simp only[e,O,ue e,ue O];let:(16*(a:Int)+(b:Int)).toNat=16*a+b:=by lia
simp only[cC,ue e,ue O,this];rfl};show key _ λi f=>gk.mp f
rw[cD];show qV λi f=>?_;let f:=gk.mp f;let g:w.getD (2*i) 0∈w:=by rw[cV,bF @o_];show lN _
let h:w.getD (2*i+1) 0∈w:=by rw[cV,bF @o_];show lN _
let[a,e]:=CG.mp<|hd _ g;let[b,O]:=CG.mp<|hd _ h;let l1:=Mp e;let l2:=Mp O;change aN (eB _).toNat=_;rw[ue e,ue O];show ei ?_;rw[rn];lia}
def Mq:∀(w r:aj),rb w=B r->∀c∈w,kz c≠Z
|[],_,_,c,hc=>by cases hc| #[a],r,h,_,_=>by cases h
|a::b::t,r,h,c,hc=>by{
rw[rb]at h;cases d:kz a with|none=>rw[d]at h;cases h|some x=>
cases O:kz b with|none=>rw[d,O]at h;cases h|some y=>
cases e:rb t with|none=>rw[d,O,e]at h;cases h|some l=>
rcases bh.mp hc with rfl|hc
.rw[d];simp
rcases bh.mp hc with rfl|hc
.rw[O];simp
show Mq t l e c hc}
def acb(a:c∈w)(hd:kz c=Z):rb w=Z:=by cases e:rb w with|none=>rfl|some r=>show absurd hd<|Mq w r e c a
def adR(T:Tk D)(j:gG ws):jo @q_ (HB D) #[aL<|ws.map aW] M aName<|mv ws:=by{
let H:=eN;show pL @f_ ();match ws,j with
|[],_=>show jf (jX (b:=Y) (cN @t_ @r_) (o:=Z) λz=>by cases z) ()|a::b::r,_=>show jf (jX (b:=Y) (cN @t_ @m_) (o:=Z) λz=>by cases z) ()
| #[h],j=>
let p:=j.2 h @s_;let I:=p.2;show jf (jX (b:=ag) (cN @t_ @r_) (o:=mv #[h]) λ_=>?_) ();show He (a:=aL<|(h.map fN).map aI) (bI (dQ (xs:=h) (f:=λb=>aS [(bS #[b.toNat])]) (h:=λb=>aI<|fN b) (Lk (IG<|ax @b_ bZ<|qA (i:=0) ())<|by unfold tS;simp) @o_ λb O=>[_,bL,bI (aal aM<|af ())<|ei<|ab_<|p.1 b O])<|by rw[cD];rfl) ?_;change lh E _ _ _ M aName (if U h=0\/510<U h then Z else rb h);let hlen:U ((h.map fN).map aI)=U h:=by simp
let e:∀{ρ:En},ρ[1]?=B (B<|aL<|(h.map fN).map aI)->ED E (cz (gP D.K)<|aJ (ay 1) aX) ρ M (.vl (aN (U h)) M):=λv=>bI (dm (ai (af v) au) lU) (by rw[hlen]);obtain⟨k,g⟩:∃k:Int,h≠[]->(k∈h.map fN/\∀y∈h.map fN,k<=y):=by by_cases q:h=[];{show [0,λz=>absurd q z]};let[k,w,x]:=NO (ns:=h.map fN) (q:);show [k,λ_=>[w,x]]
let ne2:∀{n:Nat},~~~((n:Int)<2)=ag->2<=n:=λz=>by let:=abw z;lia
let nn:2<=U h->h≠[]:=λz y=>by rw[y]at z;simp at z
show jf (jX (b:= ~~~((U h:Int)<2)||(~~~(2*255<(U h:Int))||(!~~~((U h:Int) % 2=0)||~~~(k<0)))) (iV (a9<|ax (e ()) aM uE) λz=>iV (a9<|ax (e ()) (ax aM aM<|nM<|.inl [by decide,by decide]) ia) λ_=>iV (a9<|ax (ax (e ()) aM<|AW @d_) aM nN) λ_=>a9<|ax (dm (ai @b_ au)<|Y5 (g<|nn<|ne2 z).1 (g<|nn<|ne2 z).2) aM uE) (o:=rb h) λz=>?_) ?_
.simp only[sV,aaS,lM,aaK]at z;let[J,P,Q,z4]:=z;let d:h≠[]:=nn @o_;obtain⟨m,s⟩:∃m,U h=2*m:=[U h/2,by lia];let A:∀c∈h,kz c≠Z:=λc l y=>by let:=(g d).2 (fN c)<|c4.mpr [c,l,()];let:=Mn.mpr y;lia
 let[r,r1,r2]:=aca s A;rw[r1];show qI (o:=B r) ?_;change ED E _ _ M$ aL<|r.map λc=>aN c.toNat;rw[r2];show dQ (xs:=dc m) (f:=λ(i:Nat)=>aI<|0+(i:Int)*2) (h:=λi=>aI<|16*fN (h.getD (2*i) 0)+fN (h.getD (2*i+1) 0)) (Wn (ai aM<|ai (bI (e ())<|by rw[s])<|ai aM au)<|PJ @o_) (by rw[j4];lia) λi t=>[_,bL,?_];let t:=gk.mp t;let C:((h.map fN).map aI)[2*i]?=B (aI<|fN<|h.getD (2*i) 0):=by rw[du,du,cV,bF @o_];rfl
 let F:((h.map fN).map aI)[2*i+1]?=B (aI<|fN<|h.getD (2*i+1) 0):=by rw[du,du,cV,bF @o_];rfl
 show ax (ax aM (ax @b_ (af ())<|kn (i:=2*i) @o_ C)<|nM<|.inl [by decide,by decide]) (ax @b_ (ax @b_ aM g8)<|kn (i:=2*i+1) @o_ F) g8
by_cases c1:U h=0\/510<U h
.rw[aab c1,aab];rcases c1 with c1|c1
 {rw[aae @o_];rfl};rw[aae (show 2*255<(U h:Int)by lia)];simp
rw[aaa c1];by_cases G:U h % 2=0;{by_cases c3:k<0;{let d:h≠[]:=λy=>c1<|.inl (by rw[y];rfl);let[c,l,ec]:=c4.mp (g d).1;rw[acb l<|Mn.mp @o_];simp};rw[aaa];rw[j2,j2,j2];simp only[aaK,iX,aaS];lia};rw[Iy,aaa G];simp}
end
def jh(ws:List aj):List V:=ws.map λw=>V.str<|tS w
def IE(ws:List aj):ws.map aW=(jh ws).map aV:=by unfold jh;rw[cD];rfl
def B3(ws:List aj):(jh ws).all fM=Y:=by unfold jh;rw[vn,cq];intro w _;rfl
def t9:hW (.str<|tS a) (.str<|tS b)= ~~~(a=b):=by let:hW (.str<|tS a) (.str<|tS b)=(tS a==tS b):=();rw[this,cb,aaF,aaQ];show ve
def MD(w:aj)(ws:List aj):jL (.str<|tS w) (jh ws)=ws.contains w:=by unfold jL jh;rw[Cc,cb,sY,WQ];constructor;{rintro⟨y,a,e⟩;let e:hW (.str<|tS y) (.str<|tS w)=Y:=e;rw[t9,aaQ]at e;show e▸a};intro h;show [w,h,by change hW (.str<|tS w) (.str<|tS w)=Y;rw[t9];simp]
theorem Oe{w:aj}{ws:List aj}:bW E (dy D Y) (aW w) (aL<|ws.map aW) M$ aB<|!ws.contains w:=by let:=Fz (E:=E) (D:=D) (M:=M) (neg:=Y) (x:=.str<|tS w) (xs:=jh ws) () (B3 ws);rw[<-IE]at this;simp only[abu,MD]at this;show this
theorem aag{w:aj}{ws:List aj}{j:Nat}(i:ED E te ρ M$ aL<|ws.map aW)(l:ED E tb ρ M$ aW w)(n:ws[j]?=B w)(O:∀m,m<j->ws[m]?≠B w):ED E (vd K te<|aJ tb aX) ρ M$ aN j:=λd F H R o Q q=>i d F H R o _ λv r s g u=>by let[p,G,rfl,f,h]:=u;rw[IE]at h;cases zB h;show .inl [.inl [(),jh ws,bE.of<|g.wf.fh _ _ f],?_];show ai l au d r s (R.up g.ff) g.wf _ λI x z a b=>?_;cases b with|cons k t=>cases t;cases k;show [p,jh ws,.str<|tS w,j,.str<|tS w,(),(),bE.of<|a.wf.fh _ _<|a.ff _ _ f,(),B3 ws,by unfold jh;rw[du,n];rfl,by rw[t9];simp,λm J A c=>?_,q _ x z (g.trans a) ()];unfold jh at c;rw[du]at c;let[y,C,rfl]:=jl.mp c;rw[t9,aaS];show λe=>O m A<|e▸C
abbrev qv:List Nat:=#[1,255,255,18446744073709551615,18446744073709551615]
def agH:cO m #[62]=Z:=by rw[<-FV];unfold pNum;rw[aab<|.inr<|.inl @d_]
def N0(h:cO m w=B n):n<=m:=by rw[<-FV]at h;unfold pNum at h;split at h;{cases h};split at h;{cases h};split at h;{cases h};cases h;lia
def ab7(h:fE qv #[s,w,k,u,v]=B l):∃b c k' d e,l=#[b,c,k',d,e]/\cO 1 s=B b/\cO 255 w=B c/\cO 255 k=B k'/\cO (fJ 8) u=B d/\cO (fJ 8) v=B e:=by let f:fJ 8=18446744073709551615:=@d_;rw[f];unfold fE at h;rw[aaa @s_]at h;let[g,a]:=si h;match l,g with| #[b,c,k',d,e],_=>show [b,c,k',d,e,(),a 0 _ _ () rfl,a 1 _ _ () rfl,a 2 _ _ () rfl,a 3 _ _ () rfl,a 4 _ _ () rfl]
def ab6(h:fE qv #[s,w,k,u,v]=Z):cO 1 s=Z\/cO 255 w=Z\/cO 255 k=Z\/cO (fJ 8) u=Z\/cO (fJ 8) v=Z:=by let c:fJ 8=18446744073709551615:=@d_;rw[c];unfold fE at h;rw[aaa @s_]at h;let[n,b,a,_]:=Ay h;simp at b;match n,b with|0,_=>show .inl a|1,_=>show .inr (.inl a)|2,_=>show .inr (.inr<|.inl a)|3,_=>show .inr (.inr<|.inr<|.inl a)|4,_=>show .inr<|.inr<|.inr<|.inr a
def gG.take(h:gG ws)(n:Nat):gG<|ws.take n:=[by let:=h.1;rw[gj];lia,λv a=>h.2 v<|List.mem_of_mem_take a]
def gG.drop(h:gG ws)(n:Nat):gG<|ws.drop n:=[by let:=h.1;rw[kY];omega,λv a=>h.2 v<|Cq a]
def IF:(dj ">")=tS #[62]:=by decide+kernel
def V8:∀{r:List aj},r.contains #[62]=Y->r[(r.takeWhile λx=>x !=#[62]).length]?=B #[62]/\∀m,m<U (r.takeWhile λx=>x !=#[62])->r[m]?≠B #[62]|[],h=>by cases h|x::r,h=>by{
by_cases e:x=#[62]
.subst e;let:(((#[62]:aj)::r).takeWhile λx=>x !=#[62])=[]:=by simp
 rw[this];show [(),λm a=>by simp at a]
let b:(x !=#[62])=Y:=by simp[e]
rw[Xj (p:=λx:aj=>x !=#[62]) b,bR];let c:r.contains #[62]=Y:=by(rw[mP]at h;rcases j2 _ _|>.mp h with h|h);{show absurd (aaF.mp h).symm e};show h
let[d,f]:=V8 c;show [(d:),λm a=>?_];cases m with|zero=>simpa using e|succ m=>simpa using f m<|Nat.lt_of_succ_lt_succ a}
def V7:∀{r:List aj},r.contains #[62]=ag->(r.takeWhile λx=>x !=#[62])=r|[],_=>rfl|x::r,h=>by rw[mP,sV]at h;let e:(x !=#[62])=Y:=(by let:=h.1;simp only[bne_iff_ne,ne_eq];intro e;subst e;simp at this);rw[Xj (p:=λx:aj=>x !=#[62]) e,V7 h.2]
theorem ale{r:List aj}:(r.takeWhile λx=>x !=#[62])=r.take (U (r.takeWhile λx=>x !=#[62])):=by let:=List.takeWhile_prefix (p:=λx:aj=>x !=#[62]) (l:=r);show List.prefix_iff_eq_take.mp this
theorem adg(T:Tk D)(hw:gG ws):jo @q_ (Hm D) #[aL<|ws.map aW] M (c_ D)<|pY ws:=by{
let hs:=eN;let hl:=hw.1;let g:=Ao T (M:=M) (ms:=qv)<|hw.take 5;show pL @f_ ();let e0:∀{ρ:En},ρ[0]?=B (B<|aL<|ws.map aW)->AD E (aJ (eU (eT D.K) (ay 0) gy<|ew<|tC<|.int 5)<|aJ (tC<|.ref<|D.ad "CALL_HEAD_MOST") aX) ρ M (.vl #[aL<|(ws.take 5).map aW,aT D.K<|qv.map aN] M):=λh=>ai (bI (Ef (af h) aM @o_)<|by rw[<-qW];rfl)<|ai (gZ T (n:="CALL_HEAD_MOST") (l:=ez #[1,255,255,18446744073709551615,18446744073709551615])<|by decide+kernel) au;let short:ws.length<5->pY ws=Z/\fE qv (ws.take 5)=Z:=λh=>by show [?_,?_];{match ws,h with|[],_=>rfl| #[_],_=>rfl| #[_,_],_=>rfl| #[_,_,_],_=>rfl| #[_,_,_,_],_=>rfl};unfold fE;rw[aab<|by rw[gj];simp;lia]
by_cases c0:ws.length<5;{let[I,J]:=short c0;rw[J]at g;rw[I];show ee (mB<|az (e0 ()) g) ()};obtain⟨s,w,k,u,v,r,rfl⟩:∃s w k u v r,ws=s::w::k::u::v::r:=by match ws,c0 with|s::w::k::u::v::r,_=>show [s,w,k,u,v,r,()]|[],z=>show absurd @d_ z| #[_],z=>show absurd @s_ z| #[_,_],z=>show absurd @s_ z| #[_,_,_],z=>show absurd @s_ z| #[_,_,_,_],z=>show absurd @s_ z
let g:jo @q_ (sN D) #[aL<|(#[s,w,k,u,v]:List aj).map aW,aT D.K<|qv.map aN] M bA<|fE qv #[s,w,k,u,v]:=g;cases P:fE qv #[s,w,k,u,v]with|none=>rw[P]at g;let:pY (s::w::k::u::v::r)=Z:=(by let hn:=ab6 P;unfold pY;cases q1:cO 1 s with|none=>simp only[q1]|some _=>cases q2:cO 255 w with|none=>simp only[q1,q2]|some _=>cases q3:cO 255 k with|none=>simp only[q1,q2,q3]|some _=>cases q4:cO (fJ 8) u with|none=>simp only[q1,q2,q3,q4]|some _=>cases q5:cO (fJ 8) v with|none=>simp only[q1,q2,q3,q4,q5]|some _=>rw[q1,q2,q3,q4,q5]at hn;simp at hn);rw[this];show ee (mB<|az (e0 ()) g) ()|some l=>
rw[P]at g;let[d,j,p,q,t,rfl,Q,g2,g3,g4,g5]:=ab7 P;let c:∀{m:Nat}{y:aj}{n:Nat},cO m y=B n->y≠ #[62]:=λh e=>by rw[e,agH]at h;cases h
let C:(s::w::k::u::v::r).contains (#[62]:aj)=r.contains #[62]:=by let f:∀{y:aj},y≠ #[62]->((#[62]:aj)==y)=ag:=λh=>aaR.mpr λe=>h e.symm;rw[mP,mP,mP,mP,mP,f<|c Q,f<|c g2,f<|c g3,f<|c g4,f<|c g5];rfl
let i:pY (s::w::k::u::v::r)=(if r.length=(r.takeWhile λ(x:aj)=>x !=#[62]).length\/16<(r.takeWhile λ(x:aj)=>x !=#[62]).length\/16<(r.drop<|(r.takeWhile λ(x:aj)=>x !=#[62]).length+1).length then Z else match ou (r.takeWhile λ(x:aj)=>x !=#[62]),ou (r.drop<|(r.takeWhile λ(x:aj)=>x !=#[62]).length+1)with|some x,B y=>B ⟨d==1,j,p,q,t,x,y⟩|_,_=>Z):=by unfold pY;simp only[Q,g2,g3,g4,g5];rfl
rw[i];show He (a:=bA #[d,j,p,q,t]) (az (e0 ()) g) ?_;cases X:r.contains (#[62]:aj)with|false=>rw[aab<|.inl<|by rw[V7 X]];show ee (bX (x:=Y) (cN (a9<|ax aM (af ())<|by rw[show((">":Str))=tS #[62]from IF];show Oe)<|by rw[C,X];rfl) (λ_=>jV) λz=>by cases z) ()|true=>
let[t1,t2]:=V8 X;let ma:(r.takeWhile λx=>x !=#[62]).length<r.length:=(el.mp t1).1;generalize hA:(r.takeWhile λ(x:aj)=>x !=#[62])=A at*;let F:r.take A.length=A:=by rw[<-hA];show ale.symm
let G:gG r:=hw.tail.tail.tail.tail.tail;let k1:=Nb T (M:=M) (most:=8) (F▸G.take A.length) @o_;let k2:=Nb T (M:=M) (most:=8) (G.drop<|A.length+1) @o_;let n62:∀m,m<5+A.length->(s::w::k::u::v::r)[m]?≠B #[62]:=λm hm=>by match m,hm with|0,_=>simpa using c Q|1,_=>simpa using c g2|2,_=>simpa using c g3|3,_=>simpa using c g4|4,_=>simpa using c g5|m+5,hm=>simpa using t2 m @o_
let H:(s::w::k::u::v::r)[5+A.length]?=B #[62]:=by rw[show 5+A.length=A.length+5 by lia];simpa using t1
show jf (o:=(if 2*8<A.length then Z else ou A).bind λx=>(if 2*8<(r.drop<|A.length+1).length then Z else ou<|r.drop<|A.length+1).bind λy=>B ([d==1,j,p,q,t,x,y]:dY)) ?_ ?_
.show jf (jX (b:=ag) (cN (a9<|ax aM (af ())<|by rw[show((">":Str))=tS #[62]from IF];show Oe)<|by rw[C,X];rfl) (o:=(if 2*8<A.length then Z else ou A).bind λx=>(if 2*8<(r.drop<|A.length+1).length then Z else ou<|r.drop<|A.length+1).bind λy=>B ([d==1,j,p,q,t,x,y]:dY)) λ_=>?_) ();show He (a:=aN<|5+A.length) (aag (w:=#[62]) @b_ (bI aM<|by rw[show((">":Str))=tS #[62]from IF]) H n62) ?_;show Bv (lu (ai (bI (b:=aL<|A.map aW) (Lh @b_ aM @b_ @o_ @o_) ?_)<|ai bZ au) k1) λx _=>?_;{rw[show(((5+A.length:Nat):Int)).toNat-(5:Int).toNat=A.length by lia];change aL ((r.map aW).take A.length)=_;rw[<-qW,F]};show Bv (lu (ai (bI (b:=aL<|(r.drop<|A.length+1).map aW) (t7 @b_ (ax @b_ aM g8) @o_) ?_)<|ai bZ au) k2) λy _=>qI (o:=B ([d==1,j,p,q,t,x,y]:dY)) ?_;{rw[show(((5+A.length:Nat):Int)+1).toNat=(A.length+1)+5 by lia];change aL ((r.map aW).drop<|A.length+1)=_;rw[<-yH]};let hf:aN (cK<|d==1)=aN d:=by let:=N0 Q;match d,this with|0,_=>rfl|1,_=>rfl
 change ED E _ _ M$ c_ D [d==1,j,p,q,t,x,y];unfold c_;rw[hf];show lq (ai (af ())<|ai (af ())<|ai @b_ au) λx _=>ac1 T
by_cases I:16<A.length;{rw[aab (show 2*8<A.length by lia),aab (show r.length=A.length\/16<A.length\/16<(r.drop<|A.length+1).length from .inr<|.inl I)];rfl};by_cases J:16<(r.drop<|A.length+1).length;{rw[aab (show 2*8<(r.drop<|A.length+1).length by lia),aab (show r.length=A.length\/16<A.length\/16<(r.drop<|A.length+1).length from .inr<|.inr J)];cases(if 2*8<A.length then Z else ou A)<;>rfl};rw[aaa @o_,aaa @o_,aaa (by
intro h;rcases h with h|h|h
.lia
.show I h
show J h)]
cases ou A<;>cases ou (r.drop (A.length+1))<;>rfl}
abbrev lD:List aj:=p4.map cy
def Om:pf.map V.str=jh lD:=by decide+kernel
def aaM:ED E (tC<|.ref<|D.ad "OP_WORDS") ρ M$ aT D.K<|(jh lD).map aV:=by rw[<-Om];show gZ T (n:="OP_WORDS")<|by decide+kernel
def adA:CD (QL D) #[aW w] M$ aB<|jM w:=by lk;show aF (ax @b_ (aaM T)<|uD () (B3 lD)) ?_;rw[MD];rfl
def aah(d:ED E tb ρ M$ aW w)(f:lD[j]?=B w)(O:∀m,m<j->lD[m]?≠B w):ED E (vd D.K (tC<|.ref<|D.ad "OP_WORDS")<|aJ tb aX) ρ M$ aN j:=λg F H R h Q q=>by(let i:∀H,cP D.K H (D.ad "OP_WORDS")<|jh lD:=λH=>by rw[<-Om];show T.tup ("OP_WORDS",pf.map V.str) @k_ H);show .inr [.inr<|.inl [(),T.words],?_];show ai d au g F H R h _ λr l c n a=>?_;cases a with|cons k t=>cases t;cases k;show [_,jh lD,.str<|tS w,j,.str<|tS w,(),(),i c,(),B3 lD,by unfold jh;rw[du,f];rfl,by rw[t9];simp,λm s o b=>?_,q _ l c n ()];unfold jh at b;rw[du]at b;let[y,p,rfl]:=jl.mp b;rw[t9,aaS];show λe=>O m o<|e▸p
def adX(h:lD.findIdx? (λx=>x==w)=B j):CD (QZ D) #[aW w] M$ aN j:=by lk;rw[sZ]at h;let[a,b,c]:=h;show bV<|aah T @b_ ?_ λm d z=>?_;{rw[bF a];rw[aaF.mp b]};let:=c m d;rw[bF @o_]at z;cases z;simp at this
def aht(h:jM w=Y):∃j,lD.findIdx? (λx=>x==w)=B j:=by unfold jM at h;cases e:lD.findIdx? (λx=>x==w)with|some j=>show [j,()]|none=>rw[iE]at e;let:=e w<|WQ.mp h;simp at this
section
variable{x:aa}{ls s:List aO}
abbrev jt(ws:List aj):As:=aL<|ws.map aW
abbrev nk(x:aO):As:=jt<|x.1::x.2
def ja(ls r:List aO):Prop:=U r<=U ls/\r=ls.drop (U ls-U r)
abbrev eY(D:aH)(ls r:List aO):Cl:=.obj (D.ad "LineReader") #[("lines",aL<|ls.map nk),("spot",aN<|U ls-U r)]
def oG(ls:List aO):Prop:=U ls<=30000/\∀y∈ls,gG<|y.1::y.2
def MH(h:ja ls<|y::r):ja ls r:=by let[a,b]:=h;rw[bR]at a;show [by omega,?_];let:r=(y::r).drop 1:=();(conv=>lhs;rw[this,b,pS]);rw[bR];congr 1;omega
def MG(h:ja ls<|y::r):ls[U ls-U (y::r)]?=B y:=by let:=aad (λl=>l[0]?) h.2;simp only[Ci,List.getElem?_cons_zero,Nat.add_zero]at this;show this.symm
def EX(h:ja ls r)(a:y∈r):y∈ls:=by rw[h.2]at a;show Cq a
def Nr(b:ja ls s)(a:M x=B (eY D ls s)):CD (uX D) #[aV<|.ref x] M$ aB<|~~~(s=[]):=by lk;let c:=b.1;show aF (ax (gJ T @b_ a () @k_) (dm (ai (gJ T @b_ a () @k_) au) lU) kP)<|bN ?_;rw[aP,cb];simp only[aaK];constructor;{intro h;show iG.mp @O_};intro h;subst h;simp
def uo(b:ja ls s)(a:M x=B (eY D ls s)):CD (sI D) #[aV<|.ref x] M$ aW<|gL s:=by lk;show br (a9<|hU @b_ a (.tail _<|.head _) () au<|Nr T b a) (λO=>?_) () λO=>?_;{let:s=[]:=aaL O;subst this;show aF aM (by rw[show dj ""=tS (gL [])from by decide+kernel])};let:s≠[]:=abw O;cases s with|nil=>show absurd () this|cons y r=>show bV<|ax (ax (gJ T @b_ a () @k_) (gJ T @b_ a () @k_)<|qA<|MG b) aM<|kn (i:=0) () rfl
def fW(w:aj):List aO->Option (List aj×List aO)|[]=>Z|x::l=>if x.1=w then B (x.2,l)else Z
def BX(w:String)(l:List aO):fW (cy w) l=fF w l:=by cases l<;>rfl
abbrev RL(D:aH)(ls:List aO){α:Type}(sp:Sp)(l:List As)(f:List aO->Option (α×List aO))(enc:α->As):Prop:=wg (ja ls) (eY D ls) @q_ sp l f enc
abbrev Kp(D:aH)(ls:List aO){α:Type}(E:XK)(te:TE)(ρ:En)(x:aa)(f:List aO->Option (α×List aO))(enc:α->As):Prop:=eO (ja ls) (eY D ls) @q_ E te ρ x f enc
def aby(a:w≠[]):∀{s:List aO},(gL s=w)<->∃y r,s=y::r/\y.1=w|[]=>[λh=>absurd h.symm a,λ⟨_,_,h,_⟩=>by cases h]|y::r=>[λh=>[y,r,(),h],λ⟨_,_,h,e⟩=>by cases h;show e]
def Fc(g:w≠[]):RL D ls (mE D) #[aW w] (fW w) jt:=jA (λE x M s c d=>by let b:TD E (tB<|aq (eE D.K) (bC #[(D.ad "LineReader",sI D)] "first_word" E (ay 0) aX)<|ay 1) #[B<|aV<|.ref x,B<|aW w] M$ !~~~(gL s=w):=cN (a9<|ax (hU @b_ d (.head _) () au<|uo T c d) @b_ Od) (by congr 1;rw[aaP];show ve);by_cases e:gL s=w;{let[y,r,rfl,h]:=(aby g).mp e;rw[aae e]at b;change gm _ _ _ _ M x jt (if y.1=w then B (y.2,r)else Z);rw[aab h];let j:=c.1;rw[bR]at j;show [MH c,?_];show br b @j_ () λ_=>bg (uS T (ax (gJ T @b_ d () @k_) aM g8) @b_ d @k_ @s_) ?_;let l:(((ls.length-(y::r).length:Nat):Int)+1)=((ls.length-r.length:Nat):Int):=(by rw[bR];lia);let m:ph "spot" (aI<|((ls.length-(y::r).length:Nat):Int)+1) #[("lines",aL<|ls.map nk),("spot",aN<|ls.length-(y::r).length)]=(#[("lines",aL<|ls.map nk),("spot",aN<|ls.length-r.length)]:List<|Str×As):=(by rw[l];rfl);rw[m];let f:=MG c;show G3 (t7 (ax (gJ T @b_ bO () @k_) (ax (gJ T @b_ bO () @k_) aM FI)<|kn (i:=ls.length-(y::r).length) (a:=nk y) (by rw[bR];lia)<|by rw[du,f];rfl) aM @o_) () rfl};rw[aac e]at b;let:fW w s=Z:=(by cases s with|nil=>rfl|cons y r=>show aaa e);rw[this];show pG (br b (λ_=>jV) () @j_) o8) ()
end
section
variable{x:aa}{ls s:List aO}{α:Type}
def ji(c:List aO->Bool)(f:List aO->Option (α×List aO)):Nat->List aO->Option (List α×List aO)
|0,s=>if c s=Y then Z else B ([],s)
|n+1,s=>if c s=Y then(f s).bind λy=>(ji c f n y.2).map λr=>(y.1::r.1,r.2)else B ([],s)
def Way(c:List aO->Bool)(f:List aO->Option (α×List aO))(s:List aO)(vs:List α)(st:Nat->List aO):Prop:=st 0=s/\∀j v,vs[j]?=B v->c (st j)=Y/\f (st j)=B (v,st<|j+1)
theorem Wz{c:List aO->Bool}{f:List aO->Option (α×List aO)}(hd:∀s v r,f s=B (v,r)->U r<U s)(g:c []=ag):∀n s,U s<=n->(∃vs st,ji c f n s=B (vs,st (U vs))/\Way c f s vs st/\c (st (U vs))=ag)\/(ji c f n s=Z/\∃vs st,Way c f s vs st/\c (st (U vs))=Y/\f (st (U vs))=Z)|0,s,m=>by let:s=[]:=iG.mp @o_;subst this;show .inl [[],λ_=>[],by unfold ji;rw[g];rfl,[(),λj v h=>by simp at h],g]|n+1,s,m=>by unfold ji;cases d:c s with|false=>show .inl [[],λ_=>s,by rw[aaa @s_],[(),λj v h=>by simp at h],d]|true=>rw[aab ()];cases e:f s with|none=>show .inr [(),[],λ_=>s,[(),λj v h=>by simp at h],d,e]|some y=>(let[v,r]:=y;let p:=hd s v r e;simp only[bM];rcases Wz hd g n r @o_ with⟨vs,st,i,b,l⟩|⟨i,vs,st,b,l,o⟩);{show .inl [v::vs,λj=>match j with|0=>s|j+1=>st j,by rw[i];rfl,[(),λj w a=>?_],l];cases j with|zero=>simp at a;subst a;show [d,by change f s=B (v,st 0);rw[b.1];show e]|succ j=>show b.2 j w (a:)};show .inr [by rw[i];rfl,v::vs,λj=>match j with|0=>s|j+1=>st j,⟨(),λj w a=>?_⟩,l,o];cases j with|zero=>simp at a;subst a;show [d,by change f s=B (v,st 0);rw[b.1];show e]|succ j=>show b.2 j w (a:)
theorem mu4{M:Mu}{x p:aa}{a b c d:Cl}:mu (mu (mu (mu M x a) p b) x c) p d=mu (mu M x c) p d:=by funext q;unfold mu;by_cases e:q=p;{simp[e]};by_cases f:q=x<;>simp[e,f]
theorem GS{c:List aO->Bool}{f:List aO->Option (α×List aO)}{b:List α->Bool}{enc:α->As}{tt:TT}{body u:TS}{i:Nat}{a:En}{X:aa}(hl:U ls<=30000)(hd:∀s v r,f s=B (v,r)->U r<U s)(h0:c []=ag)(hc:∀p M s,p≠x->ja ls s->M x=B (eY D ls s)->TD E tt (a.set i<|B<|aV<|.ref p) M (.vl (c s) M))(O:∀p M s acc,p≠x->ja ls s->M x=B (eY D ls s)->M p=B (.lst acc)->U acc<sizeLine->c s=Y->match f s with|some (v,r)=>ja ls r/\SD E body (a.set i (B (aV (.ref p)))) M (.nx (a.set i (B (aV (.ref p)))) (mu (mu M x (eY D ls r)) p (.lst (acc++#[enc v]))))|none=>SD E body (a.set i (B (aV (.ref p)))) M (.xc X (mx M x)))(hu:∀p M vs,M p=B (.lst<|vs.map enc)->if b vs=Y then SD E u (a.set i<|B<|aV<|.ref p) M (.xc X M)else SD E u (a.set i<|B<|aV<|.ref p) M<|.rt (aL<|vs.map enc)<|mx M p):hJ (ja ls) (eY D ls) X E (bQ (b_ (bJ aX)<|aY i)<|bQ (mG tt body) u) a x (λs=>(ji c f s.length s).bind λy=>if b y.1=Y then Z else B y) (λvs=>aL<|vs.map enc):=λM s hs I=>by{
let hz:=eN;let G:∀{vs:List α}{st:Nat->List aO},Way c f s vs st->∀j,j<=U vs->ja ls (st j)/\U (st j)+j<=U s:=λ{vs st} A j=>by induction j with|zero=>intro _;rw[A.1];show [hs,by lia]|succ j ih=>intro m;let[J,i2]:=ih @o_;let[P,H]:=A.2 j vs[j]<|bF @o_;let e:∃p:aa,p≠x:=[Nat.succ x,Xx x];let[p,e]:=e;let q:=O p (mu (mu M x<|eY D ls<|st j) p<|.lst []) (st j) [] e J (by rw[bG e.symm,bO]) bO (by rw[iY];lia) P;rw[H]at q;show [q.1,by let:=hd _ _ _ H;lia]
let hsl:=hs.1;let turn:∀{vs:List α}{st:Nat->List aO},Way c f s vs st->∀(p:aa),p≠x->∀j,j<U vs->SD E body (a.set i<|B<|aV<|.ref p) (mu (mu M x<|eY D ls<|st j) p<|.lst<|(vs.take j).map enc) (.nx (a.set i<|B<|aV<|.ref p)<|mu (mu M x<|eY D ls<|st<|j+1) p<|.lst<|(vs.take<|j+1).map enc):=λ{vs st} A p e j m=>by let[J,i2]:=G A j @o_;let hv:vs[j]?=B vs[j]:=bF m;let[P,H]:=A.2 j vs[j] hv;let q:=O p (mu (mu M x<|eY D ls<|st j) p<|.lst<|(vs.take j).map enc) (st j) ((vs.take j).map enc) e J (by rw[bG e.symm,bO]) bO (by rw[aP,gj];lia) P;rw[H]at q;let q2:=q.2;rw[mu4]at q2;rw[take_snoc hv,eV];show q2
let C:∀{vs:List α}{st:Nat->List aO},Way c f s vs st->∀(p:aa),p≠x->∀j,j<=U vs->TD E tt (a.set i<|B<|aV<|.ref p) (mu (mu M x<|eY D ls<|st j) p<|.lst<|(vs.take j).map enc) (.vl (c<|st j)<|mu (mu M x<|eY D ls<|st j) p<|.lst<|(vs.take j).map enc):=λ{vs st} A p e j m=>hc p _ (st j) e (G A j m).1 (by rw[bG e.symm,bO]);let Q:∀p,M p=Z->p≠x:=λp h z=>by rw[z,I]at h;cases h
rcases Wz hd h0 s.length s (bD _)with⟨vs,st,t,g,w⟩|⟨t,vs,st,g,w,h4⟩
.change gm _ _ _ _ M x _<|fm (ji c f s.length s) _;rw[t,bM];let run:∀p,M p=Z->SD E (mG tt body) (a.set i<|B<|aV<|.ref p) (mu M p<|.lst []) (.nx (a.set i<|B<|aV<|.ref p)<|mu (mu M x<|eY D ls<|st (U vs)) p<|.lst<|vs.map enc):=λp e=>by{
let l:=Q p e;let:=G7 (E:=E) (tt:=tt) (body:=body) vs.length (λ_=>a.set i<|B<|aV<|.ref p) (λj=>mu (mu M x<|eY D ls<|st j) p<|.lst<|(vs.take j).map enc) (λj=>mu (mu M x<|eY D ls<|st j) p<|.lst<|(vs.take j).map enc) (M1:=mu (mu M x<|eY D ls<|st (U vs)) p<|.lst<|(vs.take (U vs)).map enc)
 (λj m=>by
  let:=C g p l j @o_;rw[(g.2 j vs[j]<|bF m).1]at this;show this) (λj m=>turn g p l j m) (by
  let:=C g p l (U vs)<|bD _;rw[w]at this;show this)
rw[lO]at this;simp only[g.1,Cr,tp,jO I]at this;show this};let hi:=(G g (U vs)<|bD _).1;cases F:b vs with|true=>(rw[aab ()];show qH au (by rw[iY];lia) λp e=>bg (run p e) ?_;let q:=hu p (mu (mu M x<|eY D ls<|st (U vs)) p<|.lst<|vs.map enc) vs bO;rw[F,aab ()]at q;show pG q λy d n=>?_;let t:y≠x:=λz=>by subst z;unfold mx at n;rw[aab ()]at n;cases n);(let g:=o8 _ _ n;let w:y≠p:=λz=>by rw[z,e]at g;cases g);rw[bG w,bG t];show g|false=>rw[aaa @s_];show [hi,?_];show qH au (by rw[iY];lia) λp e=>bg (run p e) ?_;let q:=hu p (mu (mu M x<|eY D ls<|st (U vs)) p<|.lst<|vs.map enc) vs bO;rw[F,aaa @s_,o9<|by rw[bG<|Q p e];show e]at q;show q
change gm _ _ _ _ M x _<|fm (ji c f s.length s) _;rw[t,rf];show qH au (by rw[iY];lia) λp e=>ee ?_ ();let l:=Q p e;let hn:=G g (U vs)<|bD _;let q:=O p (mu (mu M x<|eY D ls<|st (U vs)) p<|.lst<|(vs.take (U vs)).map enc) (st (U vs)) ((vs.take (U vs)).map enc) l hn.1 (by rw[bG l.symm,bO]) bO (by rw[aP,gj];lia) w;rw[h4]at q;let:=akc (E:=E) (tt:=tt) (body:=body) (o:=.xc X<|mx M x) vs.length (λ_=>a.set i<|B<|aV<|.ref p) (λj=>mu (mu M x<|eY D ls<|st j) p<|.lst<|(vs.take j).map enc) (λj=>mu (mu M x<|eY D ls<|st j) p<|.lst<|(vs.take j).map enc)
 (λj m=>by
  let:=C g p l j @o_;let T:c (st j)=Y:=by
   by_cases z:j<U vs
   .show(g.2 j vs[j]<|bF z).1
   .let:j=U vs:=by lia
    subst this;show w
  rw[T]at this;show this) (λj m=>turn g p l j m) (pG q λy d n=>by
  let t:y≠x:=λz=>by subst z;unfold mx at n;rw[aab ()]at n;cases n
  let g:=o8 _ _ n;let w:y≠p:=λz=>by rw[z,e]at g;cases g
  unfold mx;rw[aaa t,bG w,bG t];show g) ()
simp only[g.1,Cr,tp,jO I]at this;show this}
end
section
variable{x:aa}{ls s:List aO}{α:Type}
def Ww(a:cy w≠[]):∀(n:Nat)(s:List aO),U s<=n->ji (λs=>~~~(gL s=cy w)) (fW<|cy w) n s=B (yS w s)|0,s,b=>by let:s=[]:=iG.mp @o_;subst this;unfold ji;rw[aaa<|by rw[aac λz=>a z.symm];simp];rfl|n+1,s,b=>by unfold ji;cases s with|nil=>rw[aaa<|by rw[aac λz=>a z.symm];simp];rfl|cons y r=>rw[bR]at b;by_cases h:y.1=cy w;{rw[aab<|aae (show gL (y::r)=_ from h),show fW (cy w) (y::r)=B (y.2,r)from aab h];simp only[bM];rw[Ww a n r @o_];let O:(y.1==cy w)=Y:=aaF.mpr h;unfold yS;simp only[yL,O,abu,cC,bR,WS,gC]};rw[aaa<|by rw[aac (show¬gL (y::r)=_ from h)];simp];let O:(y.1==cy w)=ag:=aaR.mpr h;unfold yS;simp[yL,O]
def akN(s:List aO)(v:List aj)(r:List aO)(h:fW w s=B (v,r)):U r<U s:=by cases s with|nil=>cases h|cons y l=>by_cases e:y.1=w;{rw[show fW w (y::l)=B (y.2,l)from aab e]at h;cases h;simp};rw[show fW w (y::l)=Z from aaa e]at h;cases h
def akO(h:fW w s=B (v,r)):∃y,s=y::r/\v=y.2:=by cases s with|nil=>cases h|cons y l=>by_cases e:y.1=w;{rw[show fW w (y::l)=B (y.2,l)from aab e]at h;cases h;show [y,(),()]};rw[show fW w (y::l)=Z from aaa e]at h;cases h
def AA(a:w≠[])(b:ρ[k]?=B (B<|aV<|.ref x))(c:∀M,AD E ta ρ M$ #[aW w]):Kp D ls E (bC #[(D.ad "LineReader",mE D)] "take_line" E (ay k) ta) ρ x (fW w) jt:=xU (λs=>[_,(),()]) (λM=>af b) (.head _) c (Fc T a)
def ae_(n:oG ls)(i:cy w≠[]):RL D ls (nU D) #[aW<|cy w,aN most] (eR w most) λj=>aL<|j.map jt:=jA (λE x=>by show dg (GS (ls:=ls) (c:=λs=>~~~(gL s=cy w)) (f:=fW<|cy w) (b:=λg=>~~~(most<U g)) (enc:=jt) n.1 akN (aac λz=>i z.symm) (λp M s m l a=>?_) (λp M s acc m l a d o u=>?_) λp M g d=>?_) λs=>?_;{show cN (a9<|ax (hU @b_ a (.head _) () au<|uo T l a) @b_ uA) ?_;rw[aaP];show ve};{let q:=Fc (ls:=ls) T i M x s l a;cases e:fW (cy w) s with|none=>rw[e]at q;show G2 (Lb () @b_ d<|j9<|hU @b_ a (.head _) () (ai @b_ au) q)|some y=>let[v,r]:=y;rw[e]at q;show [q.1,hB<|i7 () @b_ d (ai (hU @b_ a (.head _) () (ai @b_ au) q.2) au)<|kM (by rw[bG m];show d) o]};{let t:TD E (tB<|aq (ek) (cz (gP D.K)<|aJ (ay 3) aX)<|ay 2) ((jY 4<|aV (.ref x)::#[aW<|cy w,aN most]).set 3<|B<|aV<|.ref p) M$ ~~~(most<U g):=cN (a9<|ax (dm (ai @b_ au)<|wx d) @b_ ia) (by rw[aaP,aP];omega);by_cases h:most<U g;{rw[aae h]at t⊢;rw[aab ()];show br t (λ_=>jV) () (λz=>by cases z)};rw[aac h]at t⊢;rw[aaa @s_];show br t @j_ () λ_=>pJ @b_ d};rw[Ww i _ _<|bD _,bM];unfold eR;by_cases h:most<(yS w s).1.length;{rw[aab<|aae h,aab h]};rw[aaa<|by rw[aac h];simp,aaa h]) ()
def xu(b:oG ls)(c:cy w≠[])(d:ρ[k]?=B (B<|aV<|.ref x))(e:∀M,AD E ta ρ M$ #[aW<|cy w,aN most]):Kp D ls E (bC #[(D.ad "LineReader",nU D)] "take_lines" E (ay k) ta) ρ x (eR w most) λa=>aL<|a.map jt:=xU (λs=>[_,(),()]) (λM=>af d) (.head _) e (ae_ T b c)
end
section
variable{x:aa}{ls s:List aO}{α:Type}
abbrev Ak:List Nat:=#[255,255,255,65535,65535,65535,65535,4294967295,18446744073709551615,4294967295]
def A3:List aO->Option (bf×List aO)|[]=>Z|x::l=>(tE x).map λo=>(o,l)
def FP(y:aO)(l:List aO):A3 (y::l)=(tE y).map λo=>(o,l):=()
def ahK(s:List aO)(v:bf)(r:List aO)(h:A3 s=B (v,r)):U r<U s:=by cases s with|nil=>cases h|cons y l=>rw[FP]at h;cases e:tE y with|none=>rw[e]at h;cases h|some o=>rw[e]at h;cases h;simp
def Wx:∀(n:Nat)(s:List aO),U s<=n->ji (λs=>jM<|gL s) A3 n s=gx s|0,s,a=>by let:s=[]:=iG.mp @o_;subst this;unfold ji;rw[aaa<|by decide+kernel];rfl|n+1,s,a=>by unfold ji;cases s with|nil=>rw[aaa<|by decide+kernel];rfl|cons y r=>rw[bR]at a;unfold gx;by_cases h:jM y.1=Y;{rw[aab (show jM (gL<|y::r)=Y from h),aab h];rw[FP];cases e:tE y with|none=>rfl|some o=>simp only[gC,bM];rw[Wx n r @o_]};rw[aaa (show¬jM (gL<|y::r)=Y from h),aaa h]
def ahe(h:lD.findIdx? (λx=>x==y.1)=B j):tE y=(fE Ak y.2).map λl=>uw<|#[j]++l++#[0]:=by{
let g:fJ 4=4294967295:=by decide
let n:fJ 8=18446744073709551615:=by decide
by_cases f:U y.2=10;{unfold tE fE;rw[h];match e:y.2,f with| #[k,m,z,d,a,b,c,w,i,t],_=>rw[aaa @s_];dsimp only;simp-iota only[mT,g,n,Ct,Jh,mapM_cons,Jb];cases cO 255 k with|none=>rfl|some k=>cases cO 255 m with|none=>rfl|some m=>cases cO 255 z with|none=>rfl|some z=>cases cO 65535 d with|none=>rfl|some d=>cases cO 65535 a with|none=>rfl|some a=>cases cO 65535 b with|none=>rfl|some b=>cases cO 65535 c with|none=>rfl|some c=>cases cO 4294967295 w with|none=>rfl|some w=>cases cO 18446744073709551615 i with|none=>cases cO 4294967295 t<;>rfl|some i=>cases cO 4294967295 t with|none=>rfl|some t=>rfl};unfold fE;rw[aab (f:)];cases e:tE y with|none=>rfl|some o=>let[_,_,_,_,_,_,_,_,_,_,_,_,_,_,_,_,_,_,_,_,_,_,p,_]:=AZ e;rw[p]at f;show absurd () f}
def agI(h:fE ms ws=B l):U l=U ms:=by unfold fE at h;split at h;{cases h};rename_i a;let:=(si h).1;rw[this,vv];lia
def Nt(A:oG ls):RL D ls (BK D) [] gx λl=>aL<|l.map<|bb D:=jA (λE x=>by let G:=eN;show dg (GS (ls:=ls) (c:=λs=>jM<|gL s) (f:=A3) (b:=λH=>ag) (enc:=bb D) A.1 ahK @k_ (λp M s v g a=>?_) (λp M s acc v g a t C h=>?_) λp M H t=>?_) λs=>?_;{show a9<|az (ai (hU @b_ a (.head _) () au<|uo T g a) au)<|adA T};{cases s with|nil=>show absurd h @k_|cons y r=>(let h:jM y.1=Y:=h;let w:y.1≠[]:=λz=>by rw[z]at h;show absurd h @k_);let[j,F]:=aht h;let I:gG y.2:=(A.2 y<|EX g<|.head _).tail;let q:=Fc (ls:=ls) T w M x (y::r) g a;rw[show fW y.1 (y::r)=B (y.2,r)from aab ()]at q;let k:=Ao T (M:=mu M x<|eY D ls r) (ms:=Ak) I;let J:=ahe F;let arg:∀{ρ:En},ρ[0]?=B (B<|aV<|.ref x)->ρ[2]?=B (B<|aW y.1)->AD E (aJ (bC #[(D.ad "LineReader",mE D)] "take_line" E (ay 0)<|aJ (ay 2) aX)<|aJ (tC<|.ref<|D.ad "INSTRUCTION_MOST") aX) ρ M (.vl #[jt y.2,aT D.K<|Ak.map aN]<|mu M x<|eY D ls r):=λP Q=>ai (hU (af P) a (.head _) () (ai (af Q) au) q.2)<|ai (gZ T (n:="INSTRUCTION_MOST") (l:=ez #[255,255,255,65535,65535,65535,65535,4294967295,18446744073709551615,4294967295])<|by decide+kernel) au;rw[FP,J];cases e:fE Ak y.2 with|none=>(rw[e]at k;show pG (bt (hU @b_ a (.head _) () au<|uo T g a)<|ee (mB<|az (arg () rfl) k) ()) λz d u=>?_;let X:z≠x:=λe=>by subst e;unfold mx at u;rw[aab ()]at u;cases u);rw[bG X];show o8 _ _ u|some l=>rw[e]at k;let i:=agI e;let i:U l=10:=i;show [MH g,?_];show bt (hU @b_ a (.head _) () au<|uo T g a)<|bt (az (arg () rfl) k) ?_;let m:U (#[j]++l++#[0])=12:=(by simp[i]);show gR (hB<|i7 () @b_ (by rw[bG v];show t) (ai (lq (ai (ax (ax (bI (kh (ai (az (ai @b_ au)<|adX T F) au) @m_) (b:=bA #[j]) ()) (af ())<|AU<|by simp[i];lia) (bI (kh (ai bZ au) @m_) (b:=bA #[0]) ())<|AU<|by simp[i];lia) au) λz C=>?_) au)<|kM (by rw[bG v];show t) C)<|.cons<|.cons<|.aC<|.aC .nil;let:=MR T (M:=mu M x<|eY D ls r) (x:=z) (o:=uw<|#[j]++l++#[0]);rw[NP m]at this;show this};{rw[aaa @s_];show pJ @b_ t};rw[Wx _ _<|bD _];cases gx s<;>rfl) ()
end
section
variable{x:aa}{ls s:List aO}
section
variable{σ α β γ:Type}{inv:σ->Prop}{bc:σ->Cl}{X:aa}{ρ:En}{t u:TS}{yn:TE}{f:σ->Option (α×σ)}{enc:α->As}{enc':β->As}
theorem aar{wi:TI}{g:TG}{is:List Nat}{xs:List α}{f:α->As}{h:α->Option β}(v:WD E wi ρ M<|.vl (xs.map f) M1)(w:U xs<=sizeLine)(o:∀x∈xs,∃ρ1,GD g is (f x) (j0 ρ is) ρ1/\qh E X te ρ1 M1 enc' (h x)):match xs.mapM h with|some i=>ED E (cH wi g dA te is) ρ M (.vl (aL (i.map enc')) M1)|none=>ED E (cH wi g dA te is) ρ M (.xc X M1):=by{
cases e:xs.mapM h with|some i=>let[p,q]:=si e;show Eb (λ_=>M1) v (by rw[aP,aP,p]) (by rw[aP];show w) λj a b c O=>?_;rw[du]at c O;let[x,hx,rfl]:=jl.mp c;let[y,m,rfl]:=jl.mp O;let[ρ1,l,d]:=o x<|bY hx;rw[q j x y hx m]at d;show [ρ1,l,d]|none=>
let[n,r,p,i,q]:=Ay e;let[z,A]:=si q;let C:U i=n:=by rw[z,gj];lia
show Ec (bs:=i.map enc') (λ_=>M1) n v (by rw[aP];show r) (by rw[aP,C]) (by rw[aP];show w) (λj a b c O=>?_) λa c=>?_
.rw[du]at c O;let[x,hx,rfl]:=jl.mp c;let[y,m,rfl]:=jl.mp O;let F:j<n:=by let:=(el.mp m).1;lia
 let[ρ1,l,d]:=o x<|bY hx;rw[A j x y (by rw[W2,aab F];show hx) m]at d;show [ρ1,l,d]
rw[du,bF r]at c;cases c;let[ρ1,l,d]:=o xs[n]<|lN r;rw[p]at d;show [ρ1,l,d]}
theorem Lf{C:aa}{M2:Mu}(h:ED E te ρ M<|.xc C M1)(k:∀p c,M2 p=B c->M1 p=B c):ED E te ρ M<|.xc C M2:=λσ F H R w Q q=>h σ F H R w _ λa b g=>q a b<|g.drop k
theorem Fu{c:Cl}:∀p d,mx M x p=B d->mu M x c p=B d:=λp d a=>by(let b:p≠x:=λe=>by subst e;unfold mx at a;rw[aab ()]at a;cases a);rw[bG b];show o8 _ _ a
theorem GU{sp:Sp}{a:TA}{l:List As}{h:α->Option β}(g:eO inv bc X E te ρ x f enc)(b:∀M,AD E a ρ M$ l)(i:∀s v r,inv s->f s=B (v,r)->∀M,jo X sp (enc v::l) M enc'<|h v):eO inv bc X E (dq sp [] E<|aJ te a) ρ x (λs=>(f s).bind λy=>(h y.1).map λz=>(z,y.2)) enc':=λM s c j=>by let q:=g M s c j;change gm inv bc X _ M x enc'<|fm (f s) _;cases e:f s with|none=>rw[e]at q;show Lc (j9 q)|some y=>let[v,r]:=y;rw[e]at q;let k:=i s v r c e<|mu M x<|bc r;simp only[bM];cases d:h v with|none=>rw[d]at k;show Lf (az (ai q.2<|b _) k) Fu|some z=>rw[d]at k;show [q.1,az (ai q.2<|b _) k]
theorem xT{K:aR}{f:σ->Option (List α×σ)}{h:α->Option β}{i:Nat}(c:eO inv bc X E te ρ x f λvs=>aL<|vs.map enc)(d:∀s vs r,inv s->f s=B (vs,r)->vs.length<=sizeLine)(j:∀s vs r,inv s->f s=B (vs,r)->∀v∈vs,∀M,qh E X yn ((j0 ρ #[i]).set i<|B<|enc v) M enc'<|h v):eO inv bc X E (cH (f7 K te) (aY i) dA yn #[i]) ρ x (λs=>(f s).bind λy=>(y.1.mapM h).map λz=>(z,y.2)) (λl=>aL<|l.map enc'):=λM s a m=>by let q:=c M s a m;change gm inv bc X _ M x _<|fm (f s) _;cases e:f s with|none=>rw[e]at q;show aas (qx q λ_ _ _ z=>z)|some y=>let[vs,r]:=y;rw[e]at q;let k:=aar (E:=E) (ρ:=ρ) (X:=X) (te:=yn) (g:=aY i) (is:=#[i]) (xs:=vs) (f:=enc) (h:=h) (enc':=enc') (ij (K:=K) q.2) (d s vs r a e) λv n=>[_,bL,j s vs r a e v n _];simp only[bM];cases b:vs.mapM h with|none=>rw[b]at k;show Lf k Fu|some z=>rw[b]at k;show [q.1,k]
theorem ajS{C:aa}{sp:Sp}{ta:TA}{l:List As}{fs:α->List (Str×As)}{jK:α->As}(h:eO inv bc X E te ρ x f enc)(b:∀a M M1,ED E te ρ M (.vl a M1)->AD E ta ρ M (.vl (l++#[a]) M1))(hx:∀C M M1,ED E te ρ M (.xc C M1)->AD E ta ρ M (.xc C M1))(c:∀v M y,M y=Z->CD sp (aV (.ref y)::(l++#[enc v])) (mu M y<|.obj C []) (.vl aU<|mu M y<|.obj C<|fs v))(d:∀v,i3 C (fs v)=jK v):eO inv bc X E (dN C sp [] E ta) ρ x f jK:=λM s g i=>by let q:=h M s g i;cases e:f s with|none=>rw[e]at q;show oO (hx _ _ _ q)|some v=>let[v,r]:=v;rw[e]at q;show [q.1,?_];rw[<-d v];show lq (b _ _ _ q.2) λy j=>c v _ y j
theorem ajP{tt:TT}{b:α->Bool}{g:σ->Option (β×σ)}(d:∀M s,inv s->M x=B (bc s)->match f s with|some (v,r)=>inv r/\TD E tt ρ M (.vl (b v) (mu M x (bc r)))|none=>TD E tt ρ M (.xc X (mx M x)))(k:hJ inv bc X E u ρ x g enc'):hJ inv bc X E (bQ (bu tt (dB X E) bw) u) ρ x (λs=>(f s).bind λy=>if b y.1=Y then Z else g y.2) enc':=λM s h i=>by let t:=d M s h i;change gm inv bc X _ M x enc'<|fm (f s) _;cases e:f s with|none=>rw[e]at t;show ee (PV t) ()|some y=>let[v,r]:=y;rw[e]at t;let[l,t]:=t;simp only[bM];cases c:b v with|true=>rw[c]at t;rw[aab ()];show pG (br t (λ_=>jV) () @j_) Fu|false=>rw[c]at t;rw[aaa @s_];show((k (mu M x<|bc r) r l bO).mu).map λo j=>?_;cases o with|vl a m=>show br t @j_ () (λ_=>j)|xc C m=>show br t @j_ () (λ_=>j)
def ajT(h:eO inv bc X E te ρ x f enc)(O:∀M,ED E yn ρ M$ b)(c:∀s v r,f s=B (v,r)->∀M,bW E a (enc v) b M$ jK v):eO inv bc X E (aq a te yn) ρ x f jK:=λM s d g=>by let q:=h M s d g;cases e:f s with|none=>rw[e]at q;show Ed q|some v=>let[v,r]:=v;rw[e]at q;show [q.1,ax q.2 (O _)<|c s v r e _]
end
end
section
variable{x:aa}{ls s:List aO}
theorem nt{s:String}(h:s.toList.all (λc=>~~~(c.toNat<256))=Y):ED E (tC<|.str<|dj s) ρ M$ aW<|cy s:=bI aM<|by rw[Ij λc a=>aaL<|cq.mp h c a]
def nG(a:oG ls)(b:ja ls s)(h:eR w most s=B (vs,r)):U vs<=sizeLine/\∀v∈vs,gG v:=by let g:=eN;let e:=(ahT h).1;unfold yS at e;cases e;let i:=a.1;let j:=b.1;let c:=List.takeWhile_sublist (p:=λ(x:aO)=>x.1==cy w) (l:=s);show [by rw[aP];let:=c.length_le;lia,λv d=>?_];let[y,f,rfl]:=c4.mp d;show(a.2 y<|EX b<|c.subset f).tail
def Im(a:oG ls)(b:ja ls s)(h:fW w s=B (v,r)):gG v:=by let[y,rfl,rfl]:=akO h;show(a.2 y<|EX b<|.head _).tail
def Mc(l a:List Nat)(ins:List bT)(outs:List i0)(s:List aO):Option<|cg×List aO:=(gx s).map λb=>(([a,ins,outs,l.getD 0 0,l.getD 1 0==1,b.1]:cg),b.2)
def EE(l a:List Nat)(ins:List bT)(s:List aO):Option<|cg×List aO:=((eR "result" 8 s).bind λy=>(y.1.mapM yX).map λz=>(z,y.2)).bind λy=>Mc l a ins y.1 y.2
def EC(l a:List Nat)(s:List aO):Option<|cg×List aO:=((eR "input" 8 s).bind λy=>(y.1.mapM lP).map λz=>(z,y.2)).bind λy=>EE l a y.1 y.2
def EB(l:List Nat)(s:List aO):Option<|cg×List aO:=((fW (cy "axes") s).bind λy=>(if 4<U y.1 then Z else mT (fJ 4) y.1).map λz=>(z,y.2)).bind λy=>EC l y.1 y.2
def Mb(s:List aO):Option<|cg×List aO:=((fW (cy "piece") s).bind λy=>(fE #[4294967295,1] y.1).map λz=>(z,y.2)).bind λy=>EB y.1 y.2
def uI(ws:List aj):Option<|Nat×Nat:=match ws with| #[p,m]=>(cO (fJ 4) p).bind λp=>(cO 1 m).map λm=>(p,m)|_=>Z
def N2(ws:List aj):fE #[4294967295,1] ws=(uI ws).map λ(a:Nat×Nat)=>#[a.1,a.2]:=by unfold uI;let b:fJ 4=4294967295:=@d_;rw[b];unfold fE;match ws with|[]=>rfl| #[_]=>rfl|_::_::_::_=>rw[aab @s_];rfl| #[p,m]=>rw[aaa @s_];simp only[Ct,Jh,mapM_cons,Jb];cases cO 4294967295 p with|none=>rfl|some p=>cases cO 1 m<;>rfl
def abz(s:List aO):Mb s=ko s:=by let d:ko s=(fF "piece" s).bind λh=>(uI h.1).bind λc=>(fF "axes" h.2).bind λa=>(if kx<U a.1 then Z else mT (fJ 4) a.1).bind λaxes=>(eR "input" 8 a.2).bind λi=>(i.1.mapM lP).bind λins=>(eR "result" 8 i.2).bind λo=>(o.1.mapM yX).bind λouts=>(gx o.2).map λ(b:List bf×List aO)=>(([axes,ins,outs,c.1,c.2==1,b.1]:cg),b.2):=();rw[d];unfold Mb;rw[BX];cases fF "piece" s with|none=>rfl|some h=>simp only[bM,N2];cases uI h.1 with|none=>rfl|some c=>simp only[gC,bM];unfold EB;rw[BX];cases fF "axes" h.2 with|none=>rfl|some a=>simp only[bM];change ((if 4<U a.1 then Z else mT (fJ 4) a.1).map _).bind _=(if kx<U a.1 then Z else mT (fJ 4) a.1).bind _;rw[show kx=4 from()];cases(if 4<U a.1 then Z else mT (fJ 4) a.1)with|none=>rfl|some e=>simp only[gC,bM];unfold EC;cases eR "input" 8 a.2 with|none=>rfl|some i=>simp only[bM];cases i.1.mapM lP with|none=>rfl|some ins=>simp only[gC,bM];unfold EE;cases eR "result" 8 i.2 with|none=>rfl|some o=>simp only[bM];cases o.1.mapM yX with|none=>rfl|some outs=>rfl
def alf(h:((fW (cy "piece") s).bind λy=>(fE #[4294967295,1] y.1).map λz=>(z,y.2))=B (v,r)):∃p m,v=#[p,m]/\m<=1:=by cases e:fW (cy "piece") s with|none=>rw[e]at h;cases h|some y=>rw[e]at h;simp only[bM]at h;cases b:fE #[4294967295,1] y.1 with|none=>rw[b]at h;cases h|some l=>rw[b]at h;cases h;rw[N2]at b;cases a:uI y.1 with|none=>rw[a]at b;cases b|some c=>rw[a]at b;cases b;show [c.1,c.2,(),?_];unfold uI at a;split at a;{rename_i p m d;cases q1:cO (fJ 4) p with|none=>rw[q1]at a;cases a|some f=>rw[q1]at a;cases q2:cO 1 m with|none=>rw[q2]at a;cases a|some g=>rw[q2]at a;cases a;show N0 q2};cases a
theorem afa(T:Tk D)(d:oG ls):RL D ls (RG D) [] ko<|ej D:=jA (λE x=>by let t:=eN;show dg (cM (g:=EB) (enc:=bA) (GU (h:=fE #[4294967295,1]) (enc':=bA) (AA (ls:=ls) T (w:=cy "piece") @k_ () λM=>ai (nt<|by decide+kernel) au) (l:=#[aT D.K<|(#[4294967295,1]:List Nat).map aN]) (λM=>ai (iq (ai bZ<|ai bZ au) @m_) au) λs v r c e M=>Ao T<|Im d c e) λ_ v _ e=>?_) abz;let[p,m,rfl,q]:=alf e;show dg (cM (g:=EC #[p,m]) (enc:=bA) (GU (h:=λo=>if 4<U o then Z else mT (fJ 4) o) (enc':=bA) (AA (ls:=ls) T (w:=cy "axes") @k_ () λM=>ai (nt<|by decide+kernel) au) (l:=#[aN 4]) (λM=>ai bZ au) λs v r c e M=>Nf T<|Im d c e) λ_ f _ _=>?_) λs=>rfl;show dg (cM (g:=EE #[p,m] f) (enc:=λl=>aL<|l.map<|bK D) (xT (K:=D.K) (enc:=jt) (enc':=bK D) (h:=lP) (xu (ls:=ls) T d (w:="input") (most:=8) @k_ () λM=>ai (nt<|by decide+kernel)<|ai bZ au) (λs j r c e=>(nG d c e).1) λs j r c e v n M=>lu (ai @b_ au)<|E7 T<|(nG d c e).2 v n) λ_ ins _ _=>?_) λs=>rfl;show dg (cM (g:=Mc #[p,m] f ins) (enc:=λl=>aL<|l.map<|js D) (xT (K:=D.K) (enc:=jt) (enc':=js D) (h:=yX) (xu (ls:=ls) T d (w:="result") (most:=8) @k_ () λM=>ai (nt<|by decide+kernel)<|ai bZ au) (λs j r c e=>(nG d c e).1) λs j r c e v n M=>lu (ai @b_ au)<|aeh T<|(nG d c e).2 v n) λ_ outs _ _=>?_) λs=>rfl;show dg (uN<|xV (V:=Nat) (mk:=λb:List bf=>([f,ins,outs,p,m==1,b]:cg)) (enc:=ej D)<|ajS (l:=#[bA f,aL<|ins.map<|bK D,aL<|outs.map<|js D,aN p,aN m]) (jT (l:=[]) (λM=>ai @b_ au)<|Nt T d) (λa M M1 h=>ai (af ())<|ai (af ())<|ai (af ())<|ai (ax @b_ aM<|kn (i:=0) () rfl)<|ai (ax @b_ aM<|kn (i:=1) () rfl)<|ai h au) (λC M M1 h=>oI (af ())<|oI (af ())<|oI (af ())<|oI (ax @b_ aM<|kn (i:=0) (a:=aN p) () rfl)<|oI (ax @b_ aM<|kn (i:=1) (a:=aN m) () rfl)<|j9 h) (λv M y u=>MT T) λv=>?_) λs=>rfl;change i3 _ #[_,_,_,_,("flag",aN m),_]=i3 _ #[_,_,_,_,("flag",aN<|cK<|m==1),_];rw[<-DA q]) ()
theorem Wy:∀(n:Nat)(s:List aO),ji (λs=>~~~(gL s=cy "piece")) ko n s=iz n s|0,s=>by unfold ji iz;by_cases h:gL s=cy "piece";{rw[aab<|aae h,aab h]};rw[aaa<|by rw[aac h];simp,aaa h]|n+1,s=>by unfold ji iz;by_cases h:gL s=cy "piece";{rw[aab<|aae h,aab h];cases ko s with|none=>rfl|some y=>simp only[bM,Wy n]};rw[aaa<|by rw[aac h];simp,aaa h]
theorem afb(T:Tk D)(j:oG ls):RL D ls (HV D) [] (λs=>(iz s.length s).bind λy=>if ~~~(256<U y.1)=Y then Z else B y) λl=>aL<|l.map<|ej D:=jA (λE x=>by show dg (GS (ls:=ls) (c:=λs=>~~~(gL s=cy "piece")) (f:=ko) (b:=λd=>~~~(256<U d)) (enc:=ej D) j.1 (λs v r e=>by let:=Ou e;simp at this;omega) @k_ (λp M s m i g=>?_) (λp M s acc m i g a n o=>?_) λp M d a=>?_) λs=>?_;{show cN (a9<|ax (hU @b_ g (.head _) () au<|uo T i g) (nt<|by decide+kernel) uA) ?_;rw[aaP];show ve};{let q:=afa (ls:=ls) T j M x s i g;cases e:ko s with|none=>rw[e]at q;show G2 (Lb () @b_ a<|j9<|az (ai @b_ au) q)|some y=>let[v,r]:=y;rw[e]at q;show [q.1,hB<|i7 () @b_ a (ai (az (ai @b_ au) q.2) au)<|kM (by rw[bG m];show a) n]};{let t:TD E (tB<|aq (ek) (cz (gP D.K)<|aJ (ay 1) aX)<|tC<|.int 256) ((jY 2<|aV (.ref x)::[]).set 1<|B<|aV<|.ref p) M$ ~~~(256<U d):=cN (a9<|ax (dm (ai @b_ au)<|wx a) aM ia) (by rw[aaP,aP];omega);by_cases h:256<U d;{rw[aae h]at t⊢;rw[aab ()];show br t (λ_=>jV) () (λz=>by cases z)};rw[aac h]at t⊢;rw[aaa @s_];show br t @j_ () λ_=>pJ @b_ a};rw[Wy]) ()
end
section
variable{x:aa}{ls s:List aO}
def u8(d:Nat)(c:List bT)(e:List aj)(f:List dY)(a:List bf)(b:List cg)(s:List aO):Option<|a7×List aO:=if ~~~(65536<U a+(b.map λ(x:cg)=>U x.body).sum)=Y then Z else B (([c,d,e,b,f,a]:a7),s)
def u7(d:Nat)(a:List bT)(b:List aj)(c:List dY)(e:List bf)(f:List cg)(s:List aO):Option<|a7×List aO:=if(!~~~(s=[]))=Y then Z else u8 d a b c e f s
def u6(d:Nat)(a:List bT)(b:List aj)(c:List dY)(e:List bf)(s:List aO):Option<|a7×List aO:=((iz s.length s).bind λy=>if ~~~(256<U y.1)=Y then Z else B y).bind λy=>u7 d a b c e y.1 y.2
def u5(d:Nat)(a:List bT)(b:List aj)(c:List dY)(s:List aO):Option<|a7×List aO:=(gx s).bind λy=>u6 d a b c y.1 y.2
def u4(d:Nat)(a:List bT)(b:List aj)(c:List dY)(s:List aO):Option<|a7×List aO:=(fW (cy "main") s).bind λy=>if ~~~(U y.1≠0)=Y then Z else u5 d a b c y.2
def u3(d:Nat)(a:List bT)(b:List aj)(s:List aO):Option<|a7×List aO:=((eR "call" 4096 s).bind λy=>(y.1.mapM pY).map λz=>(z,y.2)).bind λy=>u4 d a b y.1 y.2
def u2(d:Nat)(a:List bT)(s:List aO):Option<|a7×List aO:=((eR "name" 256 s).bind λy=>(y.1.mapM mv).map λz=>(z,y.2)).bind λy=>u3 d a y.1 y.2
def u1(d:Nat)(s:List aO):Option<|a7×List aO:=((eR "slot" 256 s).bind λy=>(y.1.mapM lP).map λz=>(z,y.2)).bind λy=>u2 d y.1 y.2
def uC(s:List aO):Option<|List Nat×List aO:=(fW (cy "code") s).bind λy=>(fE #[4294967295] y.1).map λz=>(z,y.2)
def u0(s:List aO):Option<|a7×List aO:=((uC s).map λy=>(y.1.getD 0 0,y.2)).bind λy=>u1 y.1 y.2
def rH(ws:List aj):Option Nat:=match ws with| #[d]=>cO (fJ 4) d|_=>Z
def N1(ws:List aj):fE #[4294967295] ws=(rH ws).map λd=>#[d]:=by let a:fJ 4=4294967295:=@d_;unfold rH;rw[a];unfold fE;match ws with|[]=>rfl|_::_::_=>rw[aab @s_];rfl| #[d]=>rw[aaa @s_];simp only[Ct,Jh,mapM_cons,Jb];cases cO 4294967295 d<;>rfl
theorem nq{α b:Type}{o:Option α}{f:α->Option (b×List aO)}{g:α->Option b}(h:∀a,(f a).map (λy=>y.1)=g a):(o.bind f).map (λy=>y.1)=o.bind g:=by cases o with|none=>rfl|some v=>show h v
theorem zG{α a b:Type}{o:Option α}{f:α->Option a}{c:α->List aO}{g:a×List aO->Option b}:(o.bind λy=>(f y).map λz=>(z,c y)).bind g=o.bind λy=>(f y).bind λz=>g (z,c y):=by cases o with|none=>rfl|some v=>simp only[bM];cases f v<;>rfl
def xG(l:List aO):Option a7:=
 (fF "code" l).bind λh=>(rH h.1).bind λd=>
 (eR "slot" 256 h.2).bind λs=>(s.1.mapM lP).bind λslots=>
 (eR "name" 256 s.2).bind λn=>(n.1.mapM mv).bind λa=>
 (eR "call" 4096 n.2).bind λc=>(c.1.mapM pY).bind λcalls=>
 (fF "main" c.2).bind λm=>if U m.1≠0 then Z else
 (gx m.2).bind λb=>(iz b.2.length b.2).bind λp=>if 256<U p.1 then Z else
 if p.2≠[]then Z else if 65536<U b.1+(p.1.map λ(x:cg)=>U x.body).sum then Z else
 B [slots,d,a,p.1,calls,b.1]
def ahY(t:aj):FX t=if t.all isSign=ag then Z else(Jn t).bind xG:=()
theorem ali(l:List aO):(u0 l).map (λy=>y.1)=xG l:=by unfold u0 uC xG;rw[BX];simp only[N1];let e:(((fF "code" l).bind λy=>((rH y.1).map λd=>#[d]).map λz=>(z,y.2)).map λ(y:List Nat×List aO)=>(y.1.getD 0 0,y.2))=(fF "code" l).bind λy=>(rH y.1).map λz=>(z,y.2):=(by cases fF "code" l with|none=>rfl|some y=>simp only[bM];cases rH y.1<;>rfl);rw[e,zG];show nq λh=>nq λd=>?_;unfold u1;rw[zG];show nq λs=>nq λslots=>?_;unfold u2;rw[zG];show nq λn=>nq λj=>?_;unfold u3;rw[zG];show nq λc=>nq λcalls=>?_;unfold u4;rw[BX];show nq λm=>?_;by_cases a:U m.1≠0;{rw[aab<|aae a,aab a];rfl};rw[aaa<|by rw[aac a];simp,aaa a];unfold u5;show nq λb=>?_;unfold u6;cases iz b.2.length b.2 with|none=>rfl|some p=>simp only[bM];by_cases f:256<U p.1;{rw[aab<|aae f,aab f];rfl};rw[aaa<|by rw[aac f];simp,aaa f,bM];unfold u7;by_cases g:p.2≠[];{rw[aab g,aab<|by rw[aac g];rfl];rfl};let o:p.2=[]:=Classical.not_not.mp g;rw[aaa g,aaa<|by rw[aae o];simp];unfold u8;by_cases i:65536<U b.1+(p.1.map λ(x:cg)=>U x.body).sum;{rw[aab<|aae i,aab i];rfl};rw[aaa<|by rw[aac i];simp,aaa i];rfl
def alj(h:uC s=B (v,r)):∃d,v=#[d]:=by unfold uC at h;cases e:fW (cy "code") s with|none=>rw[e]at h;cases h|some y=>rw[e]at h;simp only[bM,N1]at h;cases a:rH y.1 with|none=>rw[a]at h;cases h|some d=>rw[a]at h;cases h;show [d,()]
end
section
variable{x:aa}{ls s:List aO}{row:aj}
def VY(c:oG ls):hJ (ja ls) (eY D ls) @q_ E ((bQ (b_ (aq (fg D) (dq (sN D) [] E<|aJ (bC #[(D.ad "LineReader",mE D)] "take_line" E (ay 1)<|aJ (tC<|.str "code") aX)<|aJ (fu<|aJ (tC<|.int 4294967295) aX) aX)<|tC<|.int 0)<|aY 2)<|bQ (b_ (cH (f7 D.K<|bC #[(D.ad "LineReader",nU D)] "take_lines" E (ay 1)<|aJ (tC<|.str "slot")<|aJ (tC<|.int 256) aX) (aY 8) dA (dq (yd D) [] E<|aJ (ay 8) aX) #[8])<|aY 3)<|bQ (b_ (cH (f7 D.K<|bC #[(D.ad "LineReader",nU D)] "take_lines" E (ay 1)<|aJ (tC<|.str "name")<|aJ (tC<|.int 256) aX) (aY 8) dA (dq (HB D) [] E<|aJ (ay 8) aX) #[8])<|aY 4)<|bQ (b_ (cH (f7 D.K<|bC #[(D.ad "LineReader",nU D)] "take_lines" E (ay 1)<|aJ (tC<|.str "call")<|aJ (tC<|.int 4096) aX) (aY 8) dA (dq (Hm D) [] E<|aJ (ay 8) aX) #[8])<|aY 5)<|bQ (bu (tB<|aq (eE D.K) (cz (gP D.K)<|aJ (bC #[(D.ad "LineReader",mE D)] "take_line" E (ay 1)<|aJ (tC<|.str "main") aX) aX)<|tC<|.int 0) (dB @q_ E) bw)<|bQ (b_ (dq (BK D) [] E<|aJ (ay 1) aX)<|aY 6)<|bQ (b_ (dq (HV D) [] E<|aJ (ay 1) aX)<|aY 7)<|bQ (bu (cw<|tB<|bC #[(D.ad "ByteReader",uV D),(D.ad "LineReader",uX D)] "is_at_end" E (ay 1) aX) (dB @q_ E) bw)<|bQ (bu (tB<|aq (ek) (aq (ib D.K) (cz (gP D.K)<|aJ (ay 6) aX)<|cz (mz D.K)<|aJ (cH (f7 D.K<|ay 7) (aY 9) dA (cz (gP D.K)<|aJ (fV D.K (ay 9) "body") aX) #[9]) aX)<|tC<|.int 65536) (dB @q_ E) bw)<|ah<|dN (D.ad "Code") (x6 D) [] E<|aJ (ay 2)<|aJ (ay 3)<|aJ (ay 4)<|aJ (ay 7)<|aJ (ay 5)<|aJ (ay 6) aX)) #[B<|aName row,B<|aV<|.ref x,Z,Z,Z,Z,Z,Z,Z,Z] x u0<|bH D:=by let H:=eN;show dg (cM (g:=u1) (enc:=aN) (xV (V:=Nat) (mk:=λl:List Nat=>l.getD 0 0) (enc:=aN)<|ajT (enc:=bA) (f:=uC) (b:=aN 0) (GU (h:=fE #[4294967295]) (enc':=bA) (AA (ls:=ls) T (w:=cy "code") @k_ () λM=>ai (nt<|by decide+kernel) au) (l:=#[aT D.K<|(#[4294967295]:List Nat).map aN]) (λM=>ai (iq (ai bZ au) @m_) au) λs v r a e M=>Ao T<|Im c a e) (λM=>bZ) λs v r e M=>?_) λ_ d _ _=>?_) λs=>rfl;{let[d,rfl]:=alj e;show kn (i:=0) () rfl};show dg (cM (g:=u2 d) (enc:=λl=>aL<|l.map<|bK D) (xT (K:=D.K) (enc:=jt) (enc':=bK D) (h:=lP) (xu (ls:=ls) T c (w:="slot") (most:=256) @k_ () λM=>ai (nt<|by decide+kernel)<|ai bZ au) (λs u r a e=>(nG c a e).1) λs u r a e v A M=>lu (ai @b_ au)<|E7 T<|(nG c a e).2 v A) λ_ j _ _=>?_) λs=>rfl;show dg (cM (g:=u3 d j) (enc:=λl=>aL<|l.map aName) (xT (K:=D.K) (enc:=jt) (enc':=aName) (h:=mv) (xu (ls:=ls) T c (w:="name") (most:=256) @k_ () λM=>ai (nt<|by decide+kernel)<|ai bZ au) (λs u r a e=>(nG c a e).1) λs u r a e v A M=>lu (ai @b_ au)<|adR T<|(nG c a e).2 v A) λ_ m _ _=>?_) λs=>rfl;show dg (cM (g:=u4 d j m) (enc:=λl=>aL<|l.map<|c_ D) (xT (K:=D.K) (enc:=jt) (enc':=c_ D) (h:=pY) (xu (ls:=ls) T c (w:="call") (most:=4096) @k_ () λM=>ai (nt<|by decide+kernel)<|ai bZ au) (λs u r a e=>(nG c a e).1) λs u r a e v A M=>lu (ai @b_ au)<|adg T<|(nG c a e).2 v A) λ_ n _ _=>?_) λs=>rfl;show dg (ajP (f:=fW<|cy "main") (b:=λG=>~~~(G.length≠0)) (g:=u5 d j m n) (λM s a F=>?_) ?_) λs=>rfl;{let q:=AA (ls:=ls) (E:=E) (x:=x) (ρ:=#[B<|aName row,B<|aV<|.ref x,B<|aN d,B<|aL<|j.map<|bK D,B<|aL<|m.map aName,B<|aL<|n.map<|c_ D,Z,Z,Z,Z]) (k:=1) (ta:=aJ (tC<|.str<|dj "main") aX) T (w:=cy "main") @k_ () (λM=>ai (nt<|by decide+kernel) au) M s a F;cases e:fW (cy "main") s with|none=>rw[e]at q;show S6 (Ed<|aai<|j9 q)|some y=>let[v,r]:=y;rw[e]at q;show [q.1,cN (a9<|ax (dm (ai q.2 au) lU) aM nN) ?_];rw[aP,cb];simp};show dg (cM (g:=u6 d j m n) (jT (l:=[]) (λM=>ai @b_ au)<|Nt T c) λ_ C _ _=>?_) λs=>rfl;show dg (cM (g:=u7 d j m n C) (jT (l:=[]) (λM=>ai @b_ au)<|afb T c) λ_ o _ t=>?_) λs=>rfl;let I:o.length<=256:=(by cases e:iz (U _) _ with|none=>rw[e]at t;cases t|some y=>rw[e,bM]at t;by_cases h:256<y.1.length;{rw[aab<|aae h]at t;cases t};rw[aaa<|by rw[aac h];simp]at t;cases t;show Jr h);show dg (PB (b:=λs=>!~~~(s=[])) (g:=u8 d j m n C o) (λM s a F=>fi<|a9<|hU @b_ F (.tail _<|.head _) () au<|Nr T a F) ?_) λs=>rfl;show dg (GR (b:= ~~~(65536<C.length+(o.map λ(x:cg)=>x.body.length).sum)) (g:=λs=>B (([j,d,m,o,n,C]:a7),s)) (λM=>?_) λ_=>sE (v:=([j,d,m,o,n,C]:a7)) λM=>lq @a_ λy J=>MQ T) λs=>rfl;show cN (a9<|ax (ax (dm (ai @b_ au) lU) (dm (ai (dQ (xs:=o) (f:=ej D) (h:=λp=>aN p.body.length) (ij<|af ()) @o_ λp _=>[_,bL,bI (dm (ai (z7 T @b_ () @k_) au) lU)<|by rw[aP]]) au) rF) g8) bZ ia) ?_;rw[yj,<-yk,cb,aaQ,aaQ,aP];generalize (o.map λ(x:cg)=>x.body.length).sum=z;lia
end
def jn(c:Nat):List (List Nat)->List Nat
|[]=>[]| #[p]=>p
|p::r=>p++c::jn c r
def Al(h:r≠[]):jn c (p::r)=p++c::jn c r:=by cases r with|nil=>show absurd () h|cons q r=>rfl
def MO(c:Nat):∀ps:List Str,(vR [(bS #[c])] ps).cps.toList=jn c (ps.map λp=>p.cps.toList)
|[]=>rfl| #[p]=>rfl
|p::q::r=>by(let f:=MO c<|q::r;let e:vR [(bS #[c])] (p::q::r)=p++[(bS #[c])]++vR [(bS #[c])] (q::r):=();rw[e];let d:∀a b:Str,(a++b).cps.toList=a.cps.toList++b.cps.toList:=λa b=>by change (CQ a b).cps.toList=_;unfold CQ;simp);rw[d,d,f];change p.cps.toList++#[c]++jn c ((q::r).map λp=>p.cps.toList)=p.cps.toList++c::jn c ((q::r).map λp=>p.cps.toList);rw[qR];rfl
def E0:∀(x:aj)(ps:List<|List Nat),ps≠[]->(∀p∈ps,c.toNat∉p)->jn c.toNat ps=x.map fz->ps=(dG c x).map λw=>w.map fz
|[],[],h,_,_=>absurd () h|_::_,[],h,_,_=>absurd () h
|[],p::r,_,g,e=>by cases r with|nil=>let e:p=[]:=e;subst e;rfl|cons q r=>rw[Al @s_]at e;let:=aad U e;simp at this
|a::x,p::r,_,g,e=>by{
cases p with
|nil=>cases r with|nil=>cases e|cons q r=>rw[Al @s_]at e;simp only[Jd,cC,List.cons.injEq]at e;let i:a=c:=tP.mp e.1.symm;let f:=E0 x (q::r) @s_ (λp n=>g p<|dv _ n) e.2;rw[dG,aab i,cC,<-f];rfl
|cons b p=>
let O:c.toNat∉b::p:=g _<|.head _;let d:b=a.toNat/\jn c.toNat (p::r)=x.map fz:=by cases r with|nil=>(let e:b::p=a.toNat::x.map fz:=e;injection e with j d);show [j,d]|cons q r=>(rw[Al @s_]at e;let e:b::(p++c.toNat::jn c.toNat (q::r))=a.toNat::x.map fz:=e;injection e with j d);show [j,by rw[Al @s_];show d]
let i:a≠c:=λz=>O (by rw[d.1,z];show .head _);let f:=E0 x (p::r) @s_ (λq hq=>by(rcases bh.mp hq with rfl|hq);{show λz=>O<|dv _ z};show g q<|dv _ hq) d.2;rw[dG,aaa i];cases m:dG c x with|nil=>rw[m]at f;cases f|cons w l=>
rw[m]at f;injection f with o s
change (b::p)::r=(((a::w)::l).map λw=>w.map fz);rw[o,s,d.1];rfl}
def akv(t:aj):Txt.split (tS t) (tS #[c])=(dG c t).map tS:=by let h:tS #[c]=[(bS #[c.toNat])]:=();rw[h];let d:=StrLaws.join_split (tS t) [(bS #[c.toNat])];let f:=StrLaws.split_free (tS t) c.toNat;let g:=split_pos (tS t) [(bS #[c.toNat])];generalize Txt.split (tS t) [(bS #[c.toNat])]=a at d f g;let e:=aad (λz:Str=>z.cps.toList) d;simp only[MO]at e;let k:=E0 (c:=c) t (a.map λp=>p.cps.toList) (by intro z;let:=aad U z;simp at this;subst this;simp at g) (λp i=>by let[q,j,rfl]:=c4.mp i;show f q j) (by rw[e];unfold tS;simp);let b:=aad (λl:List (List Nat)=>l.map λp=>([p.toArray]:Str)) k;simp only[cD]at b;let m:a.map ((λp=>([p.toArray]:Str))∘λp=>p.cps.toList)=a:=(by(conv=>rhs;rw[<-yI a]);show qV λp _=>?_;change ([p.cps.toList.toArray]:Str)=p;rw[Array.toArray_toList]);rw[m]at b;rw[b];rfl
def Lj(a:z=tS #[c])(f:t.length<=30000)(h:ED E te ρ M<|.vl (aW t) M1):ED E (ks Bk te<|tC<|.str z) ρ M<|.vl (jt<|dG c t) M1:=λb F H R w Q q=>h b F H R w _ λv i j g d=>by cases d;let l:=eN;show [[_,()],_,_,(),(),by rw[a,nZ];rfl,by rw[nZ];lia,?_];intro p e;rw[a,akv];show q _ _ _ (g.trans<|Go.new g.wf e) [p,_,(),fI,?_];rw[IE,cD];show tV _
def aaV(t:aj):zb (tS t) (tS #[10])= ~~~(t.getLast?=B 10):=by{
unfold zb;rw[StrLaws.subAt_eq,nZ,nZ];let a:(tS t).cps.toList=t.map fz:=by unfold tS;simp
let b:(tS #[10]).cps.toList=#[10]:=();rw[a,b];cases h:t.getLast? with|none=>let:t=[]:=List.getLast?_eq_none_iff.mp h;subst this;rfl|some c=>
let[l,rfl]:=List.getLast?_eq_some_iff.mp h;let d:U (l++#[c])=U l+1:=by simp
rw[d];let e:((l++#[c]).map fz).drop (U l+1- #[(10:UInt8)].length)=#[c.toNat]:=by rw[eV];let:U l+1- #[(10:UInt8)].length=U (l.map fz):=@s_;rw[this,List.drop_left];rfl
rw[e];rw[cb];simp only[a6,aaK,aaF,Option.some.injEq];constructor;{rintro⟨_,h⟩;simp at h;show tP.mp (by rw[h];rfl)};rintro rfl;show [by simp,()]}
def aak(a:z=tS #[10])(h:ED E te ρ M<|.vl (aW t) M1):ED E (ks GA te<|tC<|.str z) ρ M<|.vl (aB<|~~~(t.getLast?=B 10)) M1:=λb F H R w Q q=>h b F H R w _ λv c d g e=>by cases e;show [[_,()],_,_,(),(),?_];rw[a,aaV];show q _ c d g ()
def vc(c:UInt8)(t:aj):dG c t≠[]:=by cases t with|nil=>simp[dG]|cons x r=>rw[dG];split;{simp};cases dG c r<;>simp
def yf(h:x≠c):∃w l,dG c r=w::l/\dG c (x::r)=(x::w)::l:=by cases e:dG c r with|nil=>show absurd e (vc c r)|cons w l=>show [w,l,(),by rw[dG,aaa h,e]]
def R8:∀{t w:aj},dG c t=#[w]->w=t
|[],w,h=>by let h:#[[]]=#[w]:=h;injection h with h;show h.symm
|x::r,w,h=>by{
by_cases e:x=c
.rw[dG,aab e]at h;injection h with _ h
 show absurd h<|vc c r
let[g,l,a,b]:=yf (r:=r) e;rw[b]at h;injection h with d f
subst f;rw[<-d,R8 a]}
def R7:∀{t:aj},t≠[]->((dG 10 t).getLast?=B []<->t.getLast?=B 10)
|[],h=>absurd () h| #[x],_=>by by_cases e:x=10;{subst e;decide};let:dG 10 #[x]=#[#[x]]:=(by rw[dG,aaa e];rfl);rw[this];simp[e]
|x::y::r,_=>by let b:=R7 (t:=y::r) @s_;let c:(x::y::r).getLast?=(y::r).getLast?:=(by rw[Cm]);rw[c,<-b];by_cases e:x=10;{rw[dG,aab e];cases h:dG 10 (y::r)with|nil=>show absurd h (vc _ _)|cons w l=>rw[Cm]};let[w,l,a,d]:=yf (r:=y::r) e;rw[a,d];cases l with|nil=>let:=R8 a;subst this;simp|cons v l=>rw[Cm,Cm]
def split_len(c:UInt8):∀t:aj,U (dG c t)<=U t+1|[]=>by simp[dG]|x::r=>by let a:=split_len c r;by_cases e:x=c;{rw[dG,aab e,bR,bR];lia};let[w,l,b,d]:=yf (r:=r) e;rw[b]at a;rw[d,bR,bR]at*;simp at a⊢;lia
def yh:∀{t w:aj},w∈dG c t->U w<=U t/\∀b∈w,b∈t|[],w,h=>by let h:w∈ #[[]]:=h;simp at h;subst h;simp|x::r,w,h=>by{
by_cases e:x=c
.rw[dG,aab e]at h;rcases bh.mp h with rfl|h
 {simp};let:=yh h;show [by rw[bR];omega,λb O=>dv _<|this.2 b O]
let[d,l,a,f]:=yf (r:=r) e;rw[f]at h;rcases bh.mp h with rfl|h
.let:=yh (c:=c) (t:=r) (w:=d) (by rw[a];show .head _);show [by rw[bR,bR];omega,λb O=>?_];rcases bh.mp O with rfl|O
 {show .head _};show dv _<|this.2 b O
let:=yh (c:=c) (t:=r) (w:=w) (by rw[a];show dv _ h);show [by rw[bR];omega,λb O=>dv _<|this.2 b O]}
def yg:∀{t w:aj},w∈(dG c t).dropLast->U w+1<=U t|[],w,h=>by let h:w∈([]:List aj):=h;cases h|x::r,w,h=>by rw[bR];by_cases e:x=c;{rw[dG,aab e]at h;cases a:dG c r with|nil=>show absurd a (vc _ _)|cons v l=>(rw[a,Cd @s_,<-a]at h;rcases bh.mp h with rfl|h);{simp};let:=yg h;lia};let[d,l,b,f]:=yf (r:=r) e;rw[f]at h;cases l with|nil=>cases h|cons v l=>(rw[Cd @s_]at h;rcases bh.mp h with rfl|h);{let:=yg (c:=c) (t:=r) (w:=d) (by rw[b,Cd @s_];show .head _);rw[bR];lia};let:=yg (c:=c) (t:=r) (w:=w) (by rw[b,Cd @s_];show dv _ h);lia
def su(t:aj):Option<|List aO:=if t.getLast?=B 10 then B ((dG 10 t).dropLast.map pZ)else Z
def ahU(t:aj):(Jn t).bind xG=(su t).bind xG:=by cases t with|nil=>rfl|cons x r=>let h:=R7 (t:=x::r) @s_;unfold Jn su;by_cases e:(x::r).getLast?=B 10;{rw[aab e];simp only[aab<|h.mpr e]};rw[aaa e];simp only[aaa λz=>e<|h.mp z]
def afr(b:aj):nk (pZ b)=jt (dG 32 b):=by unfold pZ;cases e:dG 32 b with|nil=>show absurd e (vc _ _)|cons w l=>rfl
def aft(b:aj):(pZ b).1::(pZ b).2=dG 32 b:=by unfold pZ;cases e:dG 32 b with|nil=>show absurd e (vc _ _)|cons w l=>rfl
def ahV(h:su t=B ls)(j:U t<=30000)(a:t.all isSign=Y):oG ls:=by unfold su at h;split at h;{cases h;show [?_,λy d=>?_];{let:=split_len 10 t;rw[aP,I_];lia};let[b,O,rfl]:=c4.mp d;let l:=yg O;let e:=yh<|List.dropLast_subset _ O;rw[aft];show [by let:=split_len 32 b;lia,λw f=>?_];let g:=yh f;show [λc i=>cq.mp a c<|e.2 c<|g.2 c i,by lia]};cases h
def Z4:kI l Z (B<|-1)=l.dropLast:=by unfold kI;rw[HT.GZ,IP,Nat.sub_zero];let:HT.gQ l.length l.length (B<|-1)=U l-1:=(by let e:HT.gQ l.length l.length (B<|-1)=((-1:Int)+(U l:Int)).toNat:=();rw[e];omega);rw[this,IL]
def adF(T:Tk D)(d:t.length<=30000):jo @q_ (QO D) #[aW t] M (λls=>aL<|ls.map nk)<|su t:=by{
let e:=eN;let a:(dj "\n")=tS #[10]:=by decide+kernel
let c:(dj " ")=tS #[32]:=by decide+kernel
show pL @f_ ();show jf (jX (b:=!~~~(t.getLast?=B 10)) (o:=B<|(dG 10 t).dropLast.map pZ) (fi<|a9<|aak a<|af ()) λ_=>qI (o:=B<|(dG 10 t).dropLast.map pZ) ?_) ?_;{change ED E _ _ M$ aL<|((dG 10 t).dropLast.map pZ).map nk;show bI (dQ (xs:=(dG 10 t).dropLast) (f:=aW) (h:=λb=>jt<|dG 32 b) (ij<|bI (zR (Lj a d<|af ()) FY<|sv<|Kx aM) ?_) ?_ λb O=>[_,bL,Lj c ?_<|af ()]) ?_;{change aL (kI _ Z<|B<|-1)=_;rw[Z4,List.map_dropLast]};{let:=split_len 10 t;rw[I_];omega};{let:=yg O;omega};rw[cD];congr 1;show qV λb _=>(afr b).symm};unfold su;by_cases h:t.getLast?=B 10;{rw[aaa<|by rw[aae h];simp,aab h]};rw[aab<|by rw[aac h];rfl,aaa h]}
def Lu:∀{kvs:List<|Key×V}{vs:List V},ba F H->c9 F vs (kvs.map λkv=>aT K #[aV<|kV kv.1,aV kv.2])->∃ps:List aa,vs=ps.map V.ref/\Paired (λp kv=>cP K H p #[kV kv.1,kv.2]) ps kvs|[],_,_,.nil=>[[],(),.nil]|kv::kvs,_,s,.cons h t=>by let[ps,rfl,a]:=Lu s t;let[p,i,rfl,b,c]:=h;cases c with|cons d e=>cases e with|cons f g=>cases g;cases d;cases f;show [p::ps,(),.cons (ba.jW s b) a]
def L_:∀aE:List<|Key×V,fA F aE (aE.map λkv=>(kv.1,aV kv.2))|[]=>.nil|kv::aE=>.cons [(),()]<|L_ aE
def Y2:hI E (Bb K) #[aL<|kvs.map λb=>aT K #[aV<|kV b.1,aV b.2]] M$ aD<|(kN [] kvs).map λb=>(b.1,aV b.2):=λj F H w c Q q=>by cases c with|cons h t=>cases t;let[a,l,rfl,d,e]:=h;let[f,rfl,g]:=Lu w.fh e;show [a,f,kvs,(),bE.of<|w.fh _ _ d,g,λp i=>q _ _ _ (Go.new w i) [p,_,(),fI,L_ _]]
def We(aE:List<|Key×V)(k:Key):fj (aE.map λa=>(a.1,aV a.2)) k=(eF aE k).map aV:=by unfold fj eF;induction aE with|nil=>rfl|cons a aE b=>simp only[cC,jD];by_cases h:a.1=k;{simp[h]};simp only[aac h];show b
abbrev G8:Str:=dj "\n 0123456789>abcdefghijklmnopqrstuvwxyz"
def xZ:List<|Key×V:=G8.cps.toList.map λ(n:Nat)=>((.inl (n:Int),.str [(bS #[n])]):Key×V)
def P4(n:Nat):Bool:=match eF (kN [] xZ) (.inl (n:Int))with|some (.str z)=>~~~(z=[(bS #[n])])&&isSign (eB n)|none=>!isSign (eB n)|_=>ag
def akl:∀n:_root_.Fin 256,P4 n.val=Y:=by decide+kernel
def P5(c:UInt8):eF (kN [] xZ) (.inl (c.toNat:Int))=if isSign c=Y then B (.str [(bS #[c.toNat])])else Z:=by let h:=akl [c.toNat,c.toNat_lt];unfold P4 at h;simp only[zk]at h;split at h;{rename_i z e;rw[a6,aaQ]at h;rw[e,aab h.2,h.1]};{rename_i e;rw[e,aaa<|by rw[iX]at h;rw[h];simp]};cases h
abbrev rD:As:=aD<|(kN [] xZ).map λa=>(a.1,aV a.2)
def N9:bW E (dy D Y) (aN c.toNat) rD M$ aB<|!isSign c:=by let:=agO (E:=E) (D:=D) (M:=M) (neg:=Y) (kvs:=(kN [] xZ).map λa=>(a.1,aV a.2)) (k:=.inl (c.toNat:Int));rw[We,P5]at this;let e:(!(k7 aV (if isSign c=Y then B (V.str [(bS #[c.toNat])])else Z)).isSome)=!isSign c:=(by cases isSign c<;>rfl);simp only[abu,e]at this;show this
def agX(h:isSign c=Y):bW E (fg D) rD (aN c.toNat) M$ aW #[c]:=agS (k:=.inl (c.toNat:Int)) (by rw[We,P5,aab h];rfl)
def aeP(T:Tk D)(u:t.length<=30000):jo @q_ (RT D) #[aName t] M aW (if t.all isSign=ag then Z else B t):=by{
let w:=eN;let o:∀{E:XK}{ρ:En},ED E (cz (Bb D.K)<|aJ (cH (f7 D.K<|tC<|.str "\n 0123456789>abcdefghijklmnopqrstuvwxyz") (aY 3) dA (fu<|aJ (cz (xQ)<|aJ (ay 3) aX)<|aJ (ay 3) aX) #[3]) aX) (B (aName t)::Z::Z::Z::[]) M$ rD:=λ{E ρ}=>by show dm (ai (bI (dQ (xs:=G8.cps.toList) (f:=λc=>aS [(bS #[c])]) (h:=λc=>aT D.K #[aN c,aS [(bS #[c])]]) (IG aM) ?_ λc _=>[_,bL,iq (ai (dm (ai @b_ au)<|Ky ())<|ai @b_ au) @m_]) ?_) au) Y2;{let:G8.cps.toList.length=39:=@k_;lia};unfold xZ;rw[cD];rfl
let good:∀{E:XK}(c:UInt8),isSign c=Y->SD E (bu (tB<|aq (dy D Y) (ay 2)<|ay 1) (dB @q_ E) bw) #[B<|aName t,B rD,B<|aN c.toNat,Z] M (.nx #[B<|aName t,B rD,Z,Z] M):=λ{E} c h=>by show gR (bX (x:=ag) (cN (a9<|ax @b_ @b_ N9)<|by rw[h];rfl) @j_ λ_=>ed)<|.cons<|.cons<|.aC<|.cons .nil
cases g:t.all isSign with|false=>rw[aab ()];obtain⟨n,i,p,q⟩:∃n,∃i:n<t.length,isSign t[n]=ag/\∀j (m:j<n),isSign (t[j]'@o_)=Y:=(by cases e:t.findIdx? (λc=>!isSign c)with|none=>rw[iE]at e;let:t.all isSign=Y:=cq.mpr λc b=>(e c b:);rw[this]at g;cases g|some n=>rw[sZ]at e;let[i,p,q]:=e;show [n,i,(p:),λj m=>(q j m:)]);show lp @f_ ();show bt (o (ρ:=[]))<|ee (pH (is:=#[2]) (l:=t.map λc=>aN c.toNat) (λ_=>#[B<|aName t,B rD,Z,Z]) (λ_=>M) n (by rw[aP];show i) (ij<|af ()) (λj a m g=>?_) (λa g=>?_) ()) ();{let[c,b,rfl]:=de g;let r:j<t.length:=@o_;rw[bF r]at b;cases b;show [_,bL,good _<|q j m]};let[c,b,rfl]:=de g;rw[bF i]at b;cases b;show [_,bL,bX (x:=Y) (cN (a9<|ax @b_ @b_ N9)<|by rw[p];rfl) (λ_=>jV) λz=>by cases z]|true=>
rw[aaa @s_];let d:=cq.mp g;lk;show bt (o (ρ:=[]))<|bg (jd (is:=#[2]) (l:=t.map λc=>aN c.toNat) (λ_=>#[B<|aName t,B rD,Z,Z]) (λ_=>M) (ij<|af ()) λj a g=>?_) ?_;{let[c,b,rfl]:=de g;show [_,bL,good c<|d c<|bY b]};let s:(t.map λc=>(#[c]:aj)).flatten=t:=by clear u o good g d;induction t with|nil=>rfl|cons c t v=>rw[cC,yG,v];rfl
show aF (zQ (sep:=[]) (ws:=t.map λc=>#[c]) @k_ (bI (dQ (xs:=t) (f:=λc=>aN c.toNat) (h:=λc=>aW #[c]) (ij<|af ()) @o_ λc b=>[_,bL,ax @b_ (af ())<|agX<|d c b])<|by rw[cD];rfl)<|by rw[s];simp;lia) ?_;rw[An,s]}
section
variable{x:aa}
def MS:CD (Ql D) #[aV<|.ref x,a] (mu M x<|.obj (D.ad "LineReader") [])<|.vl aU<|mu M x<|.obj (D.ad "LineReader") #[("lines",a),("spot",aN 0)]:=by apply jJ (hl:=());intro E;show bg (cF T @b_ @b_ @k_ ())<|cF T bZ @b_ @k_ ()
def aeR:zA D:=λM t f=>by rw[<-ahX,ahY,ahU];let b:=aeP T (M:=M) f;let d:=adF T (M:=M) f;cases g:t.all isSign with|false=>rw[g,aab ()]at b;rw[aab ()];show lp @f_ ();show ee (mB<|oO<|j9<|Lc<|j9<|az (ai @b_ au) b) ()|true=>rw[g,aaa @s_]at b;rw[aaa @s_];cases h:su t with|none=>rw[h]at d;rw[rf];show lp @f_ ();show ee (mB<|oO<|j9<|az (ai (az (ai @b_ au) b) au) d) ()|some a=>rw[h]at d;rw[bM];let i:=ahV h f g;let hinv:ja a a:=[bD _,by simp];let j:(Cl.obj (D.ad "LineReader") #[("lines",aL<|a.map nk),("spot",aN 0)])=eY D a a:=(by change _=Cl.obj _ #[_,("spot",aN<|U a-U a)];rw[Nat.sub_self]);rw[<-ali];cases e:u0 a with|none=>show lp @f_ ();show xY (fs:=#[("lines",aL<|a.map nk),("spot",aN 0)]) (ai (az (ai (az (ai @b_ au) b) au) d) au) (λy l=>MS T) λx hx=>?_;rw[j];show PR (VY T i) hx hinv e|some v=>let[c,r]:=v;lk;show xY (fs:=#[("lines",aL<|a.map nk),("spot",aN 0)]) (ai (az (ai (az (ai @b_ au) b) au) d) au) (λy l=>MS T) λx hx=>?_;rw[j];show PQ (VY T i) hx hinv e
def ac7(hl:U l<=30000)(a:Kd l=Y):CD (Bz D) #[aQ D.K<|l.map aI] M$ aL<|(zj l).map aI:=ac6 T (adI T) (aeR T) hl a
end
end
end L2
namespace Hd
open PySem PySem.W PyProof.Rows L2
noncomputable def T9(a:Params):BT:=yo a<|l9 a
noncomputable def K9(b:Params):Frag:=(dc 1511).map λa=>(a,((T9 b).get a).getD default)
theorem NF{f:Nat->Obj}{b:Nat}{o:Obj}:∀{l:List Nat},(l.map λa=>(a,f a)).lookup b=B o->b∈l/\f b=o|[],h=>by cases h|a::l,h=>by rw[cC,kZ]at h;cases e:b==a with|true=>rw[e]at h;let:b=a:=aaF.mp e;subst this;show [.head _,eg h]|false=>rw[e]at h;let[c,d]:=NF h;show [dv _ c,d]
def ND(T:BT)(a:Nat):Bool:=match T.get a with|some o=>(alive o).isSome|none=>ag
theorem afx(a:Params):(dc 1511).all (ND<|T9 a)=Y:=by kernel_rfl
theorem YM{o u:Obj}(h:alive o=B u):u=o:=by unfold alive at h;split at h;{cases h};show(eg h).symm
theorem YB(c:Params):(K9 c).In<|H9 c:=λa o h=>by let[g,d]:=NF h;let b:=cq.mp (afx c) a g;unfold ND at b;cases e:(T9 c).get a with|none=>rw[e]at b;cases b|some u=>rw[e]at b d;let d:u=o:=d;subst d;cases f:alive u with|none=>simp only[f]at b;cases b|some v=>let:=YM f;subst this;show(abs_get (t:=T9 c) (life:={}) (gk.mp g) e).trans f
def YH:List<|String×Nat:=#[("NoBytes",24),("NoText",37),("BEGINNING",41),("INSTRUCTION_WIDTHS",42),("OP_WORDS",43),("op_word",50),("is_op_word",57),("op_number",64),("Shape_init",78),("Shape",81),("Result_init",99),("Result",102),("Hold_init",120),("Hold",123),("Call_init",141),("Call",144),("Instruction_init",162),("Instruction",165),("Piece_init",183),("Piece",186),("Code_init",204),("Code",207),("eleven_numbers",218),("bodies_of",223),("ByteReader_init",237),("ByteReader_take",244),("ByteReader_take_up_to",251),("ByteReader_take_list",256),("ByteReader_is_at_end",263),("ByteReader",266),("take_shape",277),("take_name",284),("take_result",291),("take_piece_head",296),("take_piece_of",303),("take_hold",310),("take_call",315),("take_instructions_0",320),("take_instruction",325),("take_beginning",332),("code_of_bytes",337),("CELL_BYTES",338),("is_kind",345),("is_whole",352),("is_floating",359),("has_operation_of_two",366),("has_operation_of_one",373),("cells_of",380),("shape_may_be",387),("same_shape",394),("slot_bytes",401),("bytes_of_slots",406),("name_is_good",413),("axes_are_good",420),("result_is_good",427),("piece_is_good",432),("slots_are_within",439),("wrong_bound",446),("hold_is_there",453),("slot_shape",460),("fits",467),("same_hold",474),("is_among",479),("slot_is_among",486),("OPERANDS_OF",487),("U_NAMED_BY",488),("V_NAMED_BY",489),("FOLDS",490),("is_slot",497),("is_slot_with_lengths",504),("is_just",511),("without",518),("fold_is_good",525),("product_is_good",532),("turn_is_good",539),("sorted_is_good",546),("order_is_good",553),("pick_is_good",560),("part_is_good",567),("join_is_good",574),("as_is_good",581),("fill_is_good",588),("places_is_good",595),("RULES",596),("unnamed_are_zero",603),("operands_are_good",608),("function_call_is_good",613),("all_fit",618),("results_are_apart",625),("piece_call_is_good",630),("call_is_good",635),("wrong_call",642),("SHARED_FIELDS",643),("BODY_FIELDS",657),("MAIN_FIELDS",670),("is_shared",687),("is_in_main",694),("is_in_bodies",701),("named_in_main",708),("named_in_bodies",715),("fields_of",722),("others_are_zero",729),("KINDLESS",730),("OF_ANY_KIND",731),("MOST_AUX",732),("places_are_there",739),("draw_is_good",746),("kind_is_good",753),("shared_op_is_good",760),("ASKING_NO_MORE",761),("row_is_there",768),("is_own_mask",775),("masks_is_good",782),("cell_is_good_0",789),("store_is_good",796),("hand_is_good",803),("own_op_is_good_0",810),("body_instruction_is_good",817),("cell_is_good_1",824),("skip_is_good",831),("told_is_good",838),("copy_is_good",845),("own_op_is_good_1",852),("main_instruction_is_good",859),("wrong_instruction",866),("Loops_init",880),("Loops",883),("loops_of",894),("holders_of",901),("PUTTING_NO_DST",902),("end_is_kept",909),("skip_is_kept",916),("no_round_is_skipped",921),("loop_is_kept",928),("main_loop_is_kept",935),("back_is_kept",942),("main_back_is_kept",949),("round_is_kept",956),("puts_of",961),("puts_are_kept",966),("main_place_is_kept",973),("body_place_is_kept",980),("wrong_place",987),("wrong_way",994),("first_fault",1001),("plain_shape",1008),("plain_result",1015),("plain_holds",1020),("plain_call",1027),("plain_instruction",1034),("plain_main_instruction",1041),("plain_piece",1046),("plain_code",1051),("are_same",1058),("CALL_HEAD_MOST",1059),("INSTRUCTION_MOST",1060),("LineReader_init",1074),("LineReader_is_at_end",1081),("LineReader_first_word",1088),("LineReader_take_line",1095),("LineReader_take_lines",1102),("LineReader",1105),("text_of",1114),("lines_of",1119),("number_of",1126),("numbers_of",1131),("lengths_of",1136),("shape_of",1143),("result_of",1150),("name_of",1155),("hold_of",1162),("holds_of",1167),("call_of",1174),("take_instructions_1",1181),("take_piece",1186),("take_pieces",1193),("code_of_text",1198),("NO_CODE",1199),("refusal_of",1206),("Holder_init",1220),("Holder_load",1227),("Holder_read",1234),("Holder_hold_if_good",1241),("Holder_same",1248),("Holder",1251),("put_number",1262),("put_each",1269),("put_shape",1276),("put_name",1283),("put_result",1290),("put_piece_head",1297),("put_hold",1304),("put_call",1311),("put_instruction",1318),("put_counts",1325),("bytes_of_code",1332),("rounds_in_main",1339),("rounds_in_body",1346),("times_of",1353),("most_of",1358),("line_of_words",1365),("line_of",1370),("name_line",1375),("words_of_holds",1382),("call_line",1387),("instruction_line",1394),("result_line",1401),("lines_of_piece",1406),("lines_of_code",1411),("text_of_code",1416),("slots_named_by",1423),("uses_of_slot",1428),("tell_counts",1433),("tell_slot",1440),("tell_name",1447),("tell_at",1454),("tell_where",1459),("tell_uses",1466),("tell_most",1473),("tell_text",1480),("tell_bytes",1487),("NUMBERS_OF_CALL",1488),("ROWS_OF_CALL",1489),("answer_of_code",1496),("answer_of_call",1503),("answers",1510)]
def YG:List<|Str×Nat:=YH.map λq=>(dj q.1,q.2)
def gH(x:Str):aa:=(YG.lookup x).getD 0
noncomputable def oQ(a:Nat)(l:List<|String×List String):List<|Key×V:=l.zipIdx.map λq=>(.inr<|sw q.1.1,.ref<|a+q.2)
noncomputable def zW:List<|aa×List (Key×V):=#[(643,oQ 644 pK),(657,oQ 658 oM),(670,oQ 671 o6),(732,#[(.inr "convert",.int 13),(.inr "compare",.int 7),(.inr "function",.int 8)])]
noncomputable def G9(a:Params):aH:=[K9 a,gH,zW]
def uO:V->ae->Bool
|.int i,u=>aaJ i u|.str x,u=>vX x u
|.ref a,u=>u==.ref a|_,_=>ag
def GV:∀{v:V}{u:ae},uO v u=Y->RelV v u
|.int _,_,h=>acs h|.str _,_,h=>acw h
|.ref _,_,h=>aaF.mp h|.aC,_,h|.bl _,_,h|.i5 _,_,h|.wV _,_,h|.ty _,_,h=>by cases h
def B2:List V->List ae->Bool
|[],[]=>Y|v::a,u::b=>uO v u&&B2 a b
|_,_=>ag
def Wi:∀{vs:List V}{us:List ae},B2 vs us=Y->bq vs us
|[],[],_=>.nil|v::vs,u::us,h=>by let h:(uO v u&&B2 vs us)=Y:=h;rw[a6]at h;show .cons (GV h.1) (Wi h.2)
|[],_::_,h=>by cases h|_::_,[],h=>by cases h
def vh(K:Frag)(a:aa)(xs:List V):Bool:=match K.lookup a with|some [c,d,.seq b _,_]=>c==.type "tuple"&&d.isNone&&~~~(b.size<=1000)&&B2 xs b.toList|_=>ag
theorem Ip{K:Frag}{a:aa}{xs:List V}(h:vh K a xs=Y)(H:Hp):cP K H a xs:=by unfold vh at h;split at h;{rename_i c d b n f e;simp only[a6,aaF,aaK]at h;show .inr [_,b,n,e,h.1.1.1,(),cu h.1.2 @d_,Wi h.2]};cases h
def zK(K:Frag)(C:aa):Bool:=plainGet K C Str.empty&&hasDictIn K C&&plainOver K C&&findIn K (.ref C) "__setattr__"==B (B<|.builtin "object.__setattr__")
theorem K5{K:Frag}{C:aa}(h:zK K C=Y):jG K C:=by unfold zK at h;simp only[a6,aaF]at h;show [h.1.1.1,h.1.1.2,h.1.2,h.2]
noncomputable def KW(K:Frag):Bool:=qr.all λc=>zK K (gH c)&&attrL.all λf=>findIn K (.ref<|gH c) f==B Z
noncomputable def KY(K:Frag):Bool:=(Iq.all λq=>vh K (gH<|sw q.1) q.2)&&vh K (gH "RULES") (uQ.map λf=>V.ref<|gH<|sw f)&&(match K.lookup (gH "OP_WORDS")with|some o=>o.cls==.type "tuple"&&o.dict.isNone|none=>ag)
noncomputable def zY(K:Frag)(a:Nat)(l:List<|String×List String):Bool:=l.zipIdx.all λq=>vh K (a+q.2)<|eI q.1.2
noncomputable def KZ(K:Frag):Bool:=zY K 644 pK&&zY K 658 oM&&zY K 671 o6&&(gH "SHARED_FIELDS"==643&&gH "BODY_FIELDS"==657&&gH "MAIN_FIELDS"==670&&gH "MOST_AUX"==732)
def Fs(K:Frag)(q:aa×aa):Bool:=makesIn K q.1&&findIn K (.ref q.1) "__init__"==B (B<|.ref q.2)&&isFn K (.ref q.2)&&keepIn K (.ref q.1)
def Ft(K:Frag)(q:aa×Str×aa):Bool:=zK K q.1&&(findIn K (.ref q.1) q.2.1==B (B<|.ref q.2.2)&&isFn K (.ref q.2.2)&&keepIn K (.ref q.2.2))
def codeB(K:Frag)(f:aa):Bool:=match K.lookup f with|some [_,_,.func a,_]=>codeIn K a.code a.qualname|_=>ag
noncomputable def wC(G:aH):Bool:=(Dt G).all (Fs G.K)&&(Du G).all (Ft G.K)&&(j_ G).all λq=>keepIn G.K (.ref q.1)&&codeB G.K q.1
noncomputable def DZ(G:aH):Bool:=(ql G).all λq=>!(q.1==("__debug__":Str))&&(match nsIn G.K mainGlobals q.1 with|some (B u)=>uO q.2 u|_=>ag)
noncomputable def D0(G:aH):Bool:=(rE G).all λq=>nsIn G.K mainGlobals q.1==B (B<|.ref q.2)&&!(q.1==("__debug__":Str))
noncomputable def D1(G:aH):Bool:=wz.all λx=>nsIn G.K mainGlobals x==B Z
noncomputable def D2(G:aH):Bool:=(oJ G).all λq=>nsIn G.K mainGlobals q.1==B (B<|.ref q.2)&&!(q.1==("__debug__":Str))
noncomputable def D3(G:aH):Bool:=DZ G&&D0 G&&D1 G&&D2 G
def wG(s:Stmt):Arguments:=match s with|.FunctionDef _ a _ _ _ _ _ _ _ _=>a|_=>{posonlyargs:=[],args:=[],vararg:=Z,kwonlyargs:=[],kw_defaults:=[],kwarg:=Z,defaults:=[]}
def AM:Obj->Option (Arguments×FuncBody×cB×aa×List (Str×aa)×ae×ae×aa)|[_,_,.func a,_]=>B (a.params,a.body,a.scope,a.globals,a.closure,a.defaults,a.kwdefaults,a.builtins)|_=>Z
noncomputable def yx(st:Stmt):Arguments×FuncBody×cB×aa×List (Str×aa)×ae×ae×aa:=(wG st,.stmts<|gY st,eZ st,mainGlobals,[],.none,.none,builtinsNs)
abbrev afh(q:aa×Stmt×List Str×List Str):=λ(name h:Str) (body:List Stmt) (j:cB) (doc l:ae) (m:Option aa) (i n a b c d e f g:ae)=>bindArgs (fnOf name h (wG q.2.1) body j .none .none doc l m i n) [#[a,b,c,d,e,f,g].take q.2.2.2.length,[]]
abbrev afi(q:aa×Stmt×List Str×List Str):=λ(name h:Str) (body:List Stmt) (j:cB) (doc l:ae) (m:Option aa) (i n a b c d e f g:ae)=>(pure (q.2.2.2.zip<|#[a,b,c,d,e,f,g].take q.2.2.2.length):Sem<|List<|Str×ae)
def KD(G:aH):(j_ G).map afh=(j_ G).map afi:=by kernel_rfl
noncomputable def P0(q:aa×Stmt×List Str×List Str):Bool:=(eZ q.2.1).kind==.function&&!(eZ q.2.1).isCoroutine&&!(eZ q.2.1).isGenerator&&~~~q.2.2.1.Nodup&&q.2.2.1.take q.2.2.2.length==q.2.2.2&&(q.2.2.2.all λx=>(eZ q.2.1).names.lookup x==B .local||(eZ q.2.1).names.lookup x==B .cell)&&((eZ q.2.1).names.all λy=>!(y.2==.free))&&~~~(q.2.2.2.length<=7)
def sc9(G:aH):(j_ G).all P0=Y:=by kernel_rfl
def ZJ(a:Params):KW (K9 a)=Y:=by kernel_rfl
def ZK(a:Params):KY (K9 a)=Y:=by kernel_rfl
def ZL(a:Params):KZ (K9 a)=Y:=by kernel_rfl
noncomputable def dD(a:Params)(i:Nat):Bool:=(((j_<|G9 a).drop<|32*i).take 32).all λq=>keepIn (K9 a) (.ref q.1)&&codeB (K9 a) q.1
def Z6(a:Params):dD a 0=Y:=by kernel_rfl
def Z7(a:Params):dD a 1=Y:=by kernel_rfl
def Z8(a:Params):dD a 2=Y:=by kernel_rfl
def dD3(a:Params):dD a 3=Y:=by kernel_rfl
def dD4(a:Params):dD a 4=Y:=by kernel_rfl
def dD5(a:Params):dD a 5=Y:=by kernel_rfl
def Z9(a:Params):((Dt<|G9 a).all (Fs<|K9 a)&&(Du<|G9 a).all (Ft<|K9 a))=Y:=by kernel_rfl
def La(a:Params):mU (j_<|G9 a).length (64*3)=Y:=by kernel_rfl
def D4(a:Params):wC (G9 a)=Y:=by unfold wC;rw[a6];show [Z9 a,wm (k:=32) (n:=6) @d_ (cX<|La a) λi b=>match i,b with|0,_=>Z6 a|1,_=>Z7 a|2,_=>Z8 a|3,_=>dD3 a|4,_=>dD4 a|5,_=>dD5 a|i+6,h=>absurd h @o_]
def d8(a:Params):DZ (G9 a)=Y:=by kernel_rfl
noncomputable def nQE(a:Params)(i:Nat):Bool:=(((rE<|G9 a).drop<|64*i).take 64).all λq=>nsIn (K9 a) mainGlobals q.1==B (B<|.ref q.2)&&!(q.1==("__debug__":Str))
def amn(a:Params):nQE a 0=Y:=by kernel_rfl
def amo(a:Params):nQE a 1=Y:=by kernel_rfl
def amq(a:Params):nQE a 2=Y:=by kernel_rfl
def amr(a:Params):mU (rE<|G9 a).length (64*3)=Y:=by kernel_rfl
def d9(a:Params):D0 (G9 a)=Y:=by unfold D0;show wm (k:=64) (n:=3) @d_ (cX<|amr a) λi b=>match i,b with|0,_=>amn a|1,_=>amo a|2,_=>amq a|i+3,h=>absurd h @o_
def e4(a:Params):D1 (G9 a)=Y:=by kernel_rfl
def e5(a:Params):D2 (G9 a)=Y:=by kernel_rfl
def ZM(a:Params):D3 (G9 a)=Y:=by unfold D3;rw[d8,d9,e4,e5];rfl
theorem af8{α b:Type}{f g:α->b}{l:List α}{k n:Nat}(c:0<k)(hl:l.length<=k*n)(h:∀i,i<n->((l.drop<|k*i).take k).map f=((l.drop<|k*i).take k).map g):∀q∈l,f q=g q:=by intro x hx;let[j,a,rfl]:=Xc.mp hx;let e:k*(j/k)+j % k=j:=Xq j k;show xr (h (j/k)<|Xs<|gV a hl) _<|Xd.mpr [j % k,?_];rw[Ck<|Ju j c,Ci,e];show bF a
abbrev dF(a:Params)(i:Nat):Prop:=(((j_<|G9 a).drop<|64*i).take 64).map (λq=>((K9 a).lookup q.1).bind AM)=(((j_<|G9 a).drop<|64*i).take 64).map (λq=>B<|yx q.2.1)
def Z_(a:Params):dF a 0:=by kernel_rfl
def c7(a:Params):dF a 1:=by kernel_rfl
def c8(a:Params):dF a 2:=by kernel_rfl
def K3(a:Params):∀q∈j_ (G9 a),((K9 a).lookup q.1).bind AM=B (yx q.2.1):=af8 (k:=64) (n:=3) @d_ (cX<|La a) λi b=>match i,b with|0,_=>Z_ a|1,_=>c7 a|2,_=>c8 a|i+3,h=>absurd h @o_
theorem P2{us:List ae}{n:Nat}(h:us.length=n)(i:n<=7):∃a b c d e f g:ae,us=#[a,b,c,d,e,f,g].take n:=by subst h;match us,i with|[],_=>show [.none,.none,.none,.none,.none,.none,.none,()]| #[a],_=>show [a,.none,.none,.none,.none,.none,.none,()]| #[a,b],_=>show [a,b,.none,.none,.none,.none,.none,()]| #[a,b,c],_=>show [a,b,c,.none,.none,.none,.none,()]| #[a,b,c,d],_=>show [a,b,c,d,.none,.none,.none,()]| #[a,b,c,d,e],_=>show [a,b,c,d,e,.none,.none,()]| #[a,b,c,d,e,f],_=>show [a,b,c,d,e,f,.none,()]| #[a,b,c,d,e,f,g],_=>show [a,b,c,d,e,f,g,()]|_::_::_::_::_::_::_::_::_,h=>simp at h
theorem akg{G:aH}{q:aa×Stmt×List Str×List Str}(h:q∈j_ G):qi q.2.2.1 q.2.2.2 (eZ q.2.1)/\q.2.2.2.length<=7:=by let:=cq.mp (sc9 G) q h;unfold P0 at this;simp only[a6,aaF,iX,aaK,cq,j2]at this;let[[[[[[[a,b],c],d],e],f],g],i]:=this;show [[a,b,c,d,e,f,λy j=>by let:=g y j;simpa using this],i]
theorem L3{K:Frag}{f:aa}{st:Stmt}(h:(K.lookup f).bind AM=B (yx st)):∃(p:ae) (q:Option aa) (b:Array<|Option ae) (name a:Str) (doc r:ae) (s:Option aa) (g t:ae),K.lookup f=B [p,q,.func<|fnOf name a (wG st) (gY st) (eZ st) .none .none doc r s g t,b]:=by cases e:K.lookup f with|none=>rw[e]at h;cases h|some o=>rw[e]at h;let h:AM o=B (yx st):=h;let[c,d,u,v]:=o;cases u with|func w=>let[x,y,et,gO,M,P,Q,T,W,i,j,l,m,n,z]:=w;let h:=eg h;unfold yx at h;simp only[Prod.mk.injEq]at h;let[A,C,E,F,G,H,I,J]:=h;subst A C E F G H I J;show [c,d,v,x,y,i,j,l,m,n,()]|_=>cases h
theorem Za{K:Frag}{a:FuncData}{ps:List Str}(h:∀us:List ae,us.length=ps.length->bindArgs a [us,[]]=pure (ps.zip us)):Binds K a ps []:=λs us _ b=>by rw[j3]at b⊢;show .of_eq<|h us b
theorem aa_(i:Params)(q:aa×Stmt×List Str×List Str)(l:q∈j_ (G9 i)):tQ (K9 i) q.1 q.2.1 q.2.2.1 q.2.2.2:=by let m:=D4 i;unfold wC at m;rw[a6,a6]at m;let n:=cq.mp m.2 q l;rw[a6]at n;let o:keepIn (K9 i) (.ref q.1)=Y:=n.1;let hd2:codeB (K9 i) q.1=Y:=n.2;let[u,v]:=akg l;let w:=K3 i q l;let[x,y,p,name,h,doc,r,s,j,t,e]:=L3 w;show [[x,y,p,name,h,wG q.2.1,.none,.none,doc,r,s,j,t,e,?_,Za λC A=>?_],o,u];{unfold codeB at hd2;rw[e]at hd2;show hd2};let[a,b,c,d,e,f,g,rfl]:=P2 A v;let:=xr (KD<|G9 i) q l;show aad (λz=>z name h (gY q.2.1) (eZ q.2.1) doc r s j t a b c d e f g) this
def alh(a:Params):rB (K9 a)<|G9 a:=by let b:=D4 a;unfold wC at b;rw[a6,a6]at b;show [aa_ a,λq c=>?_,λq c=>?_];{let:=cq.mp b.1.1 q c;unfold Fs at this;simp only[a6,aaF]at this;show [this.1.1.1,this.1.1.2,this.1.2,this.2]};let:=cq.mp b.1.2 q c;unfold Ft at this;simp only[a6,aaF]at this;show [K5 this.1,this.2.1.1,this.2.1.2,this.2.2]
theorem z_{K:Frag}{a:Nat}{H:Hp}:∀(l:List<|String×List String)(k:Nat),(∀q∈l.zipIdx k,vh K (a+q.2) (eI q.1.2)=Y)->fA H ((l.zipIdx k).map λq=>((.inr (sw q.1.1):Key),V.ref<|a+q.2)) (ly K l)|[],_,_=>.nil|x::l,k,h=>.cons [(),a+k,eI x.2,(),Ip (h (x,k)<|.head _) H,tV _]<|z_ l (k+1) λq b=>h q<|dv _ b
theorem tk9(b:Params):Tk<|G9 b:=by let g:=ZJ b;unfold KW at g;let d:=ZK b;unfold KY at d;rw[a6,a6]at d;let hC:=ZL b;unfold KZ zY at hC;simp only[a6,aaF,cq]at hC;let[[[j,l],m],[[n,p],r],s]:=hC;show [λc i=>?_,λc i f t=>?_,λq a H=>?_,λH=>?_,?_,λH=>?_,λH=>?_,λH=>?_,?_];{let:=cq.mp g c i;rw[a6]at this;show K5 this.1};{let:=cq.mp g c i;rw[a6]at this;show aaF.mp<|cq.mp this.2 f t};{show Ip (cq.mp d.1.1 q a) H};{show Ip d.1.2 H};{let h:=d.2;change∃o,(K9 b).lookup (gH "OP_WORDS")=B o/\_;cases e:(K9 b).lookup (gH "OP_WORDS")with|none=>rw[e]at h;cases h|some o=>rw[e]at h;simp only[a6,aaF,Jw]at h;show [o,(),h.1,h.2]};{show [643,oQ 644 pK,aad V.ref n,.head _,z_ pK 0 λq a=>j q a]};{show [657,oQ 658 oM,aad V.ref p,.tail _<|.head _,z_ oM 0 λq a=>l q a]};{show [670,oQ 671 o6,aad V.ref r,.tail _<|.tail _<|.head _,z_ o6 0 λq a=>m q a]};show [_,by change (gH "MOST_AUX",_)∈zW;rw[s];show .tail _<|.tail _<|.tail _<|.head _,()]
def dE(j t n:Nat):List<|Str×Nat×ae:=match Pg.main.body[j]? with|some (.Assign _ (.Dict a b _) _)=>(zT [0,0,.nil,[],[],.none,[]] t n a b).1|_=>[]
def AO(t line s w:Nat):List<|Str×Nat×ae:=#[("__module__",t,.str "lanecode.errors" 187),("__firstlineno__",t+4,.int line<|t+3),("__static_attributes__",t+5,.ref s),("__weakref__",t+7,.ref w),("__doc__",t+8,.none)]
abbrev DP:List ae:=#[.type "Exception",.type "BaseException",.type "object"]
def LM(nm:Str)(C t:Nat):Obj:=excClassObj nm nm C (C-1) #[.type "Exception"] DP Y [] [] ag Z Z (B<|.ref<|C-9) Z (B<|.str nm t) (B<|.str nm<|t+8) (B<|.bool Y) "Exception.__new__"
noncomputable def alL(a:Params):List Obj:=#[kJ a (.type "dict") (dE 123 1194 644) 13,kJ a (.type "dict") (dE 124 1273 658) 12,kJ a (.type "dict") (dE 125 1328 671) 10,kJ a (.type "dict") (dE 136 1433 733) 3,LM "NoBytes" 24 189,kJ a (.type "dict") (AO 196 2 22 25) 3,LM "NoText" 37 209,kJ a (.type "dict") (AO 216 4 35 38) 3]
def ZN(b:Params):(#[643,657,670,732,24,23,37,36].map λa=>(K9 b).lookup a)=(alL b).map B:=by kernel_rfl
def sf:List (Key×V)->List (Str×Nat×ae)->Bool
|[],[]=>Y|(.inr x,v)::r,e::s=>x==e.1&&uO v e.2.2&&sf r s
|_,_=>ag
def xl:∀{l:List<|Key×V}{a:List<|Str×Nat×ae},sf l a=Y->KV l (a.map λe=>((.inr e.1:Key),e.2.2))
|[],[],_=>.nil|(.inr x,v)::r,e::s,h=>by let h:(x==e.1&&uO v e.2.2&&sf r s)=Y:=h;rw[a6,a6]at h;show .cons [by rw[aaF.mp h.1.1],GV h.1.2] (xl h.2)
|(.inl _,_)::_,_,h=>by cases h|[],_::_,h=>by cases h
|(.inr _,_)::_,[],h=>by cases h
def ZO:(sf (oQ 644 pK) (dE 123 1194 644)&&sf (oQ 658 oM) (dE 124 1273 658)&&sf (oQ 671 o6) (dE 125 1328 671)&&sf #[(.inr "convert",.int 13),(.inr "compare",.int 7),(.inr "function",.int 8)] (dE 136 1433 733))=Y:=by kernel_rfl
def ZP:(~~~((dE 123 1194 644).map λe=>e.1).Nodup&&~~~((dE 124 1273 658).map λe=>e.1).Nodup&&~~~((dE 125 1328 671).map λe=>e.1).Nodup&&~~~((dE 136 1433 733).map λe=>e.1).Nodup)=Y:=by kernel_rfl
theorem zU{P:bU}{w:bj}{c:a8}{a g:Nat}{b:List<|Str×Nat×ae}(h:c.get? a=B (kJ w.params (.type "dict") b g))(f:(b.map λe=>e.1).Nodup):c.DictOf (fQ P w) a<|b.map λe=>((.inr e.1:Key),e.2.2):=by show [_,_,_,h,[(),(),()],(),λe d=>?_,?_,?_];{let d:e∈b.map (rK w.params):=(d:);let[x,_,rfl]:=c4.mp d;show [.inr x.1,by change vX x.1 (.str x.1 x.2.1)=Y;simp[vX],()]};{change Pairs (fQ P w) (b.map<|rK w.params).toArray.toList _;rw[Cs];clear h f;induction b with|nil=>show .nil|cons x b i=>show .cons (by change vX x.1 (.str x.1 x.2.1)=Y;simp[vX]) () i};rw[cD];let:(b.map<|(λx:Key×ae=>x.1)∘λe=>((.inr e.1:Key),e.2.2))=(b.map λe=>e.1).map λx=>(.inr x:Key):=(by rw[cD];rfl);rw[this];show List.pairwise_map.mpr<|List.Pairwise.imp (λh e=>h<|Kf e) f
theorem NY{b:a8}{d:Params}{c:ae}{a i:Nat}{f:List<|Str×Nat×ae}(h:b.get? a=B (kJ d c f i)):b.Ns a<|nsFind (f.map<|rK d).toArray:=[_,_,_,h,(),λe g=>by let g:e∈f.map (rK d):=(g:);let[x,_,rfl]:=c4.mp g;show [x.1,x.2.1,()],λ_=>rfl]
def ajm(a:Params):(quietNames.map (nsFind ((AO 196 2 22 25).map<|rK a).toArray)++quietNames.map (nsFind ((AO 216 4 35 38).map<|rK a).toArray))=#[Z,Z,Z,Z,Z,Z,Z,Z]:=by kernel_rfl
theorem qm{α c:Type}{f:α->Option c}{d:List α}{bs:List c}(h:d.map f=bs.map B)(i:Nat){a:α}{b:c}(e:d[i]?=B a)(O:bs[i]?=B b):f a=B b:=by let:=aad (λl=>l[i]?) h;simp only[du,e,O,gC,Option.some.injEq]at this;show this
theorem wd9(w:bj){mg:Str->Option ae}{base:a8}(X:(K9 w.params).In base)(N:base.Ns mainGlobals mg):Wd Pg w (K9 w.params) mg base (G9 w.params) (ql<|G9 w.params) (rE<|G9 w.params)<|oJ<|G9 w.params:=by{
let j:=ZM w.params;unfold D3 DZ D0 D1 D2 at j;rw[a6,a6,a6]at j;let[[[t,v],y],z]:=j;let g:=ZN w.params;let p:=ZO;let r:=ZP;simp only[a6,aaK]at p r;let[[[A,C],E],F]:=p;let[[[G,H],et],gO]:=r;let s:=ajm w.params;show [(),λa m d=>?_,λx hx=>?_,λq b=>?_,λq b=>?_,λq b=>?_]
.let d:(a,m)∈zW:=d;unfold zW at d;simp only[bh,fZ,aaO,Prod.mk.injEq]at d;rcases d with⟨rfl,rfl⟩|⟨rfl,rfl⟩|⟨rfl,rfl⟩|⟨rfl,rfl⟩
 {show [by decide,_,xl A,zU (X _ _<|qm g 0 rfl rfl) G]};{show [by decide,_,xl C,zU (X _ _<|qm g 1 rfl rfl) H]};{show [by decide,_,xl E,zU (X _ _<|qm g 2 rfl rfl) et]};show [by decide,_,xl F,zU (X _ _<|qm g 3 rfl rfl) gO]
.show mg_none_of X N<|aaF.mp<|cq.mp y x hx
.let h:=cq.mp t q b;rw[a6,iX]at h;show [h.1,?_];let c:=h.2;cases e:nsIn (G9 w.params).K mainGlobals q.1 with|none=>rw[e]at c;cases c|some u=>cases u with|none=>rw[e]at c;cases c|some u=>rw[e]at c;show [u,mg_of X N e,GV c]
.let h:=cq.mp v q b;rw[a6,iX]at h;show [mg_of X N<|aaF.mp h.1,h.2]
let h:=cq.mp z q b;rw[a6,iX]at h;let O:=mg_of X N<|aaF.mp h.1;show [[O,?_],h.2];let I:gH "NoBytes"=24:=by kernel_rfl
let J:gH "NoText"=37:=by kernel_rfl
let b:q∈(#[("NoBytes",gH "NoBytes"),("NoText",gH "NoText")]:List<|Str×aa):=b;rw[I,J]at b;simp only[bh,fZ,aaO]at b;rcases b with rfl|rfl
.show [DP,23,"NoBytes","NoBytes",_,_,_,_,_,_,_,_,_,_,_,_,_,X 24 _<|qm g 4 rfl rfl,NY<|X 23 _<|qm g 5 rfl rfl,λn o=>by let[i,f,rfl]:=W4 o;let:=aad (λl=>l[i]?) s;rw[show(quietNames).length=4 from()]at f;match i,f with|0,_=>show eg this|1,_=>show eg this|2,_=>show eg this|3,_=>show eg this,.base]
show [DP,36,"NoText","NoText",_,_,_,_,_,_,_,_,_,_,_,_,_,X 37 _<|qm g 6 rfl rfl,NY<|X 36 _<|qm g 7 rfl rfl,λn o=>by let[i,f,rfl]:=W4 o;let:=aad (λl=>l[i+4]?) s;rw[show(quietNames).length=4 from()]at f;match i,f with|0,_=>show eg this|1,_=>show eg this|2,_=>show eg this|3,_=>show eg this,.base]}
end Hd
namespace L2
open PySem PySem.Spec PyProof.Rows
open PySem.W (WData Codec OpenSpec Well WellAll ReadsW ReadsAllW)
mutual
inductive Dw (K:aR) (H:Hp):V->WData->Prop
 |aC:Dw K H .aC .none
 |bl (b:Bool):Dw K H (.bl b) (.bool b)
 |int (i:Int):Dw K H (.int i) (.int i)
 |str (x:Str):Dw K H (.str x) (.str x)
 |i5 (b:Array UInt8):Dw K H (.i5 b) (.bytes b.toList)
 |lst {a:aa} {xs:List V} {ds:List WData}:bE K H a xs->lR K H xs ds->Dw K H (.ref a) (.list ds)
 |tup {a:aa} {xs:List V} {ds:List WData}:cP K H a xs->lR K H xs ds->Dw K H (.ref a) (.tuple ds)
inductive lR (K:aR) (H:Hp):List V->List WData->Prop
 |nil:lR K H [] []
 |cons {v:V} {vs:List V} {d:WData} {ds:List WData}:Dw K H v d->lR K H vs ds->lR K H (v::vs) (d::ds)
end
theorem Lz{K:aR}{H:Hp}:∀ns:List Int,lR K H (ns.map V.int) (ns.map WData.int)|[]=>.nil|n::r=>.cons (.int n)<|Lz r
theorem ME{K:aR}{H:Hp}:∀(ns:List Int)(xs:List V),lR K H xs (ns.map WData.int)->xs=ns.map V.int|[],xs,h=>by cases h;rfl|n::r,xs,h=>by cases h with|cons a b=>cases a;rw[ME r _ b]<;>rfl
section
variable{P:bU}{w:bj}{K:aR}{H:Hp}{h:a8}{R:Yd}{cl:Str->Option aa}
def akw(c:dO P w H h)(f:K.In h)(q:bE K H a xs):∃(b:List ae) (o:Obj) (n:Nat),bq xs b/\h.get? a=B o/\o.cls=.type "list"/\o.data=.seq b.toArray n:=by(rcases q with q|⟨o,b,n,e,g,_,i,_,d⟩);{let[_,b,n,d,e]:=(show eL P w H h a (.lst xs)from q.ok c);show [b,_,n,d,e,(),()]};show [b.toList,o,n,d,f _ _ e,g,by simp[i]]
def akx(c:dO P w H h)(i:K.In h)(q:cP K H a xs):∃(b:List ae) (o:Obj) (n:Nat),bq xs b/\h.get? a=B o/\o.cls=.type "tuple"/\o.data=.seq b.toArray n:=by(rcases q with q|⟨o,b,n,e,d,f,_,g⟩);{let[_,b,g,o,e,d,n,f]:=(show eL P w H h a (.tup xs)from q.ok c);show [b,o,n,g,e,d,f]};show [b.toList,o,n,g,i _ _ e,d,by simp[f]]
mutual
theorem Dw.reads(bx:dO P w H h)(KX:K.In h):∀(d:WData)(v:V)(u:ae),Dw K H v d->RelV v u->∃as,ReadsW R cl h u d as
 |.none,_,_,x,r=>by cases x;cases r;show [_,ReadsW.none]
 |.bool b,_,_,x,r=>by cases x;cases r;show [_,ReadsW.bool b]
 |.int i,_,_,x,r=>by cases x;let[t,rfl]:=r;show [_,ReadsW.int i t]
 |.str s,_,_,x,r=>by cases x;let[t,rfl]:=r;show [_,ReadsW.str s t]
 |.bytes b,_,_,x,r=>by cases x;let[t,rfl]:=r;show [_,ReadsW.bytes _ t]
 |.list ds,_,_,x,r=>by
  cases x with
  |lst hs ha=>cases r;let[h8,o,n,rv,ho,hc,hd]:=akw bx KX hs;let[as,hr]:=Dw.readsAll bx KX ds _ h8 ha rv;show [_,ReadsW.list ho hc hd hr]
 |.tuple ds,_,_,x,r=>by
  cases x with
  |tup hs ha=>cases r;let[h8,o,n,rv,ho,hc,hd]:=akx bx KX hs;let[as,hr]:=Dw.readsAll bx KX ds _ h8 ha rv;show [_,ReadsW.tuple ho hc hd hr]
 |.float _,_,_,x,_=>by cases x
 |.dict _,_,_,x,_=>by cases x
 |.bytearray _,_,_,x,_=>by cases x
 |.set _,_,_,x,_=>by cases x
 |.frozenset _,_,_,x,_=>by cases x
 |.obj _ _,_,_,x,_=>by cases x
theorem Dw.readsAll (bx:dO P w H h) (KX:K.In h):∀(ds:List WData)(vs:List V)(us:List ae),lR K H vs ds->bq vs us->∃as,ReadsAllW R cl h us ds as
 |[],_,_,x,r=>by cases x;cases r;show [_,ReadsAllW.nil]
 |d::ds,_,_,x,r=>by
  cases x with
  |cons h1 h2=>
   cases r with
   |cons r1 r2=>let[as,q1]:=Dw.reads bx KX d _ _ h1 r1;let[bs,q2]:=Dw.readsAll bx KX ds _ _ h2 r2;show [_,ReadsAllW.cons q1 q2]
end
end
mutual
def kq:WData->Bool
 |.none=>Y
 |.bool _=>Y
 |.int _=>Y
 |.str _=>Y
 |.bytes _=>Y
 |.list xs=>lE xs
 |.tuple xs=>lE xs
 |_=>ag
def lE:List WData->Bool
 |[]=>Y
 |x::r=>kq x&&lE r
end
theorem OI{α:Type}{f:α->WData}(h:∀a,kq (f a)=Y):∀l:List α,lE (l.map f)=Y|[]=>rfl|x::r=>by change (kq (f x)&&lE (r.map f))=Y;rw[h x,OI h r]<;>rfl
def qE:∀(c:Codec)(a:c.denote),kq (c.enc a)=Y
|.unit,_=>rfl|.bool,_=>rfl
|.int _ _,_=>rfl|.nat _ _,_=>rfl
|.u8,_=>rfl|.bytes _ _,_=>rfl
|.text _ _ _ _,_=>rfl|.list _ _ c,a=>OI (λx=>qE c x) a
|.pair c d,a=>by change (kq (c.enc a.1)&&(kq (d.enc a.2)&&Y))=Y;rw[qE c a.1,qE d a.2]<;>rfl|.triple c d e,a=>by change (kq (c.enc a.1)&&(kq (d.enc a.2.1)&&(kq (e.enc a.2.2)&&Y)))=Y;rw[qE c a.1,qE d a.2.1,qE e a.2.2]<;>rfl
|.option c,Z=>rfl|.option c,B x=>qE c x
theorem OJ:∀(cs:List Codec)(a:Codec.denoteAll cs),lE (Codec.encAll cs a)=Y|[],_=>rfl|c::cs,a=>by change (kq (c.enc a.1)&&lE (Codec.encAll cs a.2))=Y;rw[qE c a.1,OJ cs a.2]<;>rfl
def IH:∀{xs:List WData}{d:WData},d∈xs->d.weight<=WData.weightAll xs|[],d,h=>absurd h @s_|x::r,d,h=>by(change d.weight<=x.weight+1+WData.weightAll r;rcases bh.mp h with e|m);{rw[e];lia};let z:=IH m;lia
def toV:ae->V
|.none=>.aC|.bool b=>.bl b
|.int i _=>.int i|.str x _=>.str x
|.bytes b _=>.i5 b|.ref a=>.ref a
|_=>.aC
def kF(A:List aa):ae->Prop
|.none=>True|.bool _=>True
|.int _ _=>True|.str _ _=>True
|.bytes _ _=>True|.ref a=>a∈A
|_=>False
def kF.mono(h:∀a∈A,a∈c):∀{u:ae},kF A u->kF c u:=λ{u} x=>by cases u with|ref a=>show h a x|none=>trivial|bool b=>trivial|int i t=>trivial|str s t=>trivial|bytes b t=>trivial|_=>show gA x
def ajZ(x:kF A u):RelV (toV u) u:=by cases u with|ref a=>rfl|none=>rfl|bool b=>rfl|int i t=>show [t,()]|str s t=>show [t,()]|bytes b t=>show [t,()]|_=>show gA x
theorem vi{A:List aa}:∀{vs:List ae},(∀u∈vs,kF A u)->bq (vs.map toV) vs|[],_=>.nil|u::r,h=>.cons (ajZ<|h u<|gU .. )<|vi λx hx=>h x<|dv _ hx
def k8(h:a8)(A:List aa)(a:aa):Prop:=∃b:List ae,b.length<=sizeLine/\(∀u∈b,kF A u)/\(h.get? a=B {cls:=.type "list",data:=.seq b.toArray}\/h.get? a=B {cls:=.type "tuple",data:=.seq b.toArray})
def k8.mono(k:∀a∈A,a∈b)(x:k8 h A a):k8 h b a:=by let[c,d,e,f]:=x;show [c,d,λu g=>(e u g).mono k,f]
theorem B4{P:Params}{h:a8}:∀{vs:List ae}{ds:List WData},WellAll P h vs ds->vs.length=ds.length|_,_,.nil=>rfl|_,_,.cons _ b=>by change _+1=_+1;rw[B4 b]
theorem Wu{P:Params}{h:a8}{v:ae}{ds:List WData}(x:Well P h v<|.list ds):∃(a:aa) (vs:List ae),v=.ref a/\h.get? a=B {cls:=.type "list",data:=.seq vs.toArray}/\WellAll P h vs ds:=by cases x with|list c b=>show [_,_,(),c,b]
theorem Wv{P:Params}{h:a8}{v:ae}{ds:List WData}(x:Well P h v<|.tuple ds):∃(a:aa) (vs:List ae),v=.ref a/\h.get? a=B {cls:=.type "tuple",data:=.seq vs.toArray}/\WellAll P h vs ds:=by cases x with|tuple c b=>show [_,_,(),c,b]
theorem Wt{P:Params}{h:a8}{us:List ae}{d:WData}{ds:List WData}(x:WellAll P h us<|d::ds):∃(v:ae) (vs:List ae),us=v::vs/\Well P h v d/\WellAll P h vs ds:=by cases x with|cons a b=>show [_,_,(),a,b]
def NB(h:n<=1048576):n<=sizeLine:=cu h @d_
section
variable{P:Params}{h:a8}
mutual
theorem YR:∀(d:WData)(v:ae),Well P h v d->kq d=Y->d.weight<=1048576->∃A:List aa,kF A v/\∀a∈A,k8 h A a
 |.none,_,x,_,_=>by cases x;show [[],trivial,λa m=>absurd m @s_]
 |.bool b,_,x,_,_=>by cases x;show [[],trivial,λa m=>absurd m @s_]
 |.int i,_,x,_,_=>by cases x;show [[],trivial,λa m=>absurd m @s_]
 |.str s,_,x,_,_=>by cases x;show [[],trivial,λa m=>absurd m @s_]
 |.bytes b,_,x,_,_=>by cases x;show [[],trivial,λa m=>absurd m @s_]
 |.list ds,_,x,p,z=>by
  let[a,vs,rfl,ho,oW]:=Wu x;let z2:WData.weightAll ds<=1048576:=z;let[A,h1,h2]:=zC ds _ oW p λd hd=>cu (IH hd) z2;let k:∀b∈A,b∈a::A:=λb O=>dv _ O;show [a::A,gU ..,λb O=>?_];rcases bh.mp O with e|m
  .rw[e];show [vs,NB<|by rw[B4 oW];show cu (Yh ds) z2,λu hu=>(h1 u hu).mono k,.inl ho]
  .show(h2 b m).mono k
 |.tuple ds,_,x,p,z=>by
  let[a,vs,rfl,ho,oW]:=Wv x;let z2:WData.weightAll ds<=1048576:=z;let[A,h1,h2]:=zC ds _ oW p λd hd=>cu (IH hd) z2;let k:∀b∈A,b∈a::A:=λb O=>dv _ O;show [a::A,gU ..,λb O=>?_];rcases bh.mp O with e|m
  .rw[e];show [vs,NB<|by rw[B4 oW];show cu (Yh ds) z2,λu hu=>(h1 u hu).mono k,.inr ho]
  .show(h2 b m).mono k
 |.float _,_,_,p,_=>Bool.noConfusion (show ag=Y from p)
 |.dict _,_,_,p,_=>Bool.noConfusion (show ag=Y from p)
 |.bytearray _,_,_,p,_=>Bool.noConfusion (show ag=Y from p)
 |.set _,_,_,p,_=>Bool.noConfusion (show ag=Y from p)
 |.frozenset _,_,_,p,_=>Bool.noConfusion (show ag=Y from p)
 |.obj _ _,_,_,p,_=>Bool.noConfusion (show ag=Y from p)
theorem zC:∀(ds:List WData)(vs:List ae),WellAll P h vs ds->lE ds=Y->(∀d∈ds,d.weight<=1048576)->∃A:List aa,(∀u∈vs,kF A u)/\∀a∈A,k8 h A a
 |[],_,x,_,_=>by cases x;show [[],λu m=>absurd m @s_,λa m=>absurd m @s_]
 |d::ds,_,x,p,z=>by
  let[v,vs,rfl,x1,x2]:=Wt x;let q:kq d=Y/\lE ds=Y:=yE.mp p;let[A,a1,a2]:=YR d v x1 q.1<|z d<|gU ..;let[bB,b1,b2]:=zC ds vs x2 q.2 λe he=>z e<|dv _ he;let kA:∀b∈A,b∈A++bB:=λb O=>iZ.mpr<|.inl O;let kB:∀b∈bB,b∈A++bB:=λb O=>iZ.mpr<|.inr O;show [A++bB,λu hu=>?_,λb O=>?_]
  .rcases bh.mp hu with e|m
   .rw[e];show a1.mono kA
   .show(b1 u m).mono kB
  .rcases iZ.mp O with m|m
   .show(a2 b m).mono kA
   .show(b2 b m).mono kB
end
end
def Ai(o:Obj):Option HO:=match o.data with
 |.seq a _=>if(o.cls==p_ "list")=Y then B (.gK o<|.lst<|a.toList.map toV)else B (.gK o<|.tup<|a.toList.map toV)
 |_=>Z
def ip(K:aR)(h:a8)(A:List aa):Hp:=λb=>if b∈A then(if(K.lookup b).isNone=Y then(h.get? b).bind Ai else Z)else Z
def zw(H:Hp):Prop:=∀b,H b=Z\/∃o u,H b=B (.gK o u)
theorem Mr(vs:List ae):Ai {cls:=.type "list",data:=.seq vs.toArray}=B (.gK {cls:=.type "list",data:=.seq vs.toArray}<|.lst<|vs.map toV):=by change (if(p_ "list"==p_ "list")=Y then B (HO.gK {cls:=.type "list",data:=.seq vs.toArray}<|.lst<|vs.toArray.toList.map toV)else B<|HO.gK {cls:=.type "list",data:=.seq vs.toArray}<|.tup<|vs.toArray.toList.map toV)=_;rw[aab<|beq_self_eq_true _]
theorem Ms(vs:List ae):Ai {cls:=.type "tuple",data:=.seq vs.toArray}=B (.gK {cls:=.type "tuple",data:=.seq vs.toArray}<|.tup<|vs.map toV):=by change (if(p_ "tuple"==p_ "list")=Y then B (HO.gK {cls:=.type "tuple",data:=.seq vs.toArray}<|.lst<|vs.toArray.toList.map toV)else B<|HO.gK {cls:=.type "tuple",data:=.seq vs.toArray}<|.tup<|vs.toArray.toList.map toV)=_;rw[aaa @d_]
section
variable{P:bU}{w:bj}{K:aR}{h:a8}{A:List aa}
theorem zD{b:aa}{o:Obj}(O:b∈A)(a:K.lookup b=Z)(e:h.get? b=B o):ip K h A b=Ai o:=by unfold ip;rw[aab O,a,aab (show(Z:Option Obj).isNone=Y from()),e]<;>rfl
def ag4(q:ip K h A b=B u):b∈A/\K.lookup b=Z:=by unfold ip at q;by_cases O:b∈A;{rw[aab O]at q;cases a:K.lookup b with|none=>show [O,()]|some o=>rw[a,aaa @s_]at q;cases q};rw[aaa O]at q;cases q
theorem zE(d:∀a∈A,k8 h A a){b:aa}{u:HO}(q:ip K h A b=B u):K.lookup b=Z/\∃vs:List ae,vs.length<=sizeLine/\(∀u∈vs,kF A u)/\((h.get? b=B {cls:=.type "list",data:=.seq vs.toArray}/\u=.gK {cls:=.type "list",data:=.seq vs.toArray} (.lst<|vs.map toV))\/(h.get? b=B {cls:=.type "tuple",data:=.seq vs.toArray}/\u=.gK {cls:=.type "tuple",data:=.seq vs.toArray} (.tup<|vs.map toV))):=by(let[O,c]:=ag4 q;let[vs,f,g,i]:=d b O;show [c,vs,f,g,?_];rcases i with e|e);{rw[zD O c e,Mr]at q;show .inl [e,(eg q).symm]};rw[zD O c e,Ms]at q;show .inr [e,(eg q).symm]
theorem YT(c:∀a∈A,k8 h A a):zw<|ip K h A:=λb=>by cases q:ip K h A b with|none=>show .inl ()|some u=>obtain⟨_,d,_,_,⟨_,e⟩|⟨_,e⟩⟩:=zE c q;{show .inr [_,_,by rw[e]]};show .inr [_,_,by rw[e]]
theorem YS(g:∀a∈A,k8 h A a):dO P w (ip K h A) h:=λb u q=>by obtain⟨_,c,d,f,⟨e,rfl⟩|⟨e,rfl⟩⟩:=zE g q;{show [e,by rw[aP];show d,c,_,vi f,e]};show [e,by rw[aP];show d,c,vi f,_,e,(),_,()]
theorem Bu{c c':ae}{vs us:List ae}(e:(B {cls:=c,data:=.seq vs.toArray}:Option Obj)=B {cls:=c',data:=.seq us.toArray}):c=c'/\vs=us:=by(let a:=eg e;let b:c=c':=aad Obj.cls a;let d:CL vs.toArray=CL us.toArray:=aad Obj.data a;injection d with f);show [b,?_];let g:=aad yC f;simpa using g
theorem YU(i:K.In h)(j:∀a∈A,k8 h A a){a:aa}{vs:List ae}(c:a∈A)(e:h.get? a=B {cls:=.type "list",data:=.seq vs.toArray}):(∀u∈vs,kF A u)/\bE K (ip K h A) a (vs.map toV):=by let[d,l,f,m]:=j a c;let n:d=vs:=(by(rcases m with q|q);{rw[e]at q;show(Bu q).2.symm};rw[e]at q;show absurd (Yc (Bu q).1) @d_);subst n;show [f,?_];cases b:K.lookup a with|none=>show .inl (.inr [_,by rw[zD c b e,Mr]])|some o=>let g:=i a o b;rw[e]at g;obtain rfl:=eg g;show .inr [_,d.toArray,_,b,(),(),(),by rw[eW];show l,(vi f:)]
theorem YV(i:K.In h)(j:∀a∈A,k8 h A a){a:aa}{vs:List ae}(c:a∈A)(e:h.get? a=B {cls:=.type "tuple",data:=.seq vs.toArray}):(∀u∈vs,kF A u)/\cP K (ip K h A) a (vs.map toV):=by let[d,l,f,m]:=j a c;let n:d=vs:=(by(rcases m with q|q);{rw[e]at q;show absurd (Yc (Bu q).1) @d_};rw[e]at q;show(Bu q).2.symm);subst n;show [f,?_];cases b:K.lookup a with|none=>show .inl (.inr [_,by rw[zD c b e,Ms]])|some o=>let g:=i a o b;rw[e]at g;obtain rfl:=eg g;show .inr [_,d.toArray,_,b,(),(),by rw[eW];show l,(vi f:)]
mutual
theorem aaH{Pm:Params}(KX:K.In h)(ar:∀a∈A,k8 h A a):∀(d:WData)(v:ae),Well Pm h v d->kq d=Y->kF A v->Dw K (ip K h A) (toV v) d
 |.none,_,x,_,_=>by cases x;show .aC
 |.bool b,_,x,_,_=>by cases x;show .bl b
 |.int i,_,x,_,_=>by cases x;show .int i
 |.str s,_,x,_,_=>by cases x;show .str s
 |.bytes b,_,x,_,_=>by cases x;let z:=Dw.i5 (K:=K) (H:=ip K h A) b.toArray;show z
 |.list ds,_,x,p,hu=>by let[a,vs,rfl,ho,oW]:=Wu x;let[h2,hs]:=YU KX ar hu ho;show .lst hs (zZ KX ar ds _ oW p h2)
 |.tuple ds,_,x,p,hu=>by let[a,vs,rfl,ho,oW]:=Wv x;let[h2,hs]:=YV KX ar hu ho;show .tup hs (zZ KX ar ds _ oW p h2)
 |.float _,_,_,p,_=>Bool.noConfusion (show ag=Y from p)
 |.dict _,_,_,p,_=>Bool.noConfusion (show ag=Y from p)
 |.bytearray _,_,_,p,_=>Bool.noConfusion (show ag=Y from p)
 |.set _,_,_,p,_=>Bool.noConfusion (show ag=Y from p)
 |.frozenset _,_,_,p,_=>Bool.noConfusion (show ag=Y from p)
 |.obj _ _,_,_,p,_=>Bool.noConfusion (show ag=Y from p)
theorem zZ {Pm:Params} (KX:K.In h) (ar:∀a∈A,k8 h A a):∀(ds:List WData)(vs:List ae),WellAll Pm h vs ds->lE ds=Y->(∀u∈vs,kF A u)->lR K (ip K h A) (vs.map toV) ds
 |[],_,x,_,_=>by cases x;show .nil
 |d::ds,_,x,p,hu=>by let[v,vs,rfl,x1,x2]:=Wt x;let q:kq d=Y/\lE ds=Y:=yE.mp p;show .cons (aaH KX ar d v x1 q.1<|hu _<|gU .. ) (zZ KX ar ds vs x2 q.2 λu m=>hu u<|dv _ m)
end
end
theorem aku{P:bU}{w:bj}{K:aR}{mg T:Str->Option ae}{CX:iI}{k:Nat}{fa:aa}{fd:FuncData}{ps:List Str}{sp:Sp}{a:ak}{vals:List ae}{ds:List WData}{R:Yd}{cl:Str->Option aa}{d0:WData}(X:K.In a.heap)(C:a.heap.Ns mainGlobals mg)(O:a.heap.Ns builtinsNs T)(hbb:∀x:Str,x≠"__name__"->T x=bootBuiltins x)(E:a.heap.NoLimit)(hg:a.gens=#[])(j:WellAll w.params a.heap vals ds)(G:lE ds=Y)(hwt:∀d∈ds,d.weight<=1048576)(hr:eP k callerA)(F:∀f:a8,K.In f->f.Ns mainGlobals mg->gW P w K mg f CX k fa fd ps sp)(l:∀(s:ak)(us:List ae),us.length=ps.length->BindsTo s fd [us,[]] (ps.zip us))(hlen:ds.length=ps.length)(hsp:∀(H:Hp)(xs:List V),zw H->lR K H xs ds->sp xs H (λv H'=>Dw K H' v d0) λ_ _ _=>False)(hCX:∀H e g,CX [] H a (λ_ _ _=>False) e g->False):codeAny (model P w) callerA (.call (.ref fa) [vals,[]]) (λr g=>∃u as,r=.ok (.ret u)/\ReadsW R cl g.heap u d0 as/\OldK a.heap g.heap/\g.os=a.os/\AllBare g.gens) a:=by{
let[A,ho,I]:=zC ds vals j G hwt;let hO:zw<|ip K a.heap A:=YT I;let p:dO P w (ip K a.heap A) a.heap:=YS I;let hS:=zZ X I ds vals j G ho;let hV:=vi ho;let hK:∀b u,ip K a.heap A b=B u->K.lookup b=Z:=λb u q=>(zE I q).1;let J:∀{b:aa}{o:Obj}{t:Array DictEntry}{y:Nat},a.heap.get? b=B o->o.data=.dict t y->ip K a.heap A b=Z:=λ{b o t y} e d=>by cases q:ip K a.heap A b with|none=>rfl|some u=>obtain⟨_,vs,_,_,⟨M,_⟩|⟨M,_⟩⟩:=zE I q;{rw[M]at e;cases e;let d':CL vs.toArray _=Data.dict t y:=d;cases d'};rw[M]at e;cases e;let d':CL vs.toArray _=Data.dict t y:=d;cases d'
generalize ip K a.heap A=H at hO p hS hK J;let c:∀{b:aa}{o:Obj},a.heap.get? b=B o->H b=Z->(oX a.heap H).get? b=B o:=λe n=>acg e n;let h:∀{b:aa}{m:Str->Option ae},a.heap.Ns b m->(oX a.heap H).Ns b m:=λ{b m} ⟨o,t,y,e,d,r⟩=>[o,t,y,c e<|J e d,d,r];let nK:∀b o,K.lookup b=B o->H b=Z:=λb o e=>by cases q:H b with|none=>rfl|some u=>rw[hK b u q]at e;cases e
let Q:K.In<|oX a.heap H:=λb o e=>c (X b o e)<|nK b o e;let hM:Mod K mg<|oX a.heap H:=[Q,h C,[T,h O,hbb],let⟨mc,h1,h2⟩:=E;[mc,h h1,h2]];let e0:oF P w K mg (oX a.heap H) callerA [] a H:=[(),hM,λb o e=>ag5 e,tI<|ach _ _,trivial,λb O=>absurd (show b∈([]:List aa)from O) @s_,p,.of_eq hg];let hl:vals.length=ps.length:=by rw[B4 j];show hlen
show zf ((F _ Q<|h C).run callerA [] a H [vals,[]] vals (vals.map toV) _ _ hr e0 (l a vals hl) hV<|hsp H _ hO hS) λr g x=>?_;cases r with|error e=>show(hCX H e g x).elim|ok fl=>cases fl with|next=>show gA x|brk=>show gA x|cont=>show gA x|ret u=>(let[v,H',os,bare,un,i,r',q]:=x;let kept:∀b o,a.heap.get? b=B o->g.heap.get? b=B o:=λb o e=>by cases q2:H b with|none=>show un.keep b o e q2 (by intro z;show absurd (show b∈([]:List aa)from z) @s_) @s_|some u2=>(rcases hO b with z|⟨ob,u3,z⟩);{rw[q2]at z;cases z};let z2:=un.acp b ob _ z;let[e1,_]:=p b _ z;let[M,_]:=i b _ z2;rw[e]at e1;cases e1;show M);let YC:K.In g.heap:=λb o e=>kept b o<|X b o e;let[as,Mv]:=Dw.reads (R:=R) (cl:=cl) i YC d0 v u q r';show [u,as,(),Mv,OldK.of_keep kept,os,bare]}
theorem afk{ds:List WData}(h:WData.layableAll ds=Y):∀d∈ds,d.weight<=1048576:=λd a=>(PySem.W.layableW_iff.mp<|cq.mp h d a).2.2
theorem LD:∀(cs:List Codec)(a:Codec.denoteAll cs),(Codec.encAll cs a).length=cs.length|[],_=>rfl|c::cs,a=>by change (Codec.encAll cs a.2).length+1=cs.length+1;rw[LD cs a.2]
theorem alI{r:OpenSpec}{k:Nat}{q:bU}{loose:List Str}{XP:(Str->Option ae)->a8->Prop}{YP:bj->a8->Prop}{d:DefRec}{K:Params->aR}{CX:bj->iI}{ps:List Str}{sp:bj->Sp}(j:r.wellSaid=Y)(Q:d.params.defaults=[])(hlen:r.args.length=ps.length)(X:eP k callerA)(hY:∀(w:bj)(h:a8),YP w h->(K w.params).In h)(F:∀(w:bj)(mg:Str->Option ae)(t:aa)(h:a8),YP w h->(K w.params).In h->h.Ns mainGlobals mg->mg d.name=B (.ref t)->∃y:FuncData,(∀(s:ak)(us:List ae),us.length=ps.length->BindsTo s y [us,[]] (ps.zip us))/\∀i:a8,(K w.params).In i->i.Ns mainGlobals mg->gW r.prog w (K w.params) mg i (CX w) k t y ps (sp w))(A:∀(w:bj)(H:Hp)(xs:List V)(a:Codec.denoteAll r.args),zw H->Codec.withinAll r.args a=Y->Codec.app r.args r.asked a=Y->lR (K w.params) H xs (Codec.encAll r.args a)->sp w xs H (λv H'=>Dw (K w.params) H' v<|r.ret.enc<|Codec.app r.args r.f a) λ_ _ _=>False)(C:∀(w:bj)(H:Hp)(s:ak)(e:ae)(x:ak),CX w [] H s (λ_ _ _=>False) e x->False):PySem.W.WalkOS q loose XP YP r d [] (λf vs=>PySem.call f vs):=by{
intro w E l mg mb G c t o pm cd doc dV kV ho hd hcd hD I hg args vals as m n Mv J hlo;let[a,e1,e2]:=PySem.W.os_pre_some m;let[e3,p]:=Codec.encAll_of_decAll r.args args a e1;subst e3;let P:=hY w _ c;let[y,O,hF]:=F w mg t _ c P G.T.g I;show PySem.W.enter_call (zf (aku (R:=[]) (cl:=classAt E.heap) (d0:=r.ret.enc<|Codec.app r.args r.f a) P G.T.g G.T.b G.T.builtins G.T.nolimit hg J (OJ _ _) (afk n) X hF O (by rw[LD];show hlen)
 (λH xs hO hS=>A w H xs a hO p e2 hS) λH e x=>C w H l e x) λr' x hq=>?_)
let[u,M,rfl,h1,h2,h3,h4]:=hq;show [.inl [u,_,M,(),λ_=>rfl,h1,(OpenSpec.post_iff j p _ _).mpr (),λz=>Bool.noConfusion (show ag=Y from z)],h2,h3,h4]}
end L2
namespace Hd
open PySem PySem.W PyProof.Rows L2
noncomputable def d0:DefRec:=["answers",wG<|top 294,gY<|top 294,eZ<|top 294,[1135,0,1151,15]]
def ok0:(chainsOk q0&&opensWell Pg)=Y:=by kernel_rfl
def Y8:Pg.bare:=[by kernel_rfl,by kernel_rfl,by kernel_rfl,by kernel_rfl,by kernel_rfl,tw0]
def aaz:defOf q0 r0.name=B (d0,[]):=by kernel_rfl
def akR:r0.prog.theDef r0.name=B (d0.params,d0.body,d0.scope):=by kernel_rfl
def kw0:kwWritten? d0.params.kwonlyargs d0.params.kw_defaults=B []:=by kernel_rfl
def alT:r0.pre #[.list []]=Y:=by kernel_rfl
def lay0:WData.layableAll #[.list []]=Y:=by kernel_rfl
section
variable{P:bU}{w:bj}{K:Frag}{mg:Str->Option ae}{base:a8}{f:aa}{k:Nat}
theorem abt{n m:Nat}{st:Stmt}{N ps:List Str}{g:XK->Gm}{t:XK->TS}{u:ae}{v:Option aa}{e:Array<|Option ae}{name a:Str}{params:Arguments}{o kV doc p:ae}{q:Option aa}{c r:ae}(lk:K.lookup f=B [u,v,.func<|fnOf name a params (gY st) (eZ st) o kV doc p q c r,e])(i:codeIn K c a=Y)(x:qi N ps<|eZ st)(j:∀E,(nR (pD n) m).b (g E) (gY st)=B (t E))(d:∀X E,Body P w K mg base N (eZ st) k E X->Ctx X (g E) k):gW P w K mg base (jq P w) (k+2) f (fnOf name a params (gY st) (eZ st) o kV doc p q c r) ps (mS N ps.length t):=L1 (k:=k+1) lk i x (λy H Q E h=>h.1) λA l s H y Q E z h=>[t E,(uU (qJ n) m).b (d _ E [(),(),(),(),(),(),(),(),λ_=>rfl,Ep,z])<|j E,h.2]
abbrev qs:Df:=["answers","answers",top 294,[],8,1,12,Ik]
def wF:qs∈rJ++wJ/\qs∈dl:=[Az 167 @y_,Az 167 @y_]
def agu:qs.N.take qs.n=(#["calls"]:List Str):=by kernel_rfl
def abb(h:gW P w K mg base CX k f e ps sp)(a:ps=c)(b:sp=d):gW P w K mg base CX k f e c d:=by subst a;subst b;show h
theorem ag_{G:aH}{l:ae}{m:Option aa}{d:Array<|Option ae}{name b:Str}{params:Arguments}{g kV doc h:ae}{i:Option aa}{c j:ae}(W:Wd P w K mg base G (ql G) (rE G)<|oJ G)(T:rB K G)(lk:K.lookup (G.ad "answers")=B [l,m,.func<|fnOf name b params (gY<|top 294) (eZ<|top 294) g kV doc h i c j,d])(e:codeIn K c b=Y):gW P w K mg base (jq P w) 24 (G.ad "answers") (fnOf name b params (gY<|top 294) (eZ<|top 294) g kV doc h i c j) #["calls"] (Bz G):=abb (abt (k:=22) lk e (Eu T wF.2).sc (λE=>PD wF.1 E ()) λX E a=>D8 W T (Oh W T 11) wF.2 a) agu ((Hg wF.2 G).trans (sy ..).symm)
end
abbrev Kr(w:bj)(h:a8):Prop:=∀b o,(H9 w.params).get? b=B o->h.get? b=B o
def ac_(a:Params):nsIn (K9 a) mainGlobals "answers"=B (B<|.ref<|gH "answers"):=by kernel_rfl
theorem Zn:WalkOS q0 lB (λ_ _=>True) Kr r0 d0 [] λf vs=>PySem.call f vs:=by{
show L2.alI (r:=r0) (k:=24) (K:=K9) (CX:=λw=>jq Pg w) (ps:=#["calls"]) (sp:=λw=>Bz<|G9 w.params) Ws @y_ () [(),by decide,by decide] (λw h i a o e=>i a o<|YB w.params a o e) ?F ?S ?C;case F=>intro w J E h i P N j;let j:J "answers"=B (.ref E):=j;let e:=j.symm.trans<|mg_of P N<|ac_ w.params;let e:E=gH "answers":=(by injection e with e;injection e);subst e;let T:=alh w.params;let u:(((G9 w.params).ad "answers",top 294,qs.N,qs.N.take qs.n):aa×Stmt×List Str×List Str)∈j_ (G9 w.params):=c4.mpr [qs,wF.2,()];let[oc,od,Q,name,m,doc,W,an,x,ct,lk]:=L3<|K3 w.params _ u;let y:=D4 w.params;unfold wC at y;rw[a6,a6]at y;let G:=cq.mp y.2 _ u;rw[a6]at G;let hd2:codeB (K9 w.params) (gH "answers")=Y:=G.2;unfold codeB at hd2;rw[show(K9 w.params).lookup (gH "answers")=_ from lk]at hd2;show [_,λs us hu=>?_,λI X N=>ag_ (wd9 w X N) T lk hd2];let[a,b,c,d,e,f,g,rfl]:=P2 hu @d_;let this:=xr (KD<|G9 w.params) _ u;show .of_eq (aad (λz=>z name m (gY<|top 294) (eZ<|top 294) doc W an x ct a b c d e f g) this)
case S=>intro w H xs a hO A t hx;cases hx with|cons h1 h2=>cases h2;cases h1 with|lst hs ha=>let e:=L2.ME a.1 _ ha;subst e;let q:((Codec.inLen 0 30000 a.1&&a.1.all (Codec.inInt 0 4294967295))&&Y)=Y:=A;rw[a6,a6]at q;let hl:=(Codec.inNat_iff.mp q.1.1).2;let hk:=ac7 (tk9 w.params) (M:=λ_=>Z) (l:=a.1) hl t;show hk _ H H (.cons [_,_,(),hs,?_] .nil) [ba.refl H,λ_ _ h=>by cases h] _ _ λv F' H' g pv=>?_;{let:=tV (F:=H)<|a.1.map V.int;rwa[cD]at this};let[p,vs,rfl,hp,pa]:=pv;cases all_map pa;show .lst (L2.bE.of<|g.wf.fh _ _ hp) (L2.Lz _)
case C=>rintro w H s e s' ⟨_,_,_,_,_,_,_,_,_,h⟩;show h}
def amg:r0.Holds:=
 holds_os (r:=r0) (q:=q0) (loose:=lB) (Xt:=λ_=>Y) (XP:=λ_ _=>True) (Yf:=λs=>s.heap) (Ya:=λw=>H9 w.params) (YP:=Kr) (d:=d0) (kwd:=[]) (N:=20000)
  afl (λw s e b o h=>e▸h) (λw h c x k b o q=>k b o<|x b o q) (λ_ _=>trivial) (λ_ _ _ _ _=>trivial) aaz akR kw0 (λs _=>recFacts_of (R:=[]) (s:=s) ()) (λa h=>os_shapes a h) Ws ok0 Y8 [#[.list []],alT,lay0] Zn
end Hd
theorem PySem.Challenge.cw_lanecode_s01_answers_holds : PySem.Challenge.rw_lanecode_s01_answers.Holds :=
  Hd.amg
