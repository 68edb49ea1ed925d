import PyProof.Rows.All
import Wide.All
import OpenK.AllK
import Wide.FinOn
import PyProof.EqAt
import PyProof.EqKinds
import PyProof.TupleCall
import KE.BitLaws
import Open.SpecLaws
import KE.OsHead
import KE.OsGo
import KE.IntBitsLaws
import Open.Pieces
import PySem.Challenge.RW_quadnumbers_s01_answers
set_option Elab.async false
set_option linter.all false
set_option maxRecDepth 100000
set_option maxHeartbeats 0
set_option tactic.hygienic false
set_option compiler.extract_closed false
set_option bootstrap.genMatcherCode false
set_option backward.match.sparseCases false
noncomputable section
open Array renaming append_assoc->AFI,length_toList->oW,mem_toList_iff->AFO,toList->VM
open Bool renaming and_comm->cI,and_eq_false_iff->Vh,and_eq_true->BK,and_eq_true_iff->bG,and_false->ai,and_true->B8,decide_or->qK,eq_iff_iff->Hn,false_and->RG,false_eq_true->Jh,false_ne_true->F0,false_or->Im,noConfusion->E9,not_eq_false'->AF2,not_eq_true'->pQ,not_true->p6,or_eq_false_iff->Gv,or_eq_true->Hr,or_false->o3,true_and->GU
open Char renaming toNat->b9
open Classical renaming byContradiction->SX
open Decidable renaming byContradiction->RU
open False renaming elim->Dp
open ForInStep renaming yield->ax
open Int renaming eq_ofNat_of_zero_le->bh,fdiv_eq_ediv_of_nonneg->AFN,le_refl->Vn,le_total->Vv,lt_or_le->Gx,lt_trichotomy->RR,natAbs_natCast->Ht,natCast_add->M8,natCast_ediv->Ji,natCast_emod->qC,natCast_mul->Fl,natCast_nonneg->CI,natCast_pow->Gu,natCast_sub->Ve,one_mul->Hq,toNat->CK,toNat_natCast->Am,toNat_of_nonneg->FA,zero_add->bw
open List renaming all_cons->AGk,all_eq_false->AF3,all_eq_true->GS,all_takeWhile->AGO,any_cons->Jf,any_map->o8,append_assoc->Jp,append_nil->VS,cons_append->ay,contains_iff_mem->AGT,dropWhile_cons->Ln,drop_drop->HJ,drop_eq_getElem_cons->qJ,drop_left->qT,drop_of_length_le->AGL,drop_succ_cons->AF4,drop_take->qO,drop_zero->Rl,extract_eq_drop_take->cD,extract_toArray->WA,filterMap_cons->RE,find?_cons->RN,findSome?_eq_some_iff->AGA,forIn_cons->o9,forIn_nil->VZ,getD_eq_getElem?_getD->AFY,getElem?_append_left->VV,getElem?_append_right->VU,getElem?_drop->bf,getElem?_eq_getElem->FY,getElem?_eq_none->ao,getElem?_eq_some_iff->Fi,getElem?_map->De,getElem?_reverse->AF7,getElem?_set_ne->VL,getElem?_set_self->My,getElem?_zip_eq_some->qI,length->Ik,length_append->CD,length_cons->BU,length_drop->D1,length_eq_zero_iff->V5,length_map->A5,length_nil->Cu,length_replicate->ow,length_reverse->Rb,length_set->ae,length_singleton->AFW,length_take->DV,lookup->M0,lookup_cons->Jg,map_append->Jm,map_congr_left->bA,map_cons->Fj,map_eq_nil_iff->qS,map_inj_left->AFx,map_map->Ir,map_nil->RL,map_reverse->AGJ,map_take->qG,mem_append->Hm,mem_append_left->aV,mem_append_right->Li,mem_cons->DL,mem_cons_of_mem->Dn,mem_cons_self->Eb,mem_filterMap->oZ,mem_map->au,mem_of_getElem?->FV,mem_range->RD,mem_reverse->bM,mem_singleton->AGP,nil_append->Vi,nodup_cons->VT,not_mem_nil->Vj,of_mem_zip->ou,range'->qN,range'_append_1->AGB,range'_succ->AGC,range->Hl,range_eq_range'->b8,replicate->RJ,replicate_succ'->AGE,reverse_append->qQ,reverse_reverse->pq,reverse_singleton->AGF,set_set->RV,singleton_append->AGG,size_toArray->D2,sum_cons->bj,takeWhile_append_dropWhile->Ow,takeWhile_cons->M4,take_left->cB,take_length->Ip,take_of_length_le->Il,take_succ->M9,take_succ_cons->Jn,take_zero->Ls,toList_toArray->AFg,zipIdx_cons->AFn,zip_cons_cons->bO,zip_nil_right->AFw
open List.cons renaming injEq->AGN
open Nat renaming add_assoc->V1,add_mul->D3,add_mul_div_left->bQ,add_mul_mod_self_left->bS,add_sub_cancel->Kf,add_sub_cancel_left->Rh,add_zero->Iq,and_two_pow_sub_one_eq_mod->AFk,div_add_mod->Gy,div_div_eq_div_mul->RT,div_eq_of_lt->FW,div_le_self->qD,div_lt_iff_lt_mul->E_,div_mul_le_self->AF9,div_one->bT,div_pos->qM,eq_of_mul_eq_mul_left->AF0,eq_of_mul_eq_mul_right->AGH,eq_zero_or_pos->Dq,le_add_right->Ll,le_div_iff_mul_le->DN,le_mul_of_pos_left->Rg,le_of_ble_eq_true->GX,le_of_eq->Om,le_of_lt->KZ,le_of_mul_le_mul_right->p9,le_of_succ_le->ak,le_refl->BO,le_trans->A9,log2_lt->Jj,lt_irrefl->Hk,lt_mul_of_div_lt->AF_,lt_of_le_of_lt->Cb,lt_of_lt_of_le->Bs,lt_or_ge->DW,lt_succ_of_lt->o_,lt_succ_self->VQ,lt_trans->Io,lt_trichotomy->HG,min_eq_left->Ou,min_le_right->oy,mod_eq_of_lt->M5,mod_lt->Dg,mod_one->qA,mul_add->RS,mul_add_div->Vp,mul_assoc->A6,mul_comm->Ar,mul_div_cancel->V7,mul_div_mul_left->AF1,mul_eq_zero->Vl,mul_le_mul->RX,mul_le_mul_left->NA,mul_le_mul_right->B2,mul_left_comm->Hs,mul_lt_mul_left->AFz,mul_lt_mul_of_lt_of_le->AF5,mul_lt_mul_of_pos_right->Lq,mul_lt_mul_right->Gw,mul_mod_left->V8,mul_one->Cc,mul_pos->BN,mul_right_comm->V6,mul_zero->Vm,ne_of_gt->Ol,ne_of_lt->Fh,one_mul->B1,one_pos->Iy,pow_add->Ap,pow_le_pow_left->Ri,pow_le_pow_right->pj,pow_lt_pow_right->AFy,pow_mul->Jq,pow_one->V2,pow_pos->Iw,pow_succ->CQ,pow_zero->B7,repr->b_,sub_mul->Lo,sub_self->V9,sub_zero->Vk,succ_le_succ->M7,succ_mul->FZ,testBit_or->bo,testBit_two_pow->qE,toDigits_of_base_le->AF8,toDigits_of_lt_base->qL,two_pow_pos->BR,zero_add->Jl,zero_le->DM,zero_mod->bU,zero_mul->Jk
open Option renaming getD_none->o5,isNone_iff_eq_none->AFv,isSome_iff_exists->aZ,isSome_some->AFZ,map_none->AGD,map_some->Ka,none->bC
open Option.some renaming inj->BQ,injEq->Rc
open Prod.mk renaming inj->bP,injEq->Ke
open PyFlat renaming call->V3,calls->Hv,played->Ro,row->bY,rows->Iv,told->Rp
open PyProof renaming noPylong_small->az
open PyProof.Rows renaming callWith_type1->aa,subscriptTail_builtinR->AFT
open PySem renaming Within->oS,call_meets->VY,call_meetsIn->pE,codeAny_handlers_suite->AFt,codeAny_handlers_test->AFr,codeAny_mono->RI,fromIndex->NG,intBits_le_iff->Vd,intText?->pL,meets_dict_get_default->AFa,mem_of_lookup->Gs,pushCells_keeps->aj,seqIndex_neg->oz,typeIs_str->RK,wpAny_Call_Name_kw->Oo,wpAny_bind->A4,wpAny_callSpecial?_slot->pU,wpAny_call_entry->pV,wpAny_execs_nil->VN,wpAny_field->Kc,wpAny_holding->oX,wpAny_ite_true->bN,wpAny_letOwnedTupleGo_zip->AFe,wpAny_mono->GO,wpAny_onRaise->pX,wpAny_passesOwn->Oj,wpAny_pure->DD,wpAny_pyIter_list->oY,wpAny_pyIter_zip->a_,wpAny_seqItems->RQ,wpAny_setField_rec->Vg,wpAny_truthy_bool->RF
open PySem.Around renaming under->oo
open PySem.Builtin renaming bitAnd->D0,bitNot->RH,bitOr->Lj,bitXor->Mz,divisionGoesByPylong->HF
open PySem.Builtin.Int renaming intBits->pN
open PySem.Builtin.List renaming listTooLong->o7
open PySem.Builtin.Range renaming rangeSize->AFd
open PySem.Builtin.SmallTypes renaming nextOf->Vf,ownedTupleHandOut->AFo,ownedTupleIsFree->bI
open PySem.Builtin.Str renaming occurrences->oa,strSliceIndices->Lm,strSub->AGR,subAt->M1
open PySem.Calls renaming Name_function_global->AFJ,callWith_builtin->ag,evalArgs_plain->o6,spliced_cons->VR,spliced_nil->ot
open PySem.Code renaming isFrame->oq
open PySem.Data renaming seq->bH
open PySem.F renaming args_dict_get_3->pI,args_object_init_3->AFp,entry_dict_get->pH,excBase_ValueError->AF6,plainAttrs_dict->AFb,plainAttrs_int->Vq,plainAttrs_list->bZ,plainAttrs_str->I0,slot_dict_get->Va,slot_int_bit_length->Vr,slot_list_append->ah,slot_list_extend->AFX,slot_str_partition->pJ,slot_str_rstrip->pf,slot_str_startswith->M3,slot_tuple_iterator_next->AFl,slot_zip_next->bJ,type_dict_get->AFc,type_int_bit_length->Vs,type_list_append->qH,type_str_partition->AGS,type_str_rstrip->AGM,type_str_startswith->Ox
open PySem.Heap renaming FlyingW->pT,SameBut->VJ,get?_push_of_some->Ca,get?_push_size->Er,get?_update_other->AFV,get?_update_self->AFU,lt_size->B6,size_push->F1
open PySem.NameKind renaming cell->pA,free->RM
open PySem.NumText renaming sign->bL,step->bK
open PySem.Obj renaming data_mapFields->AFm,mapSeq->VX
open PySem.PassesOwn renaming never->Gz
open PySem.PyData renaming keyHash->oR
open PySem.Shared renaming heap->pY
open PySem.Str renaming empty->aS,ofString->RP
open PySem.StrLaws renaming occ_head->AGQ,sliceText->RO
open PySem.Txt renaming partition->Kb,rstripChars->pZ,startswith->pK
open PySem.Value renaming bool->RC,int->aT,none->RB,ref->DC,str->RA,type->Oi
open PySem.Value.type renaming inj->AFj
open PySem.W renaming Frag->Aj,Looks->AFu,WRecords->AFh,boot_heap->Oz,callWith_K->aY,callWith_K0->AFR,cellsFrom_some->AFS,codeIn->VW,emptyDict->Lk,excIn->pP,exmOne->AFq,findIn->Ho,fnOf->ox,handedIn->AFP,hasDictIn->aX,hideAll->oU,hideAll_get->aU,instObj->Mx,isFn->VP,keepIn->Ij,ktu_apart->AFf,length_le_weightAllW->AFi,lookIn->aW,makesIn->om,methodObj->oT,of_hideAll->oV,piece_app->Lz,plainGet->VO,plainGet_of->og,plainOver->oh,segRun_of->L0,takerIn->oj
open PySem.W.Codec renaming app->qY,denoteAll->pM,encAll->Vb
open PySem.W.Fast renaming te14364793385576792824->qX
open PySem.W.WData renaming int->bD,weightAll->bF
open PyWrquad renaming answers->qW,answers_asked->qV,shape->Fm,whole->JA
open Qu renaming EXT->Hu,Text->Rj,UNIT2->bq,ascii->GW,beyond->Vt,bitsIn->V4,carried->Hw,compareOf->Vz,convert->Ds,decimal->Cq,digitCount->NF,digitOf->Lv,expoOf->F2,exponentText->qR,fclass->Ra,fma->Lr,fmax->RZ,fmin->RY,fracOf->Lp,fusedOf->bX,hexDigit->cC,hexDigits->Lu,highest->HK,inf->HI,invalid->Oq,isNan->BH,isqrt->NC,kParts->cA,leadSign->BW,lowBits->Ov,lowest->Jo,magnitude->qB,nans->M_,nearer->Kj,negOf->Bt,nextDown->qF,nextOf->Vx,nextUp->Kh,num->AU,numExt->V0,opposite->bV,rankOf->DI,ratio->F3,read->Rn,remainder->Kg,round->Es,signText->Iz,signals->Dr,signed->Cv,signedOf->Dt,split->Vy,sqrt->Vu,tenExponent->Rk,times->GV,toIntegral->Vw,trimmed->Rm,turned->Ot,twos->Dh,whole->Ed,widthOf->Cp,zero->FX
open Qu.Acc renaming empty->Et,term->b7
open Qu.Fmt renaming bias->p7,infinity->M6,signBit->p_,unit->Vo
open Qu.Num renaming inf->RW,nan->Ec
open String renaming toList_ofList->AGI
open Sum renaming inl->Mw,inr->Oh
open True renaming intro->Dd
open UInt8 renaming ofNat->Ki,toNat_inj->AGK,toNat_ofNat_of_lt->qP
open Wrquad renaming Answer->cF,REACH->qU,formatOf->ND,isMode->Kl,more->I_,no->cG,only->Km,opOf->bW,quad->NB,step->Lw,tell->Ce,tells->WB
open WrquadNeutral renaming asked1->EF,big->Lx,callOf->cH,natural->Kk,start->Ly,step->Be,told->Hx,whole32->FC
def AD:=@if_neg
def AG:=@if_pos
def Au:=@of_decide_eq_true
def BA:=@of_decide_eq_false
def Bh:=@decide_eq_false
def Bi:=@decide_eq_true
def Bw:=@decide_eq_true_eq
def Cd:=@decide_eq_decide
def E8:=@if_true
def GP:=@beq_iff_eq
def GQ:=@if_false
def Iu:=@decide_eq_false_iff_not
def KY:=@beq_eq_false_iff_ne
def Oy:=@and_true
def Vc:=@beq_self_eq_true
def V_:=@decide_eq_true_iff
section
namespace L2
open PySem PySem.Spec PyProof.Rows
noncomputable def FD(s:Stmt)(j:Nat):Stmt:=match s with
 |.ClassDef _ _ _ body _ _ _ _ _ _ _=>body.getD j (.Pass ⟨0,0,0,0⟩)
 |_=>.Pass ⟨0,0,0,0⟩
noncomputable def NH(s:Stmt):Arguments:=match s with
 |.FunctionDef _ a _ _ _ _ _ _ _ _=>a
 |_=>{posonlyargs:=[],args:=[],vararg:=none,kwonlyargs:=[],kw_defaults:=[],kwarg:=none,defaults:=[]}
noncomputable def L3(s:Stmt):List Stmt:=match s with
 |.FunctionDef _ _ b _ _ _ _ _ _ _=>b
 |_=>[]
noncomputable def Cw(s:Stmt):Scope:=match s with
 |.FunctionDef _ _ _ _ _ _ sc _ _ _=>sc
 |_=>{kind:=.function,names:=[],isGenerator:=false,isCoroutine:=false}
noncomputable def P:Program:=PySem.Challenge.pw_quadnumbers_s01_answers
end L2
namespace Hd
open PySem PySem.W L2
abbrev pr:Program:=PySem.Challenge.pw_quadnumbers_s01_answers
noncomputable def tab:List (Nat×Nat):=[(15,187),(15,189),(16,192),(16,194),(16,196),(16,198),(16,200),(16,202),(37,237),(44,244),(51,251),(58,260),(65,269),(72,282),(79,290),(79,292),(79,294),(79,296),(79,298),(79,300),(79,302),(79,304),(79,306),(79,308),(79,310),(79,312),(86,323),(93,337),(100,346),(107,354),(114,366),(121,374),(128,382),(135,389),(142,399),(149,411),(156,427),(163,436),(163,438),(163,440),(163,442),(163,444),(170,451),(177,458),(184,465),(191,472),(198,479),(205,485),(212,492),(217,498),(222,504),(229,511),(236,519),(236,521),(236,523),(236,525),(243,533),(250,542),(257,551),(264,562),(271,570),(278,579),(285,588),(292,601),(299,611),(306,623),(313,632),(320,645),(327,659),(327,661),(332,670),(332,672),(333,677),(340,685),(347,695),(354,703),(361,711),(368,720),(375,730),(375,732),(405,854),(410,868),(420,906),(441,939),(448,951),(453,957),(460,967),(467,976),(474,983),(474,985),(481,992),(488,999),(495,1010),(502,1019),(509,1028),(516,1036),(523,1047),(530,1055),(537,1063),(544,1072),(544,1074),(544,1076),(544,1078),(551,1087),(551,1089),(551,1091),(551,1093),(556,1099),(563,1109),(570,1120),(577,1128),(584,1139),(591,1146),(598,1155),(605,1168),(612,1181),(619,1192),(626,1201),(626,1203),(633,1212),(640,1225),(647,1236),(654,1246),(661,1258),(668,1265),(675,1274),(682,1284),(682,1286),(682,1289),(682,1291),(682,1293),(682,1295),(682,1297),(682,1299),(682,1301),(682,1303),(682,1305),(695,1323),(716,1356),(723,1362),(730,1369),(737,1376),(744,1386),(751,1394),(758,1402),(765,1411),(772,1421),(779,1433),(786,1446),(821,1491),(821,1493),(828,1500),(835,1507),(842,1514),(849,1521),(856,1530),(863,1540),(870,1547),(877,1555),(884,1567),(884,1569),(884,1571),(884,1573),(884,1575),(884,1578),(889,1584),(896,1591),(903,1599),(910,1607),(917,1620),(924,1629),(931,1641),(938,1652),(945,1670),(952,1682),(959,1694),(966,1703),(973,1714),(973,1716),(986,1734),(993,1741),(1000,1748),(1007,1755),(1014,1762),(1021,1769),(1028,1776),(1035,1783),(1042,1790),(1049,1797),(1056,1804),(1063,1811),(1070,1818),(1077,1825),(1084,1832),(1091,1839),(1098,1846),(1105,1853),(1112,1860),(1119,1867),(1126,1875),(1133,1883),(1140,1891),(1147,1899),(1154,1907),(1161,1915),(1168,1923),(1175,1931),(1182,1939),(1184,1978),(1185,1987),(1186,1998),(1193,2007),(1200,2016),(1207,2027)]
abbrev it(n:Int):Value:=.int n 0
abbrev rf(a:Nat):Value:=.ref a
abbrev fl:Str:="/claim/cut.py"
noncomputable def tup(l:List Value):Obj:=⟨.type "tuple",none,.seq ⟨l⟩ 0, #[]⟩
noncomputable def fld(l:List Value):Obj:=⟨.none,none,.fields ⟨l⟩, #[]⟩
noncomputable def WC:List Str->Nat->List Value
 | [],_=>[]
 |x::r,t=>.str x t::WC r (t+1)
noncomputable def qZ:NameKind->Bool
 |.local=>true
 |_=>false
noncomputable def Rq(s:Stmt):List Str:=((Cw s).names.filter fun x=>qZ x.2).map (·.1)
noncomputable def code(x q:Str)(ln n fg:Int)(a t k:Nat)(b:Bool)(v1 v2 v3:Value):Obj:=
 ⟨.type "code",none,.fields ⟨[.str x t,.str q (t+1),.str fl (t+2),it ln,it n,it 0,it 0,it fg,rf a,.bool b,it 181,rf (a+1),.none,v1,v2,v3,it ((t+3+k:Nat):Int),it ln,.str fl (t+4+k)]⟩, #[]⟩
noncomputable def O0(x q:Str)(s:Stmt)(g:Nat)(md cd:Value):FuncData:={name:=x,qualname:=q,params:=NH s,body:=.stmts (L3 s),scope:=Cw s,globals:=g,closure:=[],defaults:=.none,kwdefaults:=.none,pyModule:=md,code:=cd}
noncomputable def cJ(x q:Str)(s:Stmt)(ln:Int)(a t:Nat)(md:Value):List Obj:=
 let n:Int:=(NH s).args.length
 match(Cw s).more with
 | []=>[tup [],fld [],tup (WC (Rq s) (t+3)),tup [],⟨.none,none,.func (O0 x q s 0 .none .none), #[]⟩,code x q ln n 3 a t (Rq s).length true (rf (a+2)) (rf (a+3)) (rf (a+4)),⟨.type "function",none,.func (O0 x q s 3 md (rf (a+5))), #[]⟩]
 |_=>[tup [],fld [],⟨.none,none,.func (O0 x q s 0 .none .none), #[]⟩,code x q ln n 3 a t 0 true .none .none (rf (a+2)),⟨.type "function",none,.func (O0 x q s 3 md (rf (a+3))), #[]⟩]
noncomputable def EG(P:Params)(x:Str)(t:Nat)(v:Value):DictEntry:=⟨oR P x,.str x t,v⟩
noncomputable def Hy(l:List DictEntry)(n:Nat):Obj:=⟨.type "dict",none,.dict ⟨l⟩ n, #[]⟩
noncomputable def cK(x:String)(v:Value):Obj:=⟨.type "builtin_function_or_method",none,.fields #[.builtin x,v], #[]⟩
noncomputable def cM(x:Str)(t a:Nat)(u v:Value):Obj:=⟨.type "getset_descriptor",none,.fields #[.str x t,rf a,u,v], #[]⟩
noncomputable def NI(P:Params)(x:Str)(ln:Int)(a t:Nat)(md:Value)(M:List Obj)(E:List DictEntry)(C:List Value)(sa:List Str)(exc:Bool):List Obj:=
 let m:=M.length
 let u:=t+12+(match E.getLast? with |some ⟨_,.str _ k,_⟩=>k+1-(t+12)|_=>0)+sa.length
 let c:=a+9+m
 let e1:List DictEntry:=[EG P "__module__" (t+7) md]
 let e2:List DictEntry:=[EG P "__firstlineno__" (t+11) (.int ln (t+10))]++E++[EG P "__static_attributes__" u (rf (a+7+m))]
 let e0:=e1++[EG P "__qualname__" (t+9) (.str x (t+8))]++e2
 let w:=cM "__weakref__" (u+(if exc then 1 else 3)) c (.builtin "ExceptionGroup.__weakref__") .none
 [tup (if exc then [.type "ValueError"]else []),cK "type.__prepare__" (.type "type"),Hy e0 e0.length,tup [],fld C,code x x ln 0 0 (a+3) (t+2) 0 false .none .none .none,
  ⟨.type "frame",none,.plain, #[some (rf (a+5)),some (rf 3),some (rf (a+2)),none,some md,none,some (rf 0)]⟩]++M++
 [tup (WC sa (u-sa.length)),Hy (e1++e2++(if exc then [EG P "__weakref__" (u+2) (rf (c+1)),EG P "__doc__" (u+3) .none]else [EG P "__dict__" (u+2) (rf (c+1)),EG P "__weakref__" (u+4) (rf (c+2)),EG P "__doc__" (u+5) .none])) (if exc then 3 else 4),
  ⟨.type "type",none,.cls {name:=x,bases:=[.type (if exc then"ValueError"else"object")],mro:=rf c::(if exc then [.type "ValueError",.type "Exception",.type "BaseException",.type "object"]else [.type "object"]),ns:=a+8+m,qualname:=x},
   #[if exc then some (rf a)else none,none,some (.str x t),some (.str x (t+8)),some (.builtin (if exc then"ValueError.__new__"else"object.__new__")),some (.bool true)]⟩]++
 (if exc then [w]else [cM "__dict__" (u+1) c (.builtin "function.__dict__") (.builtin "function.__dict__#set"),w])++[⟨.type "super",none,.fields #[rf c,rf c,rf c], #[]⟩,cK "object.__init_subclass__" (rf c)]
noncomputable def ps(s:Stmt):Pos:=match s with
 |.FunctionDef _ _ _ _ _ _ _ _ _ q=>q
 |.ClassDef _ _ _ _ _ _ _ _ _ _ q=>q
 |.Assign (.Name _ q::_) _ _=>q
 |_=>⟨0,0,0,0⟩
noncomputable def nm(s:Stmt):Str:=match s with
 |.FunctionDef x _ _ _ _ _ _ _ _ _=>x
 |.ClassDef x _ _ _ _ _ _ _ _ _ _=>x
 |.Assign (.Name x _::_) _ _=>x
 |_=>aS
noncomputable def O1(P:Params)(x:Str)(md:Value):List (Str×Stmt)->Nat->Nat->List Obj×List DictEntry×List Value
 | [],_,_=>([],[],[])
 | (q,s)::r,a,t=>match O1 P x md r (a+7) (t+6+(Rq s).length)with
  | (M,E,C)=>(cJ (nm s) q s (ps s).line a t md++M,EG P (nm s) (t+5+(Rq s).length) (rf (a+6))::E,it (ps s).line::it 4::rf (a+5)::C)
noncomputable def cN(e:Expr)(t:Nat):Value:=match e with
 |.Constant (.int n) _ _=>.int n t
 |.Constant (.str x) _ _=>.str x t
 |.UnaryOp _ (.Constant (.int n) _ _) _=>.int (-n) t
 |_=>.none
noncomputable def WD(e:Expr):Nat:=match e with
 |.UnaryOp .. =>2
 |_=>1
noncomputable def Rr:List Expr->Nat->List Value
 | [],_=>[]
 |e::r,t=>cN e (t+WD e-1)::Rr r (t+WD e)
noncomputable def cO:List Expr->Nat
 | []=>0
 |e::r=>WD e+cO r
noncomputable def HL(e:Expr):List Expr:=match e with
 |.Tuple l _ _=>l
 |_=>[]
noncomputable def O2(P:Params)(x:Nat):List (Option Expr×Expr)->Nat->Nat->List DictEntry×List Obj
 | [],_,_=>([],[])
 | (k,v)::r,a,t=>match O2 P x r (a+1) (t+1+cO (HL v)+x)with
  | (E,O)=>((match k with
   |some (.Constant (.int n) _ _)=>⟨n,.int n t,rf a⟩
   |some (.Constant (.str y) _ _)=>EG P y t (rf a)
   |_=>default)::E,tup (Rr (HL v) (t+1))::O)
noncomputable def AS(s:Stmt):List (Option Expr×Expr):=match s with
 |.Assign _ (.Dict k v _) _=>k.zip v
 |_=>[]
noncomputable def val(s:Stmt):Expr:=match s with
 |.Assign _ e _=>e
 |_=>.Tuple [] 0 ⟨0,0,0,0⟩
noncomputable def NJ:Nat->Nat->List Nat->Nat->List DictEntry
 |_,_,[],_=>[]
 |i,t,b::r,x=>⟨i,.int i t,rf b⟩::NJ (i+1) (t+1+x) r x
noncomputable def other(P:Params)(i:Nat)(s:Stmt)(a t:Nat)(md:Value):List Obj:=
 match i with
 |1=>[tup (Rr (HL (val s)) t)]
 |69=>[tup [.int 5 661,.int 10 662],tup [.int 8 663,.int 23 664],tup [.int 11 665,.int 52 666],tup [.int 15 667,.int 63 668],tup [rf 327,rf 328,rf 329,rf 330]]
 |71=>[tup (Rr (HL (val s)) t)]
 |79=>match O2 P 1 ((AS s).take 17) 376 732,O2 P 0 ((AS s).drop 17) 394 812 with
  | (E,O),(F,Q)=>Hy (E++F) 28::O++Hy F 11::Q
 |80=>match O2 P 0 (AS s) 406 854 with
  | (E,O)=>Hy E 4::O
 |81=>match O2 P 0 (AS s) 411 868 with
  | (E,O)=>Hy E 9::O
 |207=>[Hy (NJ 0 1939 [992,999,1006,1013,1020,1027,1034,1041,1048,1055,1062,1069,1076,1083,1090,1097,1104] 1++NJ 17 1973 [1111,1118] 0) 19,Hy (NJ 17 1973 [1111,1118] 0) 2]
 |208=>[Hy (NJ 19 1978 [1125,1132,1139,1146] 0) 4]
 |209=>[Hy (NJ 23 1987 [1153,1160,1167,1174,1181] 0) 5]
 |7=>match O1 P "Parts" md [("Parts.__init__",FD s 0)] 23 214 with
  | (M,E,C)=>NI P "Parts" 8 a t md M E C ["kind","power","sign","size"] false
 |82=>match O1 P "Call" md [("Call.__init__",FD s 0)] 427 918 with
  | (M,E,C)=>NI P "Call" 261 a t md M E C ["number","numbers","rows"] false
 |137=>match O1 P "Sum" md [("Sum.__init__",FD s 0)] 702 1335 with
  | (M,E,C)=>NI P "Sum" 489 a t md M E C ["seen","terms","total"] false
 |148=>match O1 P "Accumulators" md [("Accumulators.__init__",FD s 0),("Accumulators.empty",FD s 1),("Accumulators.put",FD s 2)] 793 1458 with
  | (M,E,C)=>NI P "Accumulators" 558 a t md M E C ["sums"] false
 |136=>NI P "TooMany" 487 a t md [] [] [] [] true
 |178=>NI P "Refused" 682 a t md [] [] [] [] true
 |_=>[]
noncomputable def at_(i:Nat)(s:Stmt)(a t:Nat):Value:=
 match s with
 |.FunctionDef _ _ _ _ _ _ sc _ _ _=>(match sc.more with | []=>rf (a+6)|_=>rf (a+4))
 |.ClassDef .. =>(match i with |136=>rf (a+9)|178=>rf (a+9)|148=>rf (a+30)|_=>rf (a+16))
 |.Assign _ (.Tuple ..) _=>(match i with |69=>rf 331|_=>rf a)
 |.Assign _ (.Dict ..) _=>rf a
 |.Assign _ e _=>cN e (t-2)
 |_=>.none
noncomputable def cell(s:Stmt)(a:Nat):List Value:=
 match s with
 |.FunctionDef _ _ _ _ _ _ sc _ _ q=>[it q.line,it 0,(match sc.more with | []=>rf (a+5)|_=>rf (a+3))]
 |.ClassDef _ _ _ _ _ _ _ _ _ _ q=>[it q.line,it 0,rf (a+5)]
 |_=>[]
noncomputable def nu:List Nat:=[0,14,37,52,68,78,88,99,103,117,126,149,159,177]
noncomputable def go(P:Params):Nat->List Stmt->List (Nat×Nat)->Value->List Obj
 |i,s::r,(a,t)::q,md=>(match s with
  |.FunctionDef x _ _ _ _ _ _ _ _ p=>cJ x x s p.line a t md++go P (i+1) r q md
  |.Assign _ (.Constant (.str y) _ _) _=>go P (i+1) r q (bif nu.contains i then .str y t else md)
  |_=>other P i s a t md++go P (i+1) r q md)
 |_,_,_,_=>[]
noncomputable def names(P:Params):Nat->List Stmt->List (Nat×Nat)->List DictEntry
 |i,s::r,(a,_)::(b,t)::q=>bif nu.contains i then names P (i+1) r ((b,t)::q)else EG P (nm s) (t-1) (at_ i s a t)::names P (i+1) r ((b,t)::q)
 |_,_,_=>[]
noncomputable def cells:List Stmt->List (Nat×Nat)->List Value
 |s::r,(a,_)::q=>cell s a++cells r q
 |_,_=>[]
noncomputable def nameAt:Nat->List Stmt->List (Nat×Nat)->Value->Value
 |i,s::r,(_,t)::q,md=>(match s with
  |.Assign _ (.Constant (.str y) _ _) _=>nameAt (i+1) r q (bif nu.contains i then .str y t else md)
  |_=>nameAt (i+1) r q md)
 |_,_,_,md=>md
noncomputable def mid(k:Nat)(P:Params):Obj:=
 let b:=pr.main.body.take k
 let e:=names P 0 b tab
 Hy (EG P "__name__" 165 (nameAt 0 b tab (.str "__main__" 164))::EG P "__doc__" 166 .none::EG P "__package__" 167 .none::EG P "__loader__" 168 (.builtin "__main__.__loader__#opaque")::EG P "__spec__" 169 .none::EG P "__annotations__" 170 (rf 6)::
  EG P "__builtins__" 171 (rf 4)::EG P "__file__" 173 (.str fl 172)::EG P "__cached__" 174 .none::e) (e.length+9)
noncomputable def hi(k:Nat)(P:Params):List Obj:=
 let b:=pr.main.body.take k
 [tup [],fld (cells b tab),code "<module>" "<module>" 1 0 0 11 182 0 false .none .none .none,
  ⟨.type "frame",none,.plain, #[some (rf 13),some (rf 3),some (rf 3),none,some (.str "__main__" 164),none,some (rf 0)]⟩]++go P 0 b tab .none
noncomputable def objs(k:Nat)(P:Params):List Obj:=
 [boot_o_0 P,boot_o_1 P,boot_o_2 P,mid k P,boot_o_4 P,boot_o_5 P,boot_o_6 P,boot_o_7 P,boot_o_8 P,boot_o_9 P,boot_o_10 P]++hi k P
noncomputable def sl(k m:Nat):List Stmt:=(pr.main.body.drop k).take m
noncomputable def O3:Nat->List Obj->Frag
 |i,o::r=>(i,o)::O3 (i+1) r
 |_,[]=>[]
def KK(P:Params):Frag:=O3 0 (objs 213 P)
noncomputable def qr:Program:={pr with main:={pr.main with body:=sl 212 1}}
noncomputable def loose:List Str:=(pr.main.body.take 212).map nm
noncomputable def dr:DefRec:=match pr.main.body.getD 212 (.Pass ⟨0,0,0,0⟩)with
 |.FunctionDef x a b _ _ _ sc _ _ p=>⟨x,a,b,sc,p⟩
 |_=>⟨aS,{posonlyargs:=[],args:=[],vararg:=none,kwonlyargs:=[],kw_defaults:=[],kwarg:=none,defaults:=[]},[],{kind:=.function,names:=[],isGenerator:=false,isCoroutine:=false},⟨0,0,0,0⟩⟩
noncomputable def Bd(w:World):Prop:=WalkOS qr loose (fun _ _=>True) (fun v h=>(KK v.params).In h/\v=w) PySem.Challenge.rw_quadnumbers_s01_answers dr [] fun f vs=>PySem.call f vs
instance:Nonempty World:=⟨aWorld 0⟩
end Hd
namespace L2
open PySem PySem.Spec PyProof.Rows
noncomputable def w:World:=Classical.epsilon fun v=> ¬Hd.Bd v
def K:Aj:=Hd.KK w.params
noncomputable def mg(x:Str):Option Value:=(PySem.W.nsIn K 3 x).getD none
end L2
end
namespace Hd
open PySem PySem.W
abbrev rr:OpenSpec:=PySem.Challenge.rw_quadnumbers_s01_answers
theorem s1:(sreFenced rr.prog.main&&((moduleNames rr.prog.main.body).isEmpty||lookedIntoSs (moduleNames rr.prog.main.body) rr.prog.main.body))=true:=by decide+kernel
theorem s2:namesResolve rr.prog=true:=by decide+kernel
theorem s3:rr.prog.boundNames.all (fun n=> !worldNames.contains n)=true:=by decide+kernel
theorem s4:noRoadLSs {strict:= !(importedModules rr.prog.main.body).all cThrough.contains,foot:=none,bare:=(["vars","dir","locals"]:List Str).filter (readsOut rr.prog rr.prog.main.body)} rr.prog.main.body=true:=by decide+kernel
theorem s5:(namesMeet rr.prog rr.prog.main.body fun _ n=>attrL n)=true:=by decide+kernel
theorem s6:(rr.prog.boundNames.contains rr.name&& !startupNames.contains rr.name&&specDef rr.prog rr.name rr.args.length&&rr.args.all Codec.fits&&rr.ret.ok)=true:=by decide+kernel
theorem Rw:rr.wellSaid=true:=by
 have h6:=s6;simp only [BK]at h6;unfold OpenSpec.wellSaid looksOpen;rw [s1,s2,s3,s4,s5,h6.1.1.1.1,h6.1.1.1.2,h6.1.1.2,h6.1.2,h6.2];rfl
theorem R9:rr.prog.bare:=⟨rfl,rfl,rfl,rfl,rfl,by decide+kernel⟩
end Hd
namespace L2
open PySem PySem.Spec PyProof.Rows
abbrev A8:=Sum Int Str
noncomputable def NK:A8->Value->Bool
 |.inl k,v=>Value.isInt k v
 |.inr x,v=>Value.isStrOf x v
noncomputable def qa(w:World):A8->Int
 |.inl k=>hashInt k
 |.inr x=>hashStr w x
theorem Jr: ∀{k:A8}{v:Value},NK k v=true->(∃i t,k=Mw i/\v=aT i t)\/(∃x t,k=Oh x/\v=RA x t)
 |.inl i,v,h=>by
  obtain⟨t,e⟩:=Value.isInt_shape (k:=i) (v:=v) h;exact .inl ⟨i,t,rfl,e⟩
 |.inr x,v,h=>by
  obtain⟨t,e⟩:=Value.isStrOf_shape (x:=x) (v:=v) h;exact .inr ⟨x,t,rfl,e⟩
theorem qc(i:Int)(t:Tok):NK (.inl i) (.int i t)=true:=by simp [NK,Value.isInt]
theorem qf(x:Str)(t:Tok):NK (.inr x) (.str x t)=true:=by simp [NK,Value.isStrOf]
theorem qg(a b:Int):decide ((Mw a:A8)=Mw b)=(a==b):=by
 by_cases e:a=b
 ·subst e;simp
 ·have h: ¬(Mw a:A8)=Mw b:=fun q=>e (Sum.inl.inj q)
  rw [Bh h];exact(KY.mpr e).symm
theorem qh(a b:Str):decide ((Oh a:A8)=Oh b)=decide (a=b):=by
 by_cases e:a=b
 ·subst e;simp
 ·have h: ¬(Oh a:A8)=Oh b:=fun q=>e (Sum.inr.inj q)
  rw [Bh h,Bh e]
theorem qi(a:Int)(b:Str):decide ((Mw a:A8)=Oh b)=false:=Bh (fun q=>nomatch q)
theorem qj(a:Str)(b:Int):decide ((Oh a:A8)=Mw b)=false:=Bh (fun q=>nomatch q)
noncomputable def Di(prog:Program)(w:World):PySem.KeyKind prog w A8 where
 is:=NK
 hash:=qa w
 inj:=fun v a b ha hb=>by
  rcases Jr ha with⟨i,t,rfl,rfl⟩|⟨x,t,rfl,rfl⟩
  ·rcases Jr hb with⟨j,u,rfl,e⟩|⟨y,u,rfl,e⟩
   ·injection e with e1 _;rw [e1]
   ·exact nomatch e
  ·rcases Jr hb with⟨j,u,rfl,e⟩|⟨y,u,rfl,e⟩
   ·exact nomatch e
   ·injection e with e1 _;rw [e1]
 byValue:=fun k v h=>by
  rcases Jr h with⟨i,t,rfl,rfl⟩|⟨x,t,rfl,rfl⟩<;>rfl
 pyHash:=fun hv h=>by
  rcases Jr hv with⟨i,t,rfl,rfl⟩|⟨x,t,rfl,rfl⟩
  ·exact wpAny_pyHash_int h
  ·exact wpAny_pyHash_str h
 eqBool:=fun hu hv h=>by
  rcases Jr hu with⟨i,t,rfl,rfl⟩|⟨x,t,rfl,rfl⟩
  ·rcases Jr hv with⟨j,u,rfl,rfl⟩|⟨y,u,rfl,rfl⟩
   ·rw [qg]at h;exact wpAny_eqBool_int h
   ·rw [qi]at h;exact SeqAt.EqAt.int_str i t y u _ _ _ _ h
  ·rcases Jr hv with⟨j,u,rfl,rfl⟩|⟨y,u,rfl,rfl⟩
   ·rw [qj]at h;exact SeqAt.EqAt.str_int x t j u _ _ _ _ h
   ·rw [qh]at h;exact wpAny_eqBool_str h
 «strs» :=fun k x t v h=>by
  rcases Jr h with⟨i,u,rfl,e⟩|⟨y,u,rfl,e⟩
  ·exact nomatch e
  ·injection e with e1 _
   subst e1;cases v<;>rfl
theorem WE(prog:Program)(w:World)(i:Int)(t:Tok):(Di prog w).is (.inl i) (.int i t)=true:=qc i t
theorem WG(prog:Program)(w:World)(x:Str)(t:Tok):(Di prog w).is (.inr x) (.str x t)=true:=qf x t
end L2
namespace L2
open PySem PySem.Spec PyProof.Rows
inductive V where
 |BZ|bl(b:Bool)|int(i:Int)|str(x:Str)|E5(b:Array UInt8)|flt(b:UInt64)|ref(a:Addr)|ty(n:String)
 deriving DecidableEq
def RelV:V->Value->Prop
 |.BZ,u=>u=RB
 |.bl b,u=>u=RC b
 |.int i,u=> ∃t,u=aT i t
 |.str x,u=> ∃t,u=RA x t
 |.E5 b,u=> ∃t,u=Value.bytes b t
 |.flt b,u=> ∃t,u=Value.float b t
 |.ref a,u=>u=DC a
 |.ty n,u=>u=Oi n
abbrev BM:List V->List Value->Prop:=Paired RelV
theorem BM.length(r:BM xs us):xs.length=us.length:=Paired.length r
theorem BM.get: ∀{xs:List V}{us:List Value}{i:Nat}{x:V},BM xs us->xs[i]? =some x-> ∃u,us[i]? =some u/\RelV x u
 |_,_,_,_,.nil,e=>by simp at e
 |_,_,0,_,.cons r _,e=>by simp at e;subst e;exact⟨_,rfl,r⟩
 |_,_,i+1,x,.cons _ t,e=>by
  obtain⟨u,h1,h2⟩:=BM.get (i:=i) (x:=x) t (by simpa using e);exact⟨u,by simpa using h1,h2⟩
theorem BM.set(r:RelV x u): ∀{xs:List V}{us:List Value}(i:Nat),BM xs us->BM (xs.set i x) (us.set i u)
 |_,_,_,.nil=>.nil
 |_,_,0,.cons _ t=>.cons r t
 |_,_,i+1,.cons q t=>.cons q (BM.set r i t)
theorem BM.append: ∀{xs ys:List V}{us ws:List Value},BM xs us->BM ys ws->BM (xs++ys) (us++ws)
 |_,_,_,_,.nil,s=>s
 |_,_,_,_,.cons r t,s=>.cons r (BM.append t s)
theorem BM.take: ∀{xs:List V}{us:List Value}(n:Nat),BM xs us->BM (xs.take n) (us.take n)
 |_,_,0,_=>.nil
 |_,_,_+1,.nil=>.nil
 |_,_,n+1,.cons r t=>.cons r (BM.take n t)
theorem BM.drop: ∀{xs:List V}{us:List Value}(n:Nat),BM xs us->BM (xs.drop n) (us.drop n)
 |_,_,0,r=>r
 |_,_,_+1,.nil=>.nil
 |_,_,n+1,.cons _ t=>BM.drop n t
def JB:Option V->Option Value->Prop
 |some v,some u=>RelV v u
 |none,none=>True
 |_,_=>False
def KV{κ:Type}:List (κ×V)->List (κ×Value)->Prop:=Paired fun (p:κ×V) (q:κ×Value)=>p.1=q.1/\RelV p.2 q.2
noncomputable def kV:A8->V
 |.inl i=>.int i
 |.inr x=>.str x
inductive HO where
 |lst(xs:List V)
 |tup(xs:List V)
 |dK(AS:List (A8×V))|dT(AS:List (List A8×V))
 |set(S:Int->Bool)(n:Nat)
 |ins(C dx:Addr)(fs:List (Str×V))
 |own(x:Addr)
 |xd(fs:List (Str×V))
 |met(f x:Addr)
 |ZE(lo hi:Int)
 |EZ(o:Obj)(u:HO)
 |KO(ps:Array Value)
 |ext(φ:Heap->Prop)
abbrev Hp:=Addr->Option HO
noncomputable def upd(H:Hp)(a:Addr)(o:HO):Hp:=fun b=>if b=a then some o else H b
theorem AZ:upd H a o a=some o:=by unfold upd;rw [AG rfl]
theorem BC(h:b≠a):upd H a o b=H b:=by unfold upd;rw [AD h]
theorem qk{H:Hp}{a b:Addr}{o u:HO}(h:H a=some o)(h':H b=some u)(d:o≠u):a≠b:=by
 intro e;subst e;rw [h]at h';exact d (BQ h')
theorem D4{H:Hp}{a b:Addr}{o:HO}(h:H a=some o)(h':H b=none):a≠b:=by
 intro e;subst e;rw [h]at h';cases h'
section
variable(P:Program)(w:World)
def Du(H:Hp)(h:Heap)(a:Addr):HO->Prop
 |.lst xs=>xs.length<=sizeLine/\ ∃(AV:List Value)(n:Nat),BM xs AV/\h.get? a=some {cls:=.type "list",data:=.seq AV.toArray n}
 |.tup xs=>xs.length<=sizeLine/\ ∃AV:List Value,BM xs AV/\IsTup h a AV.toArray
 |.dK AS=>AS.length<=sizeLine/\(a==sysModules)=false/\ ∃vs,KV AS vs/\h.DictOf (Di P w) a vs
 |.dT AS=>AS.length<=sizeLine/\(a==sysModules)=false/\ ∃xs:List (List A8×Addr×Value),
  Paired (fun (p:List A8×V) (q:List A8×Addr×Value)=>p.1=q.1/\H q.2.1=some (.tup (p.1.map kV))/\RelV p.2 q.2.2) AS xs/\
  ∃o es ep,h.get? a=some o/\o.ExactDict/\o.data=.dict es ep/\es.toList=xs.map (entryOfKey (tupleKind (Di P w)))/\(xs.map (·.1)).Nodup
 |.set S n=>h.SetOf (intKind P w) a S n
 |.ins C dx fs=>H dx=some (.own a)/\fs.length<=1000/\dx≠a/\h.get? a=some (Mx C dx)/\
  ∃mA,h.Ns1 dx mA/\(∀f,JB (fs.lookup f) (mA f))/\oS mA (fs.map (·.1))
 |.own _=> ∃o,h.get? a=some o
 |.xd fs=> ∃mA,h.Ns1 a mA/\ ∀f,JB (fs.lookup f) (mA f)
 |.ZE lo hi=> ∃t u v,h.get? a=some {cls:=.type "range",data:=.fields #[.int lo t,.int hi u,.int 1 v]}
 |.EZ o u=>h.get? a=some o/\Du H h a u
 |.KO ps=>h.get? a=some {cls:=.none,data:=.fields ps}
 |.met f x=>h.get? a=some (oT (.ref f) (.ref x))
 |.ext φ=>φ h/\(∃o,h.get? a=some o)/\ ∀h1 h2:Heap,φ h1->(∀o,h1.get? a=some o->h2.get? a=some o)->φ h2
def Cr(H:Hp)(h:Heap):Prop:= ∀a o,H a=some o->Du P w H h a o
end
section
variable{P:Program}{w:World}{H H':Hp}{h h':Heap}{a:Addr}{o:HO}
theorem Du.lt(x:Du P w H h a o):a<h.objs.size:=by
 cases o with
 |lst xs=>obtain⟨_,_,_,_,e⟩:=x;exact B6 e
 |tup xs=>obtain⟨_,_,_,p⟩:=x;exact p.lt
 |dK AS=>obtain⟨_,_,_,_,o,_,_,e,_⟩:=x;exact B6 e
 |dT AS=>obtain⟨_,_,_,_,o,_,_,e,_⟩:=x;exact B6 e
 |set S n=>obtain⟨o,_,_,_,e,_⟩:=x;exact B6 e
 |ins C dx fs=>obtain⟨_,_,_,e,_⟩:=x;exact B6 e
 |own y=>obtain⟨_,e⟩:=x;exact B6 e
 |xd fs=>obtain⟨_,⟨_,_,_,e,_⟩,_⟩:=x;exact B6 e
 |ZE lo hi=>obtain⟨_,_,_,e⟩:=x;exact B6 e
 |EZ ob u=>obtain⟨e,_⟩:=x;exact B6 e
 |KO ps=>exact B6 (show h.get? a=some _ from x)
 |met f y=>exact B6 (show h.get? a=some _ from x)
 |ext φ=>obtain⟨_,⟨_,e⟩,_⟩:=x;exact B6 e
theorem Y_: ∀{l7:List α}{l9:List β},Paired F l7 l9->(∀a b,F a b->G a b)->Paired G l7 l9
 |_,_,.nil,_=>.nil
 |_,_,.cons r t,f=>.cons (f _ _ r) (Y_ t f)
theorem Du.LP(x:Du P w H h a o)(k: ∀b u,(b=a\/H b=some (.own a))->h.get? b=some u->h'.get? b=some u)
 (ho: ∀b,H b=some (.own a)->H' b=some (.own a))(ht: ∀b xs,H b=some (.tup xs)->H' b=some (.tup xs)):Du P w H' h' a o:=by
 induction o with
 |lst xs=>obtain⟨z,AV,n,r,e⟩:=x;exact⟨z,AV,n,r,k _ _ (.inl rfl) e⟩
 |tup xs=>obtain⟨z,AV,r,ob,e,c⟩:=x;exact⟨z,AV,r,ob,k _ _ (.inl rfl) e,c⟩
 |dK AS=>obtain⟨z,y,vs,r,ob,es,ep,e,c⟩:=x;exact⟨z,y,vs,r,ob,es,ep,k _ _ (.inl rfl) e,c⟩
 |dT AS=>
  obtain⟨z,y,xs,r,ob,es,ep,e,c⟩:=x;exact⟨z,y,xs,Y_ r fun p q z=>⟨z.1,ht _ _ z.2.1,z.2.2⟩,ob,es,ep,k _ _ (.inl rfl) e,c⟩
 |set S n=>obtain⟨ob,es,ep,t,e,c⟩:=x;exact⟨ob,es,ep,t,k _ _ (.inl rfl) e,c⟩
 |ins C dx fs=>
  obtain⟨d,z,ne,e,mA,⟨od,es,ep,e2,c⟩,r⟩:=x;exact⟨ho _ d,z,ne,k _ _ (.inl rfl) e,mA,⟨od,es,ep,k _ _ (.inr d) e2,c⟩,r⟩
 |own y=>obtain⟨ob,e⟩:=x;exact⟨ob,k _ _ (.inl rfl) e⟩
 |xd fs=>obtain⟨mA,⟨od,es,ep,e,c⟩,r⟩:=x;exact⟨mA,⟨od,es,ep,k _ _ (.inl rfl) e,c⟩,r⟩
 |ZE lo hi=>obtain⟨t,u,v,e⟩:=x;exact⟨t,u,v,k _ _ (.inl rfl) e⟩
 |EZ ob u ih=>obtain⟨e,q⟩:=x;exact⟨k _ _ (.inl rfl) e,ih q⟩
 |KO ps=>
  have e:h.get? a=some {cls:=.none,data:=.fields ps}:=x;show h'.get? a=some {cls:=.none,data:=.fields ps};exact k a _ (.inl rfl) e
 |met f y=>
  have e:h.get? a=some (oT (.ref f) (.ref y)):=x;show h'.get? a=some (oT (.ref f) (.ref y));exact k a _ (.inl rfl) e
 |ext φ=>obtain⟨p,⟨o,e⟩,st⟩:=x;exact⟨st _ _ p fun o q=>k _ _ (.inl rfl) q,⟨o,k _ _ (.inl rfl) e⟩,st⟩
theorem Cr.lt(x:Cr P w H h)(e:H a=some o):a<h.objs.size:=(x a o e).lt
theorem Cr.fresh(x:Cr P w H h)(e:h.objs.size<=a):H a=none:=by
 cases q:H a with
 |none=>rfl
 |some u=>exact absurd (Bs (x.lt q) e) (Hk _)
theorem Cr.kept(x:Cr P w H h)(k: ∀b u,h.get? b=some u->h'.get? b=some u):Cr P w H h':=fun a o e=>
 (x a o e).LP (fun b u _ q=>k b u q) (fun _ q=>q) fun _ _ q=>q
theorem Cr.laid(x:Cr P w H h)(k: ∀b u,h.get? b=some u->h'.get? b=some u)(hp:h.objs.size<=a)(new:Du P w (upd H a o) h' a o):Cr P w (upd H a o) h':=fun b u e=>by
 have hn:=x.fresh hp;by_cases hb:b=a
 ·subst hb;rw [AZ]at e;cases e;exact new
 ·rw [BC hb]at e;exact(x b u e).LP (fun c v _ q=>k c v q) (fun c q=>by rw [BC (D4 q hn)];exact q) fun c xs q=>by rw [BC (D4 q hn)];exact q
end
def Rd(H:Hp)(a:Addr)(u:HO):Prop:=H a=some u\/ ∃o,H a=some (.EZ o u)
theorem Rd.ok{P:Program}{w:World}(r:Rd H a u)(x:Cr P w H h):Du P w H h a u:=by
 rcases r with r|⟨o,r⟩
 ·exact x a u r
 ·obtain⟨_,q⟩:=x a _ r;exact q
def O4:Option HO->Prop
 |some (.lst _)=>True
 |some (.dK _)=>True
 |some (.dT _)=>True
 |some (.set _ _)=>True
 |some (.ins _ _ _)=>True
 |some (.ext _)=>True
 |_=>False
section
variable{P:Program}{w:World}{H:Hp}{h h':Heap}{x e:Addr}{o':HO}
theorem Cr.write(ok:Cr P w H h)(mu:O4 (H x))(he:e=x\/H e=some (.own x))(k: ∀b u,b≠e->h.get? b=some u->h'.get? b=some u)(OI: ∃u,h'.get? e=some u)
 (new:Du P w (upd H x o') h' x o'):Cr P w (upd H x o') h':=fun b u q=>by
 have l_: ∀c y,H c=some (.own y)->c≠x:=fun c y r z=>by subst z;rw [r]at mu;exact mu
 have AEa: ∀c xs,H c=some (.tup xs)->c≠x:=fun c xs r z=>by subst z;rw [r]at mu;exact mu
 by_cases hb:b=x
 ·subst hb;rw [AZ]at q;cases q;exact new
 ·rw [BC hb]at q;by_cases LQ:b=e
  ·have q':H b=some (.own x):=by
    rcases he with z|z
    ·exact absurd (LQ.trans z) hb
    ·rw [LQ];exact z
   rw [q]at q';cases q';obtain⟨v,hv⟩:=OI;exact⟨v,by rw [LQ];exact hv⟩
  ·refine(ok b u q).LP (fun c v hc r=>k c v ?_ r) (fun c r=>by rw [BC (l_ c b r)];exact r) fun c xs r=>by rw [BC (AEa c xs r)];exact r
   rcases hc with rfl|hc
   ·exact LQ
   ·rintro rfl;rcases he with z|z
    ·exact l_ c b hc z
    ·rw [hc]at z;cases z;exact hb rfl
end
structure Un(fs ex:List Addr)(H H':Hp)(h h':Heap):Prop where
 keep: ∀b o,h.get? b=some o->H b=none->b∉fs->b∉ex->h'.get? b=some o
 slot: ∀b o,h.get? b=some o->H b=none->b∈fs->b∉ex-> ∃sl,h'.get? b=some {o with slots:=sl}
 free: ∀b o,h.get? b=some o->H b=none->b∉ex->H' b=none
 there: ∀b o,h.get? b=some o->b∉ex-> ∃o',h'.get? b=some o'
 Gq: ∀b xs,H b=some (.tup xs)->H' b=some (.tup xs)
 GF: ∀b o u,H b=some (.EZ o u)->H' b=some (.EZ o u)
 Gr: ∀b ps,H b=some (.KO ps)-> ∃more,H' b=some (.KO (ps++more))
section
variable{fs fs' ex ex':List Addr}{H H1 H2:Hp}{h h1 h2 h':Heap}{a x e:Addr}{o:HO}
theorem Un.any(u:Un fs ex H H1 h h1)(q:h.get? b=some ob)(n:H b=none)(hx:b∉ex): ∃sl,h1.get? b=some {ob with slots:=sl}:=by
 by_cases hb:b∈fs
 ·exact u.slot b ob q n hb hx
 ·exact⟨ob.slots,u.keep b ob q n hb hx⟩
theorem Un.kept(k: ∀b u,h.get? b=some u->h'.get? b=some u):Un fs ex H H h h':=
 ⟨fun b ob q _ _ _=>k b ob q,fun b ob q _ _ _=>⟨ob.slots,k b ob q⟩,fun _ _ _ n _=>n,fun b ob q _=>⟨ob,k b ob q⟩,fun _ _ q=>q,fun _ _ _ q=>q,fun _ ps q=>⟨#[],by rw [q];simp⟩⟩
theorem AEQ:Un fs ex H H h h:=Un.kept fun _ _ q=>q
theorem Un.laid(k: ∀b u,h.get? b=some u->h'.get? b=some u)(hp:h.objs.size<=a)(hn:H a=none):Un fs ex H (upd H a o) h h' where
 keep:=fun b u q _ _ _=>k b u q
 slot:=fun b u q _ _ _=>⟨u.slots,k b u q⟩
 free:=fun b u q n _=>by rw [BC (Fh (Bs (B6 q) hp))];exact n
 there:=fun b u q _=>⟨u,k b u q⟩
 Gq:=fun b xs q=>by rw [BC (D4 q hn)];exact q
 GF:=fun b u xs q=>by rw [BC (D4 q hn)];exact q
 Gr:=fun b ps q=>⟨#[],by rw [BC (D4 q hn),q];simp⟩
theorem Un.write(mu:O4 (H x))(he:e=x\/H e=some (.own x))(k: ∀b u,b≠e->h.get? b=some u->h'.get? b=some u)(OI: ∃u,h'.get? e=some u):Un fs ex H (upd H x o) h h':=by
 have hx: ∀b,H b=none->b≠x:=fun b n z=>by subst z;rw [n]at mu;exact mu
 have hb: ∀b,H b=none->b≠e:=fun b n z=>by
  subst z;rcases he with r|r
  ·exact hx b n r
  ·rw [n]at r;cases r
 have hm: ∀b u,H b=some u-> ¬O4 (some u)->b≠x:=fun b u q nm z=>by subst z;rw [q]at mu;exact nm mu
 refine⟨fun b u q n _ _=>k b u (hb b n) q,fun b u q n _ _=>⟨u.slots,k b u (hb b n) q⟩,fun b u q n _=>by rw [BC (hx b n)];exact n,fun b u q _=>?_,
  fun b xs q=>by rw [BC (hm b _ q fun z=>z)];exact q,fun b u xs q=>by rw [BC (hm b _ q fun z=>z)];exact q,fun b ps q=>⟨#[],by rw [BC (hm b _ q fun z=>z),q];simp⟩⟩
 by_cases LQ:b=e
 ·subst LQ;exact OI
 ·exact⟨u,k b u LQ q⟩
end
noncomputable def Rt(h:Heap)(H:Hp):List Addr:=(Hl h.objs.size).filter fun a=>(H a).isSome
def Js(h:Heap)(H:Hp):Heap:=oU h (Rt h H)
theorem ql(h:Heap)(H:Hp):(Js h H).objs.size=h.objs.size:=PySem.W.hideAll_size _ _
theorem qm(e:h.get? b=some o)(n:H b=none):(Js h H).get? b=some o:=
 aU _ e fun hm=>by
  have q:(H b).isSome=true:=(List.mem_filter.mp hm).2;rw [n]at q;simp at q
theorem qo(e:(Js h H).get? b=some o):h.get? b=some o/\H b=none:=by
 have e':h.get? b=some o:=oV (Rt h H) e;refine⟨e',?_⟩;cases q:H b with
 |none=>rfl
 |some x=>
  have hm:b∈Rt h H:=List.mem_filter.mpr ⟨RD.mpr (B6 e'),by simp [q]⟩;have z:(Js h H).get? b=none:=PySem.W.hideAll_none (Rt h H) hm;rw [z]at e;cases e
noncomputable def qp(g h:Heap)(L:Addr):List (Addr×Obj):=(Hl h.objs.size).filterMap fun a=>if a=L\/(g.get? a).isSome=true then none else(h.get? a).map fun o=>(a,o)
noncomputable def rest(g h:Heap)(L d:Addr):List (Addr×Obj):=(qp g h L).filter fun p=>decide (p.1≠d)
end L2
namespace L2
open PySem PySem.Spec PyProof.Rows
structure Mod(K:Aj)(mg:Str->Option Value)(base:Heap):Prop where
 kin:K.In base
 glob:base.Ns mainGlobals mg
 blt: ∃mb,base.Ns builtinsNs mb/\ ∀x:Str,x≠"__name__"->mb x=bootBuiltins x
 nolimit:base.NoLimit
 nodigits:base.NoDigits
structure Cx where
 base:Heap
 A:Around
 N:List Str
 EA:Shared
 H_0:Hp
 env:Env
 outer:List Env
 stack:List Env
 ex:List Addr
 fn:Str->Bool
 calm:Bool
 pn:List (Addr×Obj)
 xe:Value->Shared->Prop
noncomputable def DO(l:List Env):List Addr:=l.filterMap (·.frame)
abbrev Cx.fs(X:Cx):List Addr:=DO X.outer
def Kn(sc:Scope)(x:Str):Prop:=sc.names.lookup x=some .local\/sc.names.lookup x=some .cell\/sc.names.lookup x=some .free
def Loc(sc:Scope)(x:Str):Prop:=sc.names.lookup x=some .local\/sc.names.lookup x=some .cell
def Look(env:Env)(h:Heap)(m:Str->Option Value)(x:Str)(u:Value):Prop:=
 (env.kindOf x=some .local/\m x=some u)\/((env.kindOf x=some .cell\/env.kindOf x=some .free)/\ ∃c,env.cells.lookup x=some c/\h.IsCell c (some u))
structure Cx.Ok(X:Cx):Prop where
 mod:Mod L2.K L2.mg X.base
 kind:X.env.scope.kind=.function
 glob:X.env.globals=mainGlobals
 blt:X.env.builtins=builtinsNs
 above:X.EA.heap.objs.size<=X.env.locals
 inj: ∀x y c,X.env.cells.lookup x=some c->X.env.cells.lookup y=some c->x=y
 has: ∀x,(X.env.kindOf x=some .cell\/X.env.kindOf x=some .free)-> ∃c,X.env.cells.lookup x=some c
 LR: ∀x c,X.fn x=true->X.env.cells.lookup x=some c->X.EA.heap.objs.size<=c
 hd:X.calm=true->X.A.handled=none
 frames:X.A.frames=some X.stack
 Mj:X.stack=X.outer\/(X.stack=X.env::X.outer/\X.env.frame=some X.env.locals)
 Ml: ∀b∈X.ex,b≠X.env.locals/\ ∀x c,X.env.cells.lookup x=some c->c≠b
 bs: ∀b o,X.base.get? b=some o->X.EA.heap.get? b=some o/\X.H_0 b=none
 HB:X.base.objs.size<=X.EA.heap.objs.size
 LS: ∀b o,X.base.get? b=some o->b∉X.ex
 LU: ∀b∈X.ex,b∉X.fs
 GG:X.EA.heap.FunFrames X.base X.outer
 IZ: ∀b∈X.fs,X.H_0 b=none
structure Inv(X:Cx)(pins:List (Addr×Obj))(σ:List (Option V))(H:Hp)(s:Shared):Prop where
 ok:X.Ok
 os:s.os=X.EA.os
 bare:AllBare s.gens
 base:Un X.fs X.ex X.H_0 H X.EA.heap s.heap
 loc: ∃m,s.heap.Ns X.env.locals m/\ ∀(i:Nat)(x:Str)(v:V),X.N[i]? =some x->σ[i]? =some (some v)->Kn X.env.scope x-> ∃u,RelV v u/\Look X.env s.heap m x u
 cell: ∀x c,X.env.cells.lookup x=some c-> ∃v,s.heap.IsCell c v
 free:H X.env.locals=none
 GH: ∀x c,X.env.cells.lookup x=some c->H c=none
 pin: ∀p∈X.pn++pins,s.heap.get? p.1=some p.2/\H p.1=none/\p.1≠X.env.locals/\p.1∉X.fs/\ ∀v,p.2.data≠ .cell v
 Af:Cr L2.P L2.w H s.heap
 len:σ.length=X.N.length
section
variable{X:Cx}{pins:List (Addr×Obj)}{σ:List (Option V)}{H H':Hp}{s:Shared}{h':Heap}
theorem Cx.Ok.AEb(ok:X.Ok)(e:X.base.get? b=some o):b∉X.fs:=fun hb=>by
 have :=(ok.GG.mem hb).1;rw [e]at this;cases this
theorem Inv.bs(I:Inv X pins σ H s): ∀b o,X.base.get? b=some o->s.heap.get? b=some o/\H b=none:=fun b o e=>
 ⟨I.base.keep b o (I.ok.bs b o e).1 (I.ok.bs b o e).2 (I.ok.AEb e) (I.ok.LS b o e),I.base.free b o (I.ok.bs b o e).1 (I.ok.bs b o e).2 (I.ok.LS b o e)⟩
theorem Inv.bk(I:Inv X pins σ H s): ∀b o,X.base.get? b=some o->s.heap.get? b=some o:=fun b o e=>(I.bs b o e).1
theorem Inv.mod(I:Inv X pins σ H s):Mod L2.K L2.mg X.base:=I.ok.mod
theorem Inv.Ea(I:Inv X pins σ H s):L2.K.In s.heap:=I.ok.mod.kin.keeps I.bk
theorem Inv.nodigits(I:Inv X pins σ H s):s.heap.NoDigits:=I.ok.mod.nodigits.keeps I.bk
theorem AGZ(I:Inv X pins σ H s): ∃m,Fr X.base X.env.locals s.heap m:=
 let⟨m,hn,_⟩:=I.loc
 ⟨m,hn,I.bk,A9 I.ok.HB I.ok.above⟩
theorem Inv.lt(I:Inv X pins σ H s):X.env.locals<s.heap.objs.size:=let⟨_,hn,_⟩:=I.loc;hn.lt
theorem Inv.sz(I:Inv X pins σ H s):X.EA.heap.objs.size<=s.heap.objs.size:=A9 I.ok.above (KZ I.lt)
theorem Inv.AEc(I:Inv X pins σ H s)(h:s.heap.objs.size<=a):a∉X.fs:=fun hb=>by
 obtain⟨_,o,ho,_⟩:=I.ok.GG.mem hb;exact absurd (Bs (B6 ho) (A9 I.sz h)) (Hk _)
theorem Inv.Mm(I:Inv X pins σ H s): ∀x c,X.env.cells.lookup x=some c->c≠X.env.locals:=fun x c e z=>by
 obtain⟨v,o,ho,hd⟩:=I.cell x c e;obtain⟨m,⟨o',es,ep,JW,Qe,_⟩,_⟩:=I.loc;rw [z,JW]at ho;cases ho;rw [Qe]at hd;cases hd
theorem Inv.GG(I:Inv X pins σ H s):s.heap.FunFrames X.base X.outer:=by
 have all: ∀(l:List Env),(∀b∈DO l,b∈X.fs)->X.EA.heap.FunFrames X.base l->s.heap.FunFrames X.base l:=by
  intro l
  induction l with
  |nil=>intro _ _;trivial
  |cons env r ih=>
   intro hs hl;obtain⟨hk,⟨L,o,hf,hn,ho,hd⟩,hr⟩:=hl;have hL:L∈X.fs:=hs L (by unfold DO;rw [RE,hf];exact Eb);obtain⟨sl,e⟩:=I.base.slot L o ho (I.ok.IZ L hL) hL fun z=>I.ok.LU L z hL
   exact⟨hk,⟨L,_,hf,hn,e,hd⟩,ih (fun b hb=>hs b (by unfold DO;rw [RE,hf];exact Dn _ hb)) hr⟩
 exact all X.outer (fun _ hb=>hb) I.ok.GG
theorem Inv.stack(I:Inv X pins σ H s):s.heap.FunFrames X.base X.stack:=by
 rcases I.ok.Mj with e|⟨e,hf⟩
 ·rw [e];exact I.GG
 ·rw [e];obtain⟨m,hn,_⟩:=I.loc;refine .cons (by rw [I.ok.kind];decide) hf hn ?_ I.GG;exact Heap.get?_none_of_le (A9 I.ok.HB I.ok.above)
theorem Inv.Ui(I:Inv X pins σ H s): ∀b∈DO X.stack,b∈X.env.locals::X.fs:=fun b hb=>by
 rcases I.ok.Mj with e|⟨e,hf⟩
 ·rw [e]at hb;exact Dn _ hb
 ·rw [e]at hb;unfold DO at hb;rw [RE,hf]at hb;exact hb
theorem Inv.ZG(I:Inv X pins σ H s): ∀b∈DO X.stack,H b=none:=fun b hb=>by
 rcases DL.mp (I.Ui b hb)with e|hb
 ·rw [e];exact I.free
 ·obtain⟨_,o,ho,_⟩:=I.ok.GG.mem hb;exact I.base.free b o ho (I.ok.IZ b hb) fun z=>I.ok.LU b z hb
theorem Inv.step{g':Array GenState}{t':Nat}{d':Drawn}{ch:List Addr}(I:Inv X pins σ H s)
 (JX: ∀b∈ch,(b∈X.ex\/X.EA.heap.objs.size<=b)/\b≠X.env.locals/\(∀x c,X.env.cells.lookup x=some c->c≠b)/\ ∀p∈X.pn++pins,p.1≠b)
 (keep: ∀b o,b≠X.env.locals->b∉X.fs->b∉ch->s.heap.get? b=some o->H b=none->h'.get? b=some o)
 (slot: ∀b o,b≠X.env.locals->b∈X.fs->b∉ch->s.heap.get? b=some o->H b=none-> ∃sl,h'.get? b=some {o with slots:=sl})(free: ∀b o,b∉ch->s.heap.get? b=some o->H b=none->H' b=none)
 (there: ∀b o,b∉ch->s.heap.get? b=some o-> ∃o',h'.get? b=some o')
 (Gq: ∀b xs,H b=some (.tup xs)->H' b=some (.tup xs))(GF: ∀b o u,H b=some (.EZ o u)->H' b=some (.EZ o u))(Gr: ∀b ps,H b=some (.KO ps)-> ∃more,H' b=some (.KO (ps++more)))
 (ns: ∀m,s.heap.Ns X.env.locals m->h'.Ns X.env.locals m)(Af:Cr L2.P L2.w H' h')(hg:AllBare g'):
 Inv X pins σ H' {s with heap:=h',gens:=g',drawn:=d',toks:=t'}:=by
 have mB: ∀b o,X.EA.heap.get? b=some o->b≠X.env.locals:=fun b o e=>Fh (Bs (B6 e) I.ok.above)
 have Uj: ∀b o,X.EA.heap.get? b=some o->b∉X.ex->b∉ch:=fun b o e hx hb=>by
  rcases(JX b hb).1 with z|z
  ·exact hx z
  ·exact absurd (Bs (B6 e) z) (Hk _)
 have cellK: ∀x c,X.env.cells.lookup x=some c-> ∀v,s.heap.IsCell c v->h'.IsCell c v:=fun x c e v ⟨o,ho,hd⟩=>by
  have Qg:c∉ch:=fun z=>(JX c z).2.2.1 x c e rfl
  by_cases hc:c∈X.fs
  ·obtain⟨sl,q⟩:=slot c o (I.Mm x c e) hc Qg ho (I.GH x c e);exact⟨_,q,hd⟩
  ·exact⟨o,keep c o (I.Mm x c e) hc Qg ho (I.GH x c e),hd⟩
 refine⟨I.ok,I.os,hg,⟨fun b o e n hb hx=>?_,fun b o e n hb hx=>?_,fun b o e n hx=>?_,fun b o e hx=>?_,fun b xs e=>Gq b xs (I.base.Gq b xs e),fun b o xs e=>GF b o xs (I.base.GF b o xs e),fun b ps e=>?_⟩,?_,fun x c e=>?_,?_,fun x c e=>?_,fun p hp=>?_,Af,I.len⟩
 ·exact keep b o (mB b o e) hb (Uj b o e hx) (I.base.keep b o e n hb hx) (I.base.free b o e n hx)
 ·obtain⟨sl,e1⟩:=I.base.slot b o e n hb hx;obtain⟨sl',e2⟩:=slot b _ (mB b o e) hb (Uj b o e hx) e1 (I.base.free b o e n hx);exact⟨sl',e2⟩
 ·obtain⟨o',e1⟩:=I.base.there b o e hx;exact free b o' (Uj b o e hx) e1 (I.base.free b o e n hx)
 ·obtain⟨o',e1⟩:=I.base.there b o e hx;exact there b o' (Uj b o e hx) e1
 ·obtain⟨m1,e1⟩:=I.base.Gr b ps e;obtain⟨m2,e2⟩:=Gr b _ e1;exact⟨m1++m2,by rw [e2,AFI]⟩
 ·obtain⟨m,hn,hl⟩:=I.loc;refine⟨m,ns m hn,fun i x v e1 e2 e3=>?_⟩;obtain⟨u,r,l⟩:=hl i x v e1 e2 e3;refine⟨u,r,?_⟩;rcases l with l|⟨k,c,e,z⟩
  ·exact .inl l
  ·exact .inr ⟨k,c,e,cellK x c e _ z⟩
 ·obtain⟨v,z⟩:=I.cell x c e;exact⟨v,cellK x c e v z⟩
 ·obtain⟨m,⟨o,_,_,ho,_⟩,_⟩:=I.loc;exact free _ o (fun z=>(JX _ z).2.1 rfl) ho I.free
 ·obtain⟨v,o,ho,hd⟩:=I.cell x c e;exact free c o (fun z=>(JX c z).2.2.1 x c e rfl) ho (I.GH x c e)
 ·obtain⟨e,n,ne,nf,d⟩:=I.pin p hp;have Qg:p.1∉ch:=fun z=>(JX p.1 z).2.2.2 p hp rfl
  exact⟨keep p.1 p.2 ne nf Qg e n,free p.1 p.2 Qg e n,ne,nf,d⟩
theorem Inv.un{t':Nat}(I:Inv X pins σ H s)(u:Un X.fs [] H H' s.heap h')(Af:Cr L2.P L2.w H' h'):Inv X pins σ H' {s with heap:=h',toks:=t'}:=by
 obtain⟨m,⟨o,es,ep,ho,r⟩,_⟩:=id I.loc;obtain⟨sl,hL⟩:=u.any ho I.free (by simp);exact I.step (g':=s.gens) (d':=s.drawn) (ch:=[]) (fun _ z=>nomatch z) (fun b o _ hb _ e n=>u.keep b o e n hb (by simp)) (fun b o _ hb _ e n=>u.slot b o e n hb (by simp)) (fun b o _ e n=>u.free b o e n (by simp)) (fun b o _ e=>u.there b o e (by simp)) u.Gq u.GF u.Gr (fun m' hm=>by
  obtain⟨o',Qh,ZH,JW,r'⟩:=hm;rw [ho]at JW;cases JW;exact⟨_,Qh,ZH,hL,r'⟩) Af I.bare
theorem Inv.call{g':Array GenState}{t':Nat}{d':Drawn}{ch:List Addr}(I:Inv X pins σ H s)(u:Un (DO X.stack) ch H H' s.heap h')(Af:Cr L2.P L2.w H' h')(hg:AllBare g')
 (JX: ∀b∈ch,(b∈X.ex\/X.EA.heap.objs.size<=b)/\b≠X.env.locals/\(∀x c,X.env.cells.lookup x=some c->c≠b)/\ ∀p∈X.pn++pins,p.1≠b):
 Inv X pins σ H' {s with heap:=h',gens:=g',drawn:=d',toks:=t'}:=by
 obtain⟨m,⟨o,es,ep,ho,r⟩,_⟩:=id I.loc;obtain⟨sl,hL⟩:=u.any ho I.free fun z=>(JX _ z).2.1 rfl
 exact I.step (ch:=ch) JX (fun b o hL hb hc e n=>u.keep b o e n (fun z=>(DL.mp (I.Ui b z)).elim hL hb) hc) (fun b o _ _ hc e n=>u.any e n hc) (fun b o hc e n=>u.free b o e n hc) (fun b o hc e=>u.there b o e hc) u.Gq u.GF u.Gr (fun m' hm=>by
  obtain⟨o',Qh,ZH,JW,r'⟩:=hm;rw [ho]at JW;cases JW;exact⟨_,Qh,ZH,hL,r'⟩) Af hg
theorem Inv.turned{t':Nat}{it:Addr}(I:Inv X pins σ H s)(k: ∀b o,b≠it->s.heap.get? b=some o->h'.get? b=some o)(hn:H it=none)(hL:it≠X.env.locals)
 (h1:it∈X.ex\/X.EA.heap.objs.size<=it)(h2: ∀x c,X.env.cells.lookup x=some c->c≠it)(h3: ∀p∈X.pn++pins,p.1≠it):Inv X pins σ H {s with heap:=h',toks:=t'}:=by
 have LV: ∀b u,H b=some u->b≠it:=fun b u e z=>by rw [z,hn]at e;cases e
 refine I.step (g':=s.gens) (d':=s.drawn) (ch:=[it]) (fun b hb=>?_) (fun b o _ _ hc e _=>k b o (fun z=>hc (by simp [z])) e) (fun b o _ _ hc e _=>⟨o.slots,k b o (fun z=>hc (by simp [z])) e⟩) (fun _ _ _ _ n=>n)
  (fun b o hc e=>⟨o,k b o (fun z=>hc (by simp [z])) e⟩) (fun _ _ e=>e) (fun _ _ _ e=>e) (fun b ps e=>⟨#[],by rw [e];simp⟩) (fun m hm=>?_) (fun b u e=>?_) I.bare
 ·have e:b=it:=by simpa using hb
  subst e;exact⟨h1,hL,h2,h3⟩
 ·obtain⟨o,es,ep,ho,r⟩:=hm;exact⟨o,es,ep,k _ o (Ne.symm hL) ho,r⟩
 ·refine(I.Af b u e).LP (fun c v hc q=>k c v ?_ q) (fun _ q=>q) fun _ _ q=>q
  rcases hc with z|z
  ·rw [z];exact LV b u e
  ·exact LV c _ z
theorem Inv.tok(I:Inv X pins σ H s)(t:Nat):Inv X pins σ H {s with toks:=t}:=I.un (h':=s.heap) (t':=t) AEQ I.Af
theorem Inv.kept(I:Inv X pins σ H s)(k: ∀b u,s.heap.get? b=some u->h'.get? b=some u):Inv X pins σ H {s with heap:=h',toks:=t'}:=I.un (Un.kept k) (I.Af.kept k)
theorem Inv.laid(I:Inv X pins σ H s)(k: ∀b u,s.heap.get? b=some u->h'.get? b=some u)(hp:s.heap.objs.size<=a)(new:Du L2.P L2.w (upd H a o) h' a o):
 Inv X pins σ (upd H a o) {s with heap:=h',toks:=t'}:=I.un (Un.laid k hp (I.Af.fresh hp)) (I.Af.laid k hp new)
theorem Inv.write(I:Inv X pins σ H s)(mu:O4 (H x))(he:e=x\/H e=some (.own x))(k: ∀b u,b≠e->s.heap.get? b=some u->h'.get? b=some u)(OI: ∃u,h'.get? e=some u)
 (new:Du L2.P L2.w (upd H x o) h' x o):Inv X pins σ (upd H x o) {s with heap:=h',toks:=t'}:=I.un (Un.write mu he k OI) (I.Af.write mu he k OI new)
theorem Inv.weak(I:Inv X pins σ H s)(hl:Ak.length=σ.length)(w: ∀(i:Nat) v,Ak[i]? =some (some v)->σ[i]? =some (some v)):Inv X pins Ak H s:=
 ⟨I.ok,I.os,I.bare,I.base,let⟨m,hn,Mn⟩:=I.loc;⟨m,hn,fun i x v e1 e2 e3=>Mn i x v e1 (w i v e2) e3⟩,I.cell,I.free,I.GH,I.pin,I.Af,hl.trans I.len⟩
theorem Inv.mC(I:Inv X pins σ H s)(h: ∀p∈mE,s.heap.get? p.1=some p.2/\H p.1=none/\p.1≠X.env.locals/\p.1∉X.fs/\ ∀v,p.2.data≠ .cell v):Inv X mE σ H s:=
 ⟨I.ok,I.os,I.bare,I.base,I.loc,I.cell,I.free,I.GH,fun p hp=>(Hm.mp hp).elim (fun z=>I.pin p (aV _ z)) (h p),I.Af,I.len⟩
theorem WH{N:List Str}(hN:N.Nodup){i j:Nat}{x:Str}(a:N[i]? =some x)(b:N[j]? =some x):i=j:=by
 obtain⟨h1,e1⟩:=Fi.mp a;obtain⟨h2,e2⟩:=Fi.mp b;exact(List.getElem_inj hN).mp (e1.trans e2.symm)
theorem qt(I:Inv X pins σ H s)(hN:X.N.Nodup)(hi:X.N[i]? =some x)(hx:Loc X.env.scope x)(r:RelV v u)
 (h: ∀s',Inv X pins (σ.set i (some v)) H s'->(∃a,VJ a s.heap s'.heap/\(a=X.env.locals\/X.env.cells.lookup x=some a))->Q () s')(hf:X.fn x=true\/X.env.scope.names.lookup x=some .local:=by first|exact .inl rfl|exact .inr rfl|assumption):wpAny M A (storeName X.env x u) Q E s:=by
 obtain⟨m,hn,hl⟩:=id I.loc;have AEd:(X.env.scope.kind== .class||(X.env.scope.kind== .module&&X.env.locals !=X.env.globals))=false:=by rw [I.ok.kind];rfl
 have mF:i<σ.length:=by rw [I.len];exact(Fi.mp hi).1
 have Mm:=I.Mm;have tracked: ∀{a:Addr}{h':Heap},(∃o,s.heap.get? a=some o/\H a=none)->VJ a s.heap h'->Cr L2.P L2.w H h':=fun {a h'} ha hs b ob e=>by
  obtain⟨_,_,OJ⟩:=ha;refine(I.Af b ob e).LP (fun c w' hc q=>(hs.2 c ?_).trans q) (fun _ q=>q) fun _ _ q=>q
  rintro rfl;rcases hc with rfl|hc
  ·rw [OJ]at e;cases e
  ·rw [OJ]at hc;cases hc
 rcases hx with hk|hk
 ·refine wpAny_storeName_local hk hn (fun h' hn' hs=>?_) AEd;obtain⟨oL,_,_,hoL,_⟩:=id hn;refine h _ ⟨I.ok,I.os,I.bare,⟨fun b o e n hb hx=>?_,fun b o e n hb hx=>?_,I.base.free,fun b o e hx=>?_,I.base.Gq,I.base.GF,I.base.Gr⟩,⟨_,hn',fun j y v' e1 e2 e3=>?_⟩,fun y c e=>?_,I.free,I.GH,fun p hp=>?_,tracked ⟨oL,hoL,I.free⟩ hs,by simpa using I.len⟩ ⟨_,hs,.inl rfl⟩
  ·exact(hs.2 b (Fh (Bs (B6 e) I.ok.above))).trans (I.base.keep b o e n hb hx)
  ·obtain⟨sl,e1⟩:=I.base.slot b o e n hb hx;exact⟨sl,(hs.2 b (Fh (Bs (B6 e) I.ok.above))).trans e1⟩
  ·obtain⟨o',e1⟩:=I.base.there b o e hx;exact⟨o',(hs.2 b (Fh (Bs (B6 e) I.ok.above))).trans e1⟩
  ·by_cases hj:j=i
   ·subst hj;rw [hi]at e1;cases e1;rw [My mF]at e2;cases e2;exact⟨u,r,.inl ⟨hk,by simp⟩⟩
   ·rw [VL (Ne.symm hj)]at e2;obtain⟨u',r',q⟩:=hl j y v' e1 e2 e3;refine⟨u',r',?_⟩;rcases q with⟨k,e⟩|⟨k,c,e,z⟩
    ·refine .inl ⟨k,?_⟩;have :y≠x:=fun e=>hj (WH hN e1 (e▸hi))
     simp [this,e]
    ·exact .inr ⟨k,c,e,z.sameBut hs (Mm y c e)⟩
  ·obtain⟨w',z⟩:=I.cell y c e;exact⟨w',z.sameBut hs (Mm y c e)⟩
  ·obtain⟨e,n,ne,nf,d⟩:=I.pin p hp;exact⟨(hs.2 p.1 ne).trans e,n,ne,nf,d⟩
 ·have ZI:X.fn x=true:=by
   rcases hf with z|z
   ·exact z
   ·rw [z]at hk;cases hk
  obtain⟨c,hc⟩:=I.ok.has x (.inl hk);obtain⟨w',z⟩:=I.cell x c hc;refine wpAny_storeName_cell I.ok.kind hk hc z (fun h' JY hs=>?_);obtain⟨oc,mG,AEe⟩:=id z;refine h {s with heap:=h'} ⟨I.ok,I.os,I.bare,⟨fun b o e n hb hx=>?_,fun b o e n hb hx=>?_,I.base.free,fun b o e hx=>?_,I.base.Gq,I.base.GF,I.base.Gr⟩,⟨m,hn.sameBut hs (Ne.symm (Mm x c hc)),fun j y v' e1 e2 e3=>?_⟩,fun y c' e=>?_,I.free,I.GH,fun p hp=>?_,tracked ⟨oc,mG,I.GH x c hc⟩ hs,by simpa using I.len⟩ ⟨c,hs,.inr hc⟩
  ·exact(hs.2 b (Fh (Bs (B6 e) (I.ok.LR x c ZI hc)))).trans (I.base.keep b o e n hb hx)
  ·obtain⟨sl,e1⟩:=I.base.slot b o e n hb hx;exact⟨sl,(hs.2 b (Fh (Bs (B6 e) (I.ok.LR x c ZI hc)))).trans e1⟩
  ·obtain⟨o',e1⟩:=I.base.there b o e hx;exact⟨o',(hs.2 b (Fh (Bs (B6 e) (I.ok.LR x c ZI hc)))).trans e1⟩
  ·by_cases hj:j=i
   ·subst hj;rw [hi]at e1;cases e1;rw [My mF]at e2;cases e2;exact⟨u,r,.inr ⟨.inl hk,c,hc,JY⟩⟩
   ·rw [VL (Ne.symm hj)]at e2;obtain⟨u',r',q⟩:=hl j y v' e1 e2 e3;refine⟨u',r',?_⟩;rcases q with q|⟨k,c',e,z'⟩
    ·exact .inl q
    ·refine .inr ⟨k,c',e,z'.sameBut hs ?_⟩;rintro rfl;exact hj (WH hN e1 (I.ok.inj _ _ _ e hc▸hi))
  ·by_cases GI:c'=c
   ·subst GI;exact⟨_,JY⟩
   ·obtain⟨w2,z2⟩:=I.cell y c' e;exact⟨w2,z2.sameBut hs GI⟩
  ·obtain⟨e,n,ne,nf,d⟩:=I.pin p hp;refine⟨(hs.2 p.1 ?_).trans e,n,ne,nf,d⟩;intro q;rw [q,mG]at e;have q':oc=p.2:=BQ e;exact d w' (by rw [<-q'];exact AEe)
theorem cP(I:Inv X pins σ H s)(hN:X.N.Nodup)(hi:X.N[i]? =some x)(hx:Loc X.env.scope x)(r:RelV v u)
 (h: ∀s',Inv X pins (σ.set i (some v)) H s'->Q () s')(hf:X.fn x=true\/X.env.scope.names.lookup x=some .local:=by first|exact .inl rfl|exact .inr rfl|assumption):wpAny M A (storeName X.env x u) Q E s:=
 qt I hN hi hx r (fun s' I' _=>h s' I') hf
theorem Inv.Uk(I:Inv X pins σ H s)(ho:s'.os=s.os)(u:Un (DO X.stack) ch H H' s.heap s'.heap)(Af:Cr L2.P L2.w H' s'.heap)(hg:AllBare s'.gens)
 (JX: ∀b∈ch,(b∈X.ex\/X.EA.heap.objs.size<=b)/\b≠X.env.locals/\(∀x c,X.env.cells.lookup x=some c->c≠b)/\ ∀p∈X.pn++pins,p.1≠b):Inv X pins σ H' s':=by
 obtain⟨h',g',d',t',o'⟩:=s';have e:o'=s.os:=ho;subst e;exact I.call (g':=g') (t':=t') (d':=d') u Af hg JX
end
abbrev XK:=Value->Option Addr->Hp->Prop
abbrev St:=List (Option V)
abbrev VK:=V->Hp->Prop
abbrev TE:=St->Hp->VK->Prop
abbrev TT:=St->Hp->(Bool->Hp->Prop)->Prop
abbrev TA:=St->Hp->(List V->Hp->Prop)->Prop
structure FE where
 nx:St->Hp->Prop
 rt:VK
 bk:St->Hp->Prop:=fun _ _=>False
 ct:St->Hp->Prop:=fun _ _=>False
abbrev TS:=FE->St->Hp->Prop
def EP(X:Cx)(pins:List (Addr×Obj))(σ:St)(Q:VK)(u:Value)(s':Shared):Prop:= ∃v H',Inv X pins σ H' s'/\RelV v u/\Q v H'
def TP(X:Cx)(pins:List (Addr×Obj))(σ:St)(Q:Bool->Hp->Prop)(b:Bool)(s':Shared):Prop:= ∃H',Inv X pins σ H' s'/\Q b H'
def AP(X:Cx)(pins:List (Addr×Obj))(σ:St)(Q:List V->Hp->Prop)(us:List Value)(s':Shared):Prop:= ∃vs H',Inv X pins σ H' s'/\BM vs us/\Q vs H'
def SP(X:Cx)(pins:List (Addr×Obj))(D:FE)(f:Flow)(s':Shared):Prop:=
 match f with
 |.next=> ∃Ak H',Inv X pins Ak H' s'/\D.nx Ak H'
 |.brk=> ∃Ak H',Inv X pins Ak H' s'/\D.bk Ak H'
 |.cont=> ∃Ak H',Inv X pins Ak H' s'/\D.ct Ak H'
 |.ret u=> ∃v Ak H',Inv X pins Ak H' s'/\RelV v u/\D.rt v H'
def PE(X:Cx)(e:Expr)(t:TE):Prop:=
 ∀(pins:List (Addr×Obj))(s:Shared)(σ:St)(H:Hp)(Q:VK),Inv X pins σ H s->t σ H Q->wpAny (model L2.P L2.w) X.A (eval e X.env) (EP X pins σ Q) X.xe s
def PT(X:Cx)(e:Expr)(t:TT):Prop:=
 ∀(pins:List (Addr×Obj))(s:Shared)(σ:St)(H:Hp)(Q:Bool->Hp->Prop),Inv X pins σ H s->t σ H Q->wpAny (model L2.P L2.w) X.A (isTrue e X.env (eval e X.env)) (TP X pins σ Q) X.xe s
def PW(X:Cx)(e:Expr)(t:TT):Prop:=
 ∀(whole:Sem Value)(pins:List (Addr×Obj))(s:Shared)(σ:St)(H:Hp)(Q:Bool->Hp->Prop),Inv X pins σ H s->t σ H Q->wpAny (model L2.P L2.w) X.A (isTrue e X.env whole) (TP X pins σ Q) X.xe s
theorem PW.pt(h:PW X e t):PT X e t:=h _
def PA(X:Cx)(es:List Expr)(t:TA):Prop:=
 ∀(pos:Pos)(pins:List (Addr×Obj))(s:Shared)(σ:St)(H:Hp)(Q:List V->Hp->Prop),Inv X pins σ H s->t σ H Q->wpAny (model L2.P L2.w) X.A (spliced (backTo pos (starEach es X.env))) (AP X pins σ Q) X.xe s
def PS(X:Cx)(st:Stmt)(t:TS):Prop:=
 ∀(pins:List (Addr×Obj))(s:Shared)(σ:St)(H:Hp)(D:FE),Inv X pins σ H s->t D σ H->wpAny (model L2.P L2.w) X.A (exec st X.env) (SP X pins D) X.xe s
def Ee(X:Cx)(st:List Stmt)(t:TS):Prop:=
 ∀(pins:List (Addr×Obj))(s:Shared)(σ:St)(H:Hp)(D:FE),Inv X pins σ H s->t D σ H->wpAny (model L2.P L2.w) X.A (execs st X.env) (SP X pins D) X.xe s
theorem As(h:wpAny M A t Q E s)(hQ: ∀a s,Q a s->Q' a s):wpAny M A t Q' E s:=GO h hQ fun _ _ x=>x
end L2
namespace L2
open PySem PySem.Spec PyProof.Rows
section
variable{X:Cx}
theorem bin{a b:Expr}{ta tb:TE}(ha:PE X a ta)(hb:PE X b tb){pins:List (Addr×Obj)}{s:Shared}{σ:St}{H:Hp}{R:V->V->Hp->Prop}(I:Inv X pins σ H s)(h:ta σ H fun x H1=>tb σ H1 fun y H2=>R x y H2)
 {α:Type}{Q:α->Shared->Prop}{f:Value->Value->Sem α}
 (hf: ∀v u s2 x y H2,Inv X pins σ H2 s2->RelV x v->RelV y u->R x y H2->wpAny (model L2.P L2.w) X.A (f v u) Q X.xe s2):
 wpAny (model L2.P L2.w) X.A (eval a X.env) (fun v Bl=>wpAny (model L2.P L2.w) X.A (eval b X.env) (fun u E6=>wpAny (model L2.P L2.w) X.A (f v u) Q X.xe E6) X.xe Bl) X.xe s:=by
 refine As (ha pins s σ H _ I h) fun v s1 ⟨x,H1,I1,r1,q1⟩=>?_
 refine As (hb pins s1 σ H1 _ I1 q1) fun u s2 ⟨y,H2,I2,r2,q2⟩=>?_
 exact hf v u s2 x y H2 I2 r1 r2 q2
def Aa(i:Nat):TE:=fun σ H Q=> ∃v,σ[i]? =some (some v)/\Q v H
def tC(v:V):TE:=fun _ H Q=>Q v H
theorem cQ(hN:X.N[i]? =some x)(hv:Kn X.env.scope x)(hd:(x==("__debug__":Str))=false:=by decide)(Fx:(x==("__classdict__":Str))=false:=by decide):PE X (.Name x pos) (Aa i):=by
 intro pins s σ H Q I h;obtain⟨v,e,h⟩:=h;obtain⟨m,hn,hl⟩:=I.loc;obtain⟨u,r,l⟩:=hl i x v hN e hv;have fin:EP X pins σ Q u s:=⟨v,H,I,r,h⟩;rcases l with⟨hk,hm⟩|⟨hk,c,hc,mH⟩
 ·exact wpAny_Name (wpAny_loadName_local I.ok.kind hk hn hm fin) hd
 ·rcases hk with hk|hk
  ·exact wpAny_Name (wpAny_loadName_cell I.ok.kind hk hc mH fin) hd
  ·exact wpAny_Name (wpAny_loadName_free I.ok.kind hk hc mH fin Fx) hd
theorem AE{i j pos}:PE X (.Constant (.int i) j pos) (tC (.int i)):=fun _ _ _ H _ I h=>wpAny_Constant_int ⟨.int i,H,I.tok _,⟨_,rfl⟩,h⟩
theorem L4{b j pos}:PE X (.Constant (.bool b) j pos) (tC (.bl b)):=fun _ _ _ H _ I h=>Constant_bool ⟨.bl b,H,I,rfl,h⟩
theorem Cy{x j pos}:PE X (.Constant (.str x) j pos) (tC (.str x)):=fun _ _ _ H _ I h=>Calls.Constant_str ⟨.str x,H,I.tok _,⟨_,rfl⟩,h⟩
def Gl(X:Cx)(x:Str):Prop:=X.env.kindOf x=some .globalImplicit
theorem Ko{E:Value->Shared->Prop}{pins:List (Addr×Obj)}{s:Shared}{σ:St}{H:Hp}{x:Str}{u:Value}{pos:Pos}{Q:Value->Shared->Prop}(I:Inv X pins σ H s)(hg:Gl X x)(hm:L2.mg x=some u)(h:Q u s)
 (hd:(x==("__debug__":Str))=false:=by decide):wpAny (model L2.P L2.w) X.A (eval (.Name x pos) X.env) Q E s:=
 AFJ I.ok.kind hg (Calls.loadGlobal_global (by rw [I.ok.glob];exact I.mod.glob.keeps I.bk) hm h) hd
theorem O5{E:Value->Shared->Prop}{pins:List (Addr×Obj)}{s:Shared}{σ:St}{H:Hp}{x:Str}{u:Value}{pos:Pos}{Q:Value->Shared->Prop}(I:Inv X pins σ H s)(hg:Gl X x)(hm:L2.mg x=none)(hv:bootBuiltins x=some u)(h:Q u s)
 (hn:x≠"__name__":=by decide)(hd:(x==("__debug__":Str))=false:=by decide):wpAny (model L2.P L2.w) X.A (eval (.Name x pos) X.env) Q E s:=by
 obtain⟨mb,h1,h2⟩:=I.mod.blt;exact AFJ I.ok.kind hg (Calls.loadGlobal_builtin (by rw [I.ok.glob];exact I.mod.glob.keeps I.bk) hm (by rw [I.ok.blt];exact h1.keeps I.bk) ((h2 x hn).trans hv) h) hd
theorem WI{x:Str}{v:V}{u:Value}{pos:Pos}(hg:Gl X x)(hm:L2.mg x=some u)(r:RelV v u)(hd:(x==("__debug__":Str))=false:=by decide):PE X (.Name x pos) (tC v):=
 fun _ _ _ H _ I h=>Ko I hg hm ⟨v,H,I,r,h⟩ hd
variable{a b:Expr}{ta tb:TE}{pos:Pos}
def PC(X:Cx)(op:CmpOp)(a b:Expr)(t:TE):Prop:=
 ∀(pins:List (Addr×Obj))(s:Shared)(σ:St)(H:Hp)(Q:VK),Inv X pins σ H s->t σ H Q->
  wpAny (model L2.P L2.w) X.A (eval a X.env) (fun v Bl=>wpAny (model L2.P L2.w) X.A (eval b X.env) (fun u E6=>wpAny (model L2.P L2.w) X.A (compareOp op v u) (EP X pins σ Q) X.xe E6) X.xe Bl) X.xe s
def tB(t:TE):TT:=fun σ H Q=>t σ H fun x H1=> ∃c,x=.bl c/\Q c H1
theorem Bz(h:PE X e t)(he: ∀whole,isTrue e X.env whole=(do let v<-whole;standAt e.pos;holding [v] (truthy v)):=by intro _;rfl):PT X e (tB t):=by
 intro pins s σ H Q I hw;refine isTrue_plain (As (h pins s σ H _ I hw) fun v s1 ⟨x,H1,I1,r1,q1⟩=>?_) (he _);obtain⟨d,rfl,q⟩:=q1;cases r1;exact RF ⟨H1,I1,q⟩
variable{tA Ul:TT}{rest:List Expr}
def WJ(t u:TT):TT:=fun σ H Q=>t σ H fun c H1=>if c=true then u σ H1 Q else Q false H1
def cR(t u:TT):TT:=fun σ H Q=>t σ H fun c H1=>if c=true then Q true H1 else u σ H1 Q
def cS(t:TT):TT:=fun σ H Q=>t σ H fun c H1=>Q (!c) H1
theorem Kp(ha:PT X a tA):PW X (.BoolOp .And [a] pos) tA:=by
 intro wh pins s σ H Q I h;refine isTrue_and (As (ha pins s σ H Q I h) fun c s1 e=>?_);cases c with
 |true=>exact isTrue_and_nil e
 |false=>exact e
theorem Fn(ha:PT X a tA):PW X (.BoolOp .Or [a] pos) tA:=by
 intro wh pins s σ H Q I h;refine isTrue_or (As (ha pins s σ H Q I h) fun c s1 e=>?_);cases c with
 |false=>exact isTrue_or_nil e
 |true=>exact e
theorem JC(ha:PT X a tA)(hb:PW X (.BoolOp .And (b::rest) pos) Ul):PW X (.BoolOp .And (a::b::rest) pos) (WJ tA Ul):=by
 intro wh pins s σ H Q I h;refine isTrue_and (As (ha pins s σ H _ I h) fun c s1 ⟨H1,I1,q1⟩=>?_);cases c with
 |true=>exact hb wh pins s1 σ H1 Q I1 q1
 |false=>exact⟨H1,I1,q1⟩
theorem Fb(ha:PT X a tA)(hb:PW X (.BoolOp .Or (b::rest) pos) Ul):PW X (.BoolOp .Or (a::b::rest) pos) (cR tA Ul):=by
 intro wh pins s σ H Q I h;refine isTrue_or (As (ha pins s σ H _ I h) fun c s1 ⟨H1,I1,q1⟩=>?_);cases c with
 |true=>exact⟨H1,I1,q1⟩
 |false=>exact hb wh pins s1 σ H1 Q I1 q1
theorem Ru(ha:PT X a tA):PT X (.UnaryOp .Not a pos) (cS tA):=by
 intro pins s σ H Q I h;exact isTrue_not (ha pins s σ H (fun c H1=>Q (!c) H1) I h)
def cT(ta tb:TE):TE:=fun σ H Q=>ta σ H fun x H1=> ∃c,x=.bl c/\if c=true then tb σ H1 Q else Q (.bl false) H1
def cU(ta tb:TE):TE:=fun σ H Q=>ta σ H fun x H1=> ∃c,x=.bl c/\if c=true then Q (.bl true) H1 else tb σ H1 Q
theorem HM{op}(h:PE X a t):PE X (.BoolOp op [a] pos) t:=fun pins s σ H Q I hw=>BoolOp_one (h pins s σ H Q I hw)
theorem L5(ha:PE X a ta)(hb:PE X (.BoolOp .And (b::rest) pos) tb):PE X (.BoolOp .And (a::b::rest) pos) (cT ta tb):=by
 intro pins s σ H Q I h;refine BoolOp_and (As (ha pins s σ H _ I h) fun v s1 ⟨x,H1,I1,r1,q1⟩=>?_);obtain⟨c,rfl,q1⟩:=q1;cases r1;refine RF ?_;cases c with
 |true=>exact hb pins s1 σ H1 Q I1 q1
 |false=>exact⟨.bl false,H1,I1,rfl,q1⟩
theorem NL(ha:PE X a ta)(hb:PE X (.BoolOp .Or (b::rest) pos) tb):PE X (.BoolOp .Or (a::b::rest) pos) (cU ta tb):=by
 intro pins s σ H Q I h;refine BoolOp_or (As (ha pins s σ H _ I h) fun v s1 ⟨x,H1,I1,r1,q1⟩=>?_);obtain⟨c,rfl,q1⟩:=q1;cases r1;refine RF ?_;cases c with
 |false=>exact hb pins s1 σ H1 Q I1 q1
 |true=>exact⟨.bl true,H1,I1,rfl,q1⟩
def Kq(t:TT)(ta tb:TE):TE:=fun σ H Q=>t σ H fun c H1=>if c=true then ta σ H1 Q else tb σ H1 Q
theorem Bq{c:Expr}(hc:PT X c tA)(ha:PE X a ta)(hb:PE X b tb):PE X (.IfExp c a b pos) (Kq tA ta tb):=by
 intro pins s σ H Q I h;refine wpAny_IfExp (As (hc pins s σ H _ I h) fun d s1 ⟨H1,I1,q1⟩=>?_);cases d with
 |true=>exact ha pins s1 σ H1 Q I1 q1
 |false=>exact hb pins s1 σ H1 Q I1 q1
end
end L2
namespace L2
open PySem PySem.Spec PyProof.Rows
def B0(K:Aj)(H:Hp)(a:Addr)(xs:List V):Prop:=
 Rd H a (.lst xs)\/
  ∃(o:Obj)(AV:Array Value)(n:Nat),K.lookup a=some o/\o.cls=.type "list"/\o.dict=none/\o.data=.seq AV n/\AV.size<=sizeLine/\BM xs AV.toList
def B9(K:Aj)(H:Hp)(a:Addr)(xs:List V):Prop:=
 Rd H a (.tup xs)\/
  ∃(o:Obj)(AV:Array Value)(n:Nat),K.lookup a=some o/\o.cls=.type "tuple"/\o.data=.seq AV n/\AV.size<=sizeLine/\BM xs AV.toList
noncomputable def qu:Value->Option V
 |.none=>some .BZ
 |.bool b=>some (.bl b)
 |.int i _=>some (.int i)
 |.str x _=>some (.str x)
 |.bytes b _=>some (.E5 b)
 |.float b _=>some (.flt b)
 |.ref a=>some (.ref a)
 |.type n=>some (.ty n)
 |_=>none
theorem RelV.abs(r:RelV x u):qu u=some x:=by
 cases x with
 |BZ=>cases r;rfl
 |bl _=>cases r;rfl
 |int _=>obtain⟨t,rfl⟩:=r;rfl
 |str _=>obtain⟨t,rfl⟩:=r;rfl
 |E5 _=>obtain⟨t,rfl⟩:=r;rfl
 |flt _=>obtain⟨t,rfl⟩:=r;rfl
 |ref _=>cases r;rfl
 |ty _=>cases r;rfl
theorem RelV.inj(r:RelV x u)(q:RelV y u):x=y:=BQ (r.abs.symm.trans q.abs)
theorem BM.inj: ∀{xs ys:List V}{us:List Value},BM xs us->BM ys us->xs=ys
 |_,_,_,.nil,.nil=>rfl
 |_,_,_,.cons r t,.cons r' t'=>by rw [r.inj r',BM.inj t t']
section
variable{X:Cx}{pins:List (Addr×Obj)}{σ:St}{H:Hp}{s:Shared}{a:Addr}{xs ys:List V}
theorem BL{K:Aj}(h:H a=some (.lst xs)):B0 K H a xs:=.inl (.inl h)
theorem JV{K:Aj}(h:H a=some (.tup xs)):B9 K H a xs:=.inl (.inl h)
theorem Inv.list(I:Inv X pins σ H s)(h:B0 L2.K H a xs): ∃AV:List Value,BM xs AV/\PlainL s.heap a AV.toArray/\xs.length<=sizeLine:=by
 rcases h with h|⟨o,AV,n,hk,hc,hd,hs,hz,r⟩
 ·obtain⟨z,AV,n,r,e⟩:=h.ok I.Af;exact⟨AV,r,⟨_,n,e,rfl,rfl,rfl⟩,z⟩
 ·refine⟨AV.toList,r,⟨o,n,I.Ea a o hk,hc,hd,by simpa using hs⟩,?_⟩;have e:=r.length;simp only [oW]at e;lia
theorem Inv.tuple(I:Inv X pins σ H s)(h:B9 L2.K H a xs): ∃AV:List Value,BM xs AV/\IsTup s.heap a AV.toArray/\xs.length<=sizeLine:=by
 rcases h with h|⟨o,AV,n,hk,hc,hs,hz,r⟩
 ·obtain⟨z,AV,r,p⟩:=h.ok I.Af;exact⟨AV,r,p,z⟩
 ·refine⟨AV.toList,r,⟨o,I.Ea a o hk,hc,n,by simpa using hs⟩,?_⟩;have e:=r.length;simp only [oW]at e;lia
theorem Inv.Um(I:Inv X pins σ H s)(h:B0 L2.K H a xs)(h':B0 L2.K H a ys):xs=ys:=by
 obtain⟨AV,r,⟨o,n,e,_,_,d⟩,_⟩:=I.list h;obtain⟨its',r',⟨o',n',e',_,_,d'⟩,_⟩:=I.list h';rw [e]at e';cases e';rw [d]at d';injection d' with d1 _
 have :AV=its':=by simpa using congrArg VM d1
 subst this;exact r.inj r'
theorem Inv.mI(I:Inv X pins σ H s)(h:B9 L2.K H a xs)(h':B9 L2.K H a ys):xs=ys:=by
 obtain⟨AV,r,⟨o,e,_,n,d⟩,_⟩:=I.tuple h;obtain⟨its',r',⟨o',e',_,n',d'⟩,_⟩:=I.tuple h';rw [e]at e';cases e';rw [d]at d';injection d' with d1 _
 have :AV=its':=by simpa using congrArg VM d1
 subst this;exact r.inj r'
end
abbrev Cx.JZ(X:Cx)(E:Value->Shared->Prop):Cx:={X with xe:=E}
abbrev Cx.OK(X:Cx):Cx:=X.JZ fun _ _=>False
theorem Cx.Ok.JZ{X:Cx}(ok:X.Ok)(E:Value->Shared->Prop):(X.JZ E).Ok:=
 ⟨ok.mod,ok.kind,ok.glob,ok.blt,ok.above,ok.inj,ok.has,ok.LR,ok.hd,ok.frames,ok.Mj,ok.Ml,ok.bs,ok.HB,ok.LS,ok.LU,ok.GG,ok.IZ⟩
theorem Cx.Ok.LW{X:Cx}{E:Value->Shared->Prop}(ok:(X.JZ E).Ok):X.Ok:=
 ⟨ok.mod,ok.kind,ok.glob,ok.blt,ok.above,ok.inj,ok.has,ok.LR,ok.hd,ok.frames,ok.Mj,ok.Ml,ok.bs,ok.HB,ok.LS,ok.LU,ok.GG,ok.IZ⟩
section
variable{X:Cx}{pins:List (Addr×Obj)}{σ:St}{H:Hp}{s:Shared}{E:Value->Shared->Prop}
theorem Inv.JZ(I:Inv X pins σ H s)(E:Value->Shared->Prop):Inv (X.JZ E) pins σ H s:=⟨I.ok.JZ E,I.os,I.bare,I.base,I.loc,I.cell,I.free,I.GH,I.pin,I.Af,I.len⟩
theorem Inv.LW(I:Inv (X.JZ E) pins σ H s):Inv X pins σ H s:=⟨I.ok.LW,I.os,I.bare,I.base,I.loc,I.cell,I.free,I.GH,I.pin,I.Af,I.len⟩
theorem SP.LW(h:SP (X.JZ E) pins D f s'):SP X pins D f s':=by
 cases f with
 |next=>obtain⟨Ak,H',I,q⟩:=h;exact⟨Ak,H',I.LW,q⟩
 |brk=>obtain⟨Ak,H',I,q⟩:=h;exact⟨Ak,H',I.LW,q⟩
 |cont=>obtain⟨Ak,H',I,q⟩:=h;exact⟨Ak,H',I.LW,q⟩
 |ret u=>obtain⟨v,Ak,H',I,r,q⟩:=h;exact⟨v,Ak,H',I.LW,r,q⟩
theorem Ee.OK{st:List Stmt}{t:TS}(h:Ee X.OK st t):Ee X st t:=fun pins s σ H D I hw=>
 GO (h pins s σ H D (I.JZ _) hw) (fun _ _ q=>q.LW) fun _ _ z=>Dp z
end
section
variable{X:Cx}{st:Stmt}{rest:List Stmt}{t u:TS}{e:Expr}{te:TE}{pos:Pos}
def WK:TS:=fun D σ H=>D.nx σ H
def NM(t u:TS):TS:=fun D σ H=>t {D with nx:=u D} σ H
theorem Ai:Ee X [] WK:=fun _ _ σ H _ I h=>VN ⟨σ,H,I,h⟩
theorem AJ(h1:PS X st t)(h2:Ee X rest u):Ee X (st::rest) (NM t u):=by
 intro pins s σ H D I h;refine wpAny_execs_cons (As (h1 pins s σ H {D with nx:=u D} I h) fun f s1 q=>?_);cases f with
 |next=>
  obtain⟨Ak,H',I',q⟩:=q;exact h2 pins s1 Ak H' D I' q
 |ret v=>exact q
 |brk=>exact q
 |cont=>exact q
theorem Cj(h1:PS X st t):Ee X [st] t:=by
 intro pins s σ H D I h;refine wpAny_execs_cons (As (h1 pins s σ H D I h) fun f s1 q=>?_);cases f with
 |next=>exact VN q
 |ret v=>exact q
 |brk=>exact q
 |cont=>exact q
theorem Inv.quiet(I:Inv X pins σ H s):interactive X.env=false:=by simp [interactive,I.ok.kind]
def qv(te:TE):TS:=fun D σ H=>te σ H fun _ H1=>D.nx σ H1
theorem Kr(he:PE X e te)(hs:swapsWith e none pos.line X.env=pure false:=by rfl):PS X (.Expr e pos) (qv te):=by
 intro pins s σ H D I h;exact wpAny_Expr_any (As (he pins s σ H _ I h) fun v s1 ⟨x,H1,I1,r1,q1⟩=>⟨σ,H1,I1,q1⟩) I.quiet hs
def Jt(te:TE):TS:=fun D σ H=>te σ H D.rt
theorem qw(he:PE X e te):PS X (.Return (some e) pos) (Jt te):=by
 intro pins s σ H D I h;exact wpAny_Return_some (As (he pins s σ H _ I h) fun v s1 ⟨x,H1,I1,r1,q1⟩=>⟨x,σ,H1,I1,r1,q1⟩)
def O6(c:TT)(t u:TS):TS:=fun D σ H=>c σ H fun b H1=>if b=true then t D σ H1 else u D σ H1
theorem Ag(hc:PT X c tc)(ha:Ee X a t)(hb:Ee X b u):PS X (.If c a b pos) (O6 tc t u):=by
 intro pins s σ H D I h;refine wpAny_If (As (hc pins s σ H _ I h) fun d s1 ⟨H1,I1,q1⟩=>?_);cases d with
 |true=>exact ha pins s1 σ H1 D I1 q1
 |false=>exact hb pins s1 σ H1 D I1 q1
end
abbrev TG:=V->St->Hp->(St->Hp->Prop)->Prop
abbrev L6:=List V->St->Hp->(St->Hp->Prop)->Prop
def PG(X:Cx)(target:Expr)(t:TG):Prop:=
 ∀(pins:List (Addr×Obj))(s:Shared)(σ:St)(H:Hp)(v:V)(u:Value)(Q:St->Hp->Prop),Inv X pins σ H s->RelV v u->t v σ H Q->
  wpAny (model L2.P L2.w) X.A (assign target X.env u) (fun _ s'=> ∃Ak H',Inv X pins Ak H' s'/\Q Ak H') X.xe s
def Rv(X:Cx)(ts:List Expr)(t:L6):Prop:=
 ∀(pins:List (Addr×Obj))(s:Shared)(σ:St)(H:Hp)(vs:List V)(us:List Value)(Q:St->Hp->Prop),Inv X pins σ H s->BM vs us->t vs σ H Q->
  wpAny (model L2.P L2.w) X.A (assignInOrder ((assignEach ts X.env).map (·.2)) us) (fun _ s'=> ∃Ak H',Inv X pins Ak H' s'/\Q Ak H') X.xe s
abbrev WL:=V->V->V->Hp->(Hp->Prop)->Prop
def cV(X:Cx)(t:WL):Prop:=
 ∀(pins:List (Addr×Obj))(s:Shared)(σ:St)(H:Hp)(o i v:V)(ov iv u:Value)(Q:Hp->Prop),Inv X pins σ H s->RelV o ov->RelV i iv->RelV v u->t o i v H Q->
  wpAny (model L2.P L2.w) X.A (setItem ov iv u) (fun _ s'=> ∃H',Inv X pins σ H' s'/\Q H') X.xe s
section
variable{X:Cx}{pos:Pos}
def HN(i:Nat):TG:=fun v σ H Q=>Q (σ.set i (some v)) H
theorem FF(hN:X.N.Nodup)(hi:X.N[i]? =some x)(hx:Loc X.env.scope x)(hf:X.fn x=true\/X.env.scope.names.lookup x=some .local:=by first|exact .inl rfl|exact .inr rfl|assumption):PG X (.Name x pos) (HN i):=by
 intro pins s σ H v u Q I r h;exact wpAny_assign_Name (cP I hN hi hx r (fun s' I'=>⟨_,H,I',h⟩) hf)
def q4:L6:=fun vs σ H Q=>vs=[]/\Q σ H
def q5(t:TG)(u:L6):L6:=fun vs σ H Q=> ∃v r,vs=v::r/\t v σ H fun Ak H'=>u r Ak H' Q
theorem WM:Rv X [] q4:=by
 intro pins s σ H vs us Q I r h;obtain⟨e,h⟩:=h;subst e;cases r;exact assignInOrder_nil ⟨σ,H,I,h⟩
theorem NN(h1:PG X e t)(h2:Rv X es u)
 (hs:(assignEach (e::es) X.env).map (·.2)=assign e X.env::(assignEach es X.env).map (·.2):=by rfl):Rv X (e::es) (q5 t u):=by
 intro pins s σ H vs us Q I r h;obtain⟨v,vr,e1,h⟩:=h;subst e1;cases r with
 |cons r rr=>
  rw [hs];refine assignInOrder_cons (As (h1 pins s σ H _ _ _ I r h) fun _ s1 ⟨C8,H1,I1,q1⟩=>?_);exact h2 pins s1 C8 H1 _ _ Q I1 rr q1
def q_(K:Aj)(n:Nat)(t:L6):TG:=fun v σ H Q=> ∃a xs,v=.ref a/\B9 K H a xs/\xs.length=n/\t xs σ H Q
theorem WN(hc:X.calm=true)(h:Rv X es t)
 (hn:(assignEach es X.env).length=n:=by rfl)(El:(assignEach es X.env).findIdx? (·.1)=none:=by rfl):PG X (.Tuple es k pos) (q_ L2.K n t):=by
 intro pins s σ H v u Q I r hw;obtain⟨a,xs,e1,hq,hl,hw⟩:=hw;subst e1;cases r;obtain⟨AV,rv,ht,hz⟩:=I.tuple hq;refine assign_Tuple_tuple (I.ok.hd hc) ht (by simp [hn,<-hl,rv.length]) El fun h' hx=>?_
 have I1:Inv X pins σ H {s with heap:=h'}:=I.kept (t':=s.toks) fun b o e=>hx b o (Fh (B6 e)) e
 exact h pins _ σ H xs _ Q I1 (by simpa using rv) hw
def rA(to ti:TE)(t:WL):TG:=fun v σ H Q=>to σ H fun o H1=>ti σ H1 fun i H2=>t o i v H2 fun H3=>Q σ H3
theorem cW(ho:PE X o to)(hi:PE X i ti)(hs:cV X t)
 (ha: ∀v,assign (.Subscript o i pos) X.env v=(do
   let ov<-holding [v] (eval o X.env)
   let iv<-holding [v,ov] (eval i X.env)
   standAt pos
   holding [v,ov,iv] (setItem ov iv v)
   release [v,ov,iv] []):=by intro _;rfl):PG X (.Subscript o i pos) (rA to ti t):=by
 intro pins s σ H v u Q I r h;rw [ha];refine A4 (oX (As (ho pins s σ H _ I h) fun ov s1 ⟨x,H1,I1,r1,q1⟩=>?_));refine A4 (oX (As (hi pins s1 σ H1 _ I1 q1) fun iv s2 ⟨y,H2,I2,r2,q2⟩=>?_));refine A4 (wpAny_standAt (A4 (oX (As (hs pins s2 σ H2 x y v ov iv u _ I2 r1 r2 r q2) fun _ s3 ⟨H3,I3,q3⟩=>?_))));exact wpAny_release ⟨σ,H3,I3,q3⟩
def NO(te:TE)(g:TG):TS:=fun D σ H=>te σ H fun x H1=>g x σ H1 D.nx
theorem cX(he:PE X e te)(hg:PG X tg g)(hs:swapsWithSole [tg] e pos.line X.env=pure false:=by rfl)(hw:swappedStores [tg] e X.env=pure none:=by rfl)
 (h1:(assignEach [tg] X.env).map (·.2)=[assign tg X.env]:=by rfl):PS X (.Assign [tg] e pos) (NO te g):=by
 intro pins s σ H D I h;refine wpAny_Assign_stores (As (he pins s σ H _ I h) fun v s1 ⟨x,H1,I1,r1,q1⟩=>?_) hs hw;rw [h1];exact As (hg pins s1 σ H1 x v _ I1 r1 q1) fun _ s2 q=>q
theorem cY(hN:X.N.Nodup)(hi:X.N[i]? =some x)(hx:Loc X.env.scope x)(he:PE X e te)(hs:swapsWith e (some (.Name x pos')) pos.line X.env=pure false:=by rfl)(hf:X.fn x=true\/X.env.scope.names.lookup x=some .local:=by first|exact .inl rfl|exact .inr rfl|assumption):
 PS X (.Assign [.Name x pos'] e pos) (NO te (HN i)):=by
 intro pins s σ H D I h;refine wpAny_Assign_Name (As (he pins s σ H _ I h) fun v s1 ⟨y,H1,I1,r1,q1⟩=>?_) hs;exact cP I1 hN hi hx r1 (fun s2 I2=>⟨_,H1,I2,q1⟩) hf
end
section
variable{X:Cx}{pos:Pos}
def cZ(c:TT)(tb:TS):TS:=fun D σ H=> ∃W:Nat->St->Hp->Prop,(∃m,W m σ H)/\ ∀m σ H,W m σ H->
 c σ H fun b H1=>if b=true then ∃N:St->Hp->Prop,(∀Ak H',N Ak H'-> ∃m',m'<m/\W m' Ak H')/\tb {D with nx:=N,ct:=N,bk:=D.nx} σ H1 else D.nx σ H1
theorem O7(hp:PassesOwn (model L2.P L2.w) X.A X.env X.xe)(hc:PT X c tc)(hb:Ee X body tb):PS X (.While c body [] pos) (cZ tc tb):=by
 intro pins s σ H D I h;obtain⟨W,⟨m0,w0⟩,BI⟩:=h;refine wpAny_While (codeAny_whileLoop (fun n s'=> ∃Ak H',Inv X pins Ak H' s'/\W n Ak H') ?_ m0 ⟨σ,H,I,w0⟩);rintro n s1 ⟨C8,H1,I1,w1⟩;refine Oj hp (As (hc pins s1 C8 H1 _ I1 (BI n C8 H1 w1)) fun b s2 ⟨H2,I2,q2⟩=>?_);cases b with
 |true=>
  obtain⟨N,hN,q2⟩:=q2;rw [AG rfl];refine Oj hp (As (hb pins s2 C8 H2 _ I2 q2) fun f s3 q3=>?_);cases f with
  |next=>
   obtain⟨Ia,H3,I3,n3⟩:=q3;obtain⟨m',hm,w3⟩:=hN Ia H3 n3;exact⟨m',hm,Ia,H3,I3,w3⟩
  |cont=>
   obtain⟨Ia,H3,I3,n3⟩:=q3;obtain⟨m',hm,w3⟩:=hN Ia H3 n3;exact⟨m',hm,Ia,H3,I3,w3⟩
  |brk=>exact q3
  |ret v=>exact q3
 |false=>
  rw [AD F0];exact VN ⟨C8,H2,I2,q2⟩
end
structure It where
 go:Nat->Hp->Prop
 Hi:Nat->Hp->V->Hp->Prop
 stop:Nat->Hp->Prop
def HP(X:Cx)(pins:List (Addr×Obj))(H:Hp)(b:Addr):Prop:=
 H b=none/\b≠X.env.locals/\b∉X.fs/\(b∈X.ex\/X.EA.heap.objs.size<=b)/\(∀x c,X.env.cells.lookup x=some c->c≠b)/\ ∀p∈X.pn++pins,p.1≠b
theorem Inv.OL(I:Inv X pins σ H s)(hb:s.heap.objs.size<=b)(hn:H' b=none):HP X pins H' b:=by
 refine⟨hn,Ol (Bs I.lt hb),I.AEc hb,.inr (A9 I.sz hb),fun x c e z=>?_,fun p hp z=>?_⟩
 ·obtain⟨v,q⟩:=I.cell x c e;exact absurd (Bs q.lt (by rw [z];exact hb)) (Hk _)
 ·exact absurd (Bs (B6 (I.pin p hp).1) (by rw [z];exact hb)) (Hk _)
structure Ju(P:Program)(w:World)(K:Aj)(tg:Expr)(J:It)(fp:List Addr)(it:Addr)(tn:Nat->Heap->Prop):Prop where
 mem:it∈fp
 obj: ∀i h,tn i h-> ∀b∈fp,∃o,h.get? b=some o/\ ∀v,o.data≠ .cell v
 keep: ∀i h h',tn i h->(∀b∈fp,∀o,h.get? b=some o->h'.get? b=some o)->tn i h'
 item: ∀(X:Cx),L2.P=P->L2.w=w->L2.K=K->X.calm=true-> ∀(i:Nat)(pins:List (Addr×Obj))(s:Shared)(σ:St)(H:Hp)(E:Value->Shared->Prop),Inv X pins σ H s->(∀b∈fp,HP X pins H b)->tn i s.heap->J.go i H->
  wpAny (model P w) X.A (pyNext (.ref it)) (fun r s1=> ∃u,r=some u/\
   wpAny (model P w) X.A (letOwnedTupleGo tg (.ref it) u) (fun _ s2=> ∃x H',Inv X pins σ H' s2/\RelV x u/\J.Hi i H x H'/\tn (i+1) s2.heap/\ ∀b∈fp,H' b=none) E s1) E s
 done: ∀(X:Cx),L2.P=P->L2.w=w->L2.K=K->X.calm=true-> ∀(i:Nat)(pins:List (Addr×Obj))(s:Shared)(σ:St)(H:Hp)(E:Value->Shared->Prop),Inv X pins σ H s->(∀b∈fp,HP X pins H b)->tn i s.heap->J.stop i H->
  wpAny (model P w) X.A (pyNext (.ref it)) (fun r s1=>r=none/\Inv X pins σ H s1) E s
 self: ∀(A:Around)(i:Nat)(s:Shared)(Q:Value->Shared->Prop)(E:Value->Shared->Prop),tn i s.heap->Q (.ref it) s->wpAny (model P w) A (pyIter (.ref it)) Q E s
abbrev TI:=St->Hp->(It->Hp->Prop)->Prop
def cf(X:Cx)(pins:List (Addr×Obj))(σ:St)(tg:Expr)(R:It->Hp->Prop)(ZJ:Value)(s2:Shared):Prop:=
 ∃(it:Addr)(fp:List Addr)(tn:Nat->Heap->Prop)(J:It)(H':Hp),ZJ=.ref it/\Inv X pins σ H' s2/\Ju L2.P L2.w L2.K tg J fp it tn/\tn 0 s2.heap/\(∀b∈fp,HP X pins H' b)/\R J H'
def PI(X:Cx)(tg iter:Expr)(wi:TI):Prop:=
 ∀(pins:List (Addr×Obj))(s:Shared)(σ:St)(H:Hp)(R:It->Hp->Prop),Inv X pins σ H s->wi σ H R->
  wpAny (model L2.P L2.w) X.A (eval iter X.env) (fun v s1=>wpAny (model L2.P L2.w) X.A (pyIter v) (cf X pins σ tg R) X.xe s1) X.xe s
theorem O8(ho:s.heap.get? it=some o)(hc:o.cls=.type n)(hd:o.data=.fields vs)
 (hn:["enumerate","zip","dict_itemiterator","dict_reverseitemiterator","odict_iterator","itertools.zip_longest","itertools.pairwise"].contains n=false)(hQ:Q () s):wpAny M A (letOwnedTupleGo tg (.ref it) u) Q E s:=by
 unfold letOwnedTupleGo;cases tg<;>first
  |exact DD hQ
  | (cases u<;>first
      |exact DD hQ
      | (refine A4 (wpAny_load ho ?_)
         rw [hc,hd];show wpAny M A (if(["enumerate","zip","dict_itemiterator","dict_reverseitemiterator","odict_iterator","itertools.zip_longest","itertools.pairwise"].contains n&&vs[0]? ==some (rawInt _))=true then _ else _) Q E s;rw [AD (by intro h;rw [hn,RG]at h;cases h)];exact DD hQ))
noncomputable def Ks(K:Aj)(a:Addr):It:=
 ⟨fun i H=> ∃xs x,B0 K H a xs/\xs[i]? =some x,fun i H x H'=>H'=H/\ ∀xs,B0 K H a xs->xs[i]? =some x,fun i H=> ∃xs,B0 K H a xs/\xs.length<=i⟩
def O9(K:Aj)(a:Addr):It:=
 ⟨fun i H=> ∃xs x,B9 K H a xs/\xs[i]? =some x,fun i H x H'=>H'=H/\ ∀xs,B9 K H a xs->xs[i]? =some x,fun i H=> ∃xs,B9 K H a xs/\xs.length<=i⟩
def Itr(lo:Int)(n:Nat):It:=⟨fun i _=>i<n,fun i H x H'=>H'=H/\x=.int (lo+i),fun i _=>n<=i⟩
theorem rB{P:Program}{w:World}{K:Aj}{tg:Expr}(a it:Addr):Ju P w K tg (Ks K a) [it] it (fun i h=>h.IsListIter it a i) where
 mem:=by simp
 obj:=fun i h st b hb=>by
  have e:b=it:=by simpa using hb
  subst e;obtain⟨o,e,c,d⟩:=st;exact⟨o,e,fun v z=>by rw [d]at z;cases z⟩
 keep:=fun i h h' st k=>st.at fun o e=>k it (by simp) o e
 item:=by
  intro X hP hw hK hc i pins s σ H E I hf st hg;subst hP hw hK;obtain⟨xs,x,hq,hx⟩:=hg;obtain⟨AV,rv,p,hz⟩:=I.list hq;obtain⟨u,hu,ru⟩:=rv.get hx;obtain⟨f0,f1,f2,f3,f4,f5⟩:=hf it (by simp);refine wpAny_pyNext_list_item st p.isList (x:=u) (by simpa using hu) fun h' Em sb=>?_
  have I1:Inv X pins σ H {s with heap:=h'}:=I.turned (t':=s.toks) (fun b o hb e=>(sb.2 b hb).trans e) f0 f1 f3 f4 f5;obtain⟨o,e,c,d⟩:=id Em;exact⟨u,rfl,O8 (s:={s with heap:=h'}) e c d (by decide) ⟨x,H,I1,ru,⟨rfl,fun ys hy=>by rw [I.Um hy hq];exact hx⟩,Em,fun b hb=>(hf b hb).1⟩⟩
 done:=by
  intro X hP hw hK hc i pins s σ H E I hf st hg;subst hP hw hK;obtain⟨xs,hq,hx⟩:=hg;obtain⟨AV,rv,p,hz⟩:=I.list hq;obtain⟨f0,f1,f2,f3,f4,f5⟩:=hf it (by simp);have hl:=rv.length;exact wpAny_pyNext_list_end (I.ok.hd hc) st p.isList (by simp;lia) fun h' eb=>⟨rfl,I.turned (t':=s.toks) (fun b o hb e=>eb b o hb e) f0 f1 f3 f4 f5⟩
 self:=fun _ _ _ _ _ st h=>wpAny_pyIter_listiter st h
theorem rC{P:Program}{w:World}{K:Aj}{tg:Expr}(a it:Addr):Ju P w K tg (O9 K a) [it] it (fun i h=>h.IsTupleIter it a i) where
 mem:=by simp
 obj:=fun i h st b hb=>by
  have e:b=it:=by simpa using hb
  subst e;obtain⟨o,e,c,d⟩:=st;exact⟨o,e,fun v z=>by rw [d]at z;cases z⟩
 keep:=fun i h h' st k=>st.at fun o e=>k it (by simp) o e
 item:=by
  intro X hP hw hK hc i pins s σ H E I hf st hg;subst hP hw hK;obtain⟨xs,x,hq,hx⟩:=hg;obtain⟨AV,rv,p,hz⟩:=I.tuple hq;obtain⟨u,hu,ru⟩:=rv.get hx;obtain⟨f0,f1,f2,f3,f4,f5⟩:=hf it (by simp);refine wpAny_pyNext_tuple_item st (show s.heap.IsTuple a AV.toArray from p) (x:=u) (by simpa using hu) fun h' Em sb=>?_
  have I1:Inv X pins σ H {s with heap:=h'}:=I.turned (t':=s.toks) (fun b o hb e=>(sb.2 b hb).trans e) f0 f1 f3 f4 f5;obtain⟨o,e,c,d⟩:=id Em;exact⟨u,rfl,O8 (s:={s with heap:=h'}) e c d (by decide) ⟨x,H,I1,ru,⟨rfl,fun ys hy=>by rw [I.mI hy hq];exact hx⟩,Em,fun b hb=>(hf b hb).1⟩⟩
 done:=by
  intro X hP hw hK hc i pins s σ H E I hf st hg;subst hP hw hK;obtain⟨xs,hq,hx⟩:=hg;obtain⟨AV,rv,p,hz⟩:=I.tuple hq;obtain⟨f0,f1,f2,f3,f4,f5⟩:=hf it (by simp);have hl:=rv.length;exact wpAny_pyNext_tuple_end (I.ok.hd hc) st (show s.heap.IsTuple a AV.toArray from p) (by simp;lia) fun h' eb=>⟨rfl,I.turned (t':=s.toks) (fun b o hb e=>eb b o hb e) f0 f1 f3 f4 f5⟩
 self:=fun _ _ _ _ _ st h=>wpAny_pyIter_tupleiter st h
end L2
namespace L2
open PySem PySem.Spec PyProof.Rows
section
variable{X:Cx}{tg:Expr}
def WO(K:Aj)(tl:TE):TI:=fun σ H R=>tl σ H fun x H1=> ∃a,x=.ref a/\(∃xs,B0 K H1 a xs)/\R (Ks K a) H1
def rD(K:Aj)(tl:TE):TI:=fun σ H R=>tl σ H fun x H1=> ∃a,x=.ref a/\(∃xs,B9 K H1 a xs)/\R (O9 K a) H1
theorem NP(hl:PE X l tl):PI X tg l (WO L2.K tl):=by
 intro pins s σ H R I h;refine As (hl pins s σ H _ I h) fun v s1 ⟨x,H1,I1,r1,q1⟩=>?_
 obtain⟨a,e,⟨xs,hq⟩,q⟩:=q1;subst e;cases r1;obtain⟨AV,rv,p,hz⟩:=I1.list hq;refine oY p.isList ?_;refine⟨s1.heap.objs.size,[s1.heap.objs.size],_,_,H1,rfl,I1.kept (t':=s1.toks) fun b o e=>Ca _ e,rB a _,⟨_,Er _ rfl,rfl,rfl⟩,fun b hb=>?_,q⟩;have e:b=s1.heap.objs.size:=by simpa using hb
 subst e;exact I1.OL (BO _) (I1.Af.fresh (BO _))
theorem rF(hl:PE X l tl):PI X tg l (rD L2.K tl):=by
 intro pins s σ H R I h;refine As (hl pins s σ H _ I h) fun v s1 ⟨x,H1,I1,r1,q1⟩=>?_
 obtain⟨a,e,⟨xs,hq⟩,q⟩:=q1;subst e;cases r1;obtain⟨AV,rv,p,hz⟩:=I1.tuple hq;refine wpAny_pyIter_tuple (show s1.heap.IsTuple a AV.toArray from p) ?_;refine⟨s1.heap.objs.size,[s1.heap.objs.size],_,_,H1,rfl,I1.kept (t':=s1.toks) fun b o e=>Ca _ e,rC a _,⟨_,Er _ rfl,rfl,rfl⟩,fun b hb=>?_,q⟩;have e:b=s1.heap.objs.size:=by simpa using hb
 subst e;exact I1.OL (BO _) (I1.Af.fresh (BO _))
def rG(wi:TI)(g:TG)(tb:TS):TS:=fun D σ H=>wi σ H fun J H1=> ∃W:Nat->Nat->St->Hp->Prop,(∃m,W 0 m σ H1)/\ ∀i m σ H,W i m σ H->
 (J.stop i H/\D.nx σ H)\/(J.go i H/\ ∃N:St->Hp->Prop,(∀Ak H',N Ak H'-> ∃m',m'<m/\W (i+1) m' Ak H')/\ ∀x H',J.Hi i H x H'->g x σ H' fun A_ H2=>tb {D with nx:=N,ct:=N,bk:=D.nx} A_ H2)
noncomputable def O_(fp:List Addr)(h:Heap):List (Addr×Obj):=fp.filterMap fun b=>(h.get? b).map fun o=>(b,o)
theorem WQ(hb:b∈fp)(e:h.get? b=some o):(b,o)∈O_ fp h:=oZ.mpr ⟨b,hb,by rw [e];rfl⟩
theorem rH(hp:p∈O_ fp h):p.1∈fp/\h.get? p.1=some p.2:=by
 obtain⟨b,hb,e⟩:=oZ.mp hp;cases q:h.get? b with
 |none=>rw [q]at e;cases e
 |some o=>
  rw [q]at e;have e':(b,o)=p:=BQ e;subst e';exact⟨hb,q⟩
theorem Inv.pinned(I:Inv X pins σ H s)(hf: ∀b∈fp,HP X pins H b)(ho: ∀b∈fp,∃o,s.heap.get? b=some o/\ ∀v,o.data≠ .cell v):Inv X (pins++O_ fp s.heap) σ H s:=
 I.mC fun p hp=>(Hm.mp hp).elim (fun z=>I.pin p (Li _ z)) fun z=>by
  obtain⟨hb,e⟩:=rH z;obtain⟨f0,f1,f2,_⟩:=hf p.1 hb;obtain⟨o,e',d⟩:=ho p.1 hb;rw [e]at e';cases e';exact⟨e,f0,f1,f2,d⟩
theorem Inv.Uo(I:Inv X (pins++pl) σ H s):Inv X pins σ H s:=I.mC fun p hp=>I.pin p (Li _ (aV _ hp))
theorem JD(hp:PassesOwn (model L2.P L2.w) X.A X.env X.xe)(hc:X.calm=true)(hi:PI X tg iter wi)(hg:PG X tg g)(hb:Ee X body tb)
 (hs: ∀x,foldedSetIterable iter X.env x=pure x:=by intro _;rfl):PS X (.For tg iter body [] pos) (rG wi g tb):=by
 intro pins s σ H D I h;refine wpAny_For (As (hi pins s σ H _ I h) fun v s1 h1=>As h1 fun ZJ s2 h2=>?_) hs;obtain⟨it,fp,tn,J,H2,e,I2,T,Up,f2,W,⟨m0,w0⟩,BI⟩:=h2;subst e;have Mo: ∀{H':Hp},(∀b∈fp,H' b=none)-> ∀b∈fp,HP X pins H' b:=fun hn b hb=>⟨hn b hb,(f2 b hb).2⟩
 refine codeAny_forLoop_any (fun n s'=> ∃i Ak H',Inv X pins Ak H' s'/\tn i s'.heap/\(∀b∈fp,H' b=none)/\W i n Ak H') ?_ m0 ⟨0,σ,H2,I2,Up,fun b hb=>(f2 b hb).1,w0⟩;rintro n s3 ⟨i,Ia,H3,I3,Uq,mJ,w3⟩;rcases BI i n Ia H3 w3 with⟨stop,qn⟩|⟨go,N,hN,step⟩
 ·refine Oj hp (As (T.done X rfl rfl rfl hc i pins s3 Ia H3 X.xe I3 (Mo mJ) Uq stop) fun r s4 ⟨hr,I4⟩=>?_);subst hr;exact VN ⟨Ia,H3,I4,qn⟩
 ·refine Oj hp (As (T.item X rfl rfl rfl hc i pins s3 Ia H3 X.xe I3 (Mo mJ) Uq go) fun r s4 ⟨u,hr,h4⟩=>?_);subst hr;refine Oj hp (As h4 fun _ s5 ⟨x,H5,I5,r5,y5,OM,fr5⟩=>?_);have I5':=I5.pinned (Mo fr5) (T.obj _ _ OM);refine Oj hp (As (hg _ s5 Ia H5 x u _ I5' r5 (step x H5 y5)) fun _ s6 ⟨σ6,H6,I6,q6⟩=>?_);refine Oj hp (As (hb _ s6 σ6 H6 _ I6 q6) fun f s7 q7=>?_);have again: ∀{Ib:St}{H7:Hp},Inv X (pins++O_ fp s5.heap) Ib H7 s7->N Ib H7-> ∃m,m<n/\ ∃i Ak H',Inv X pins Ak H' s7/\tn i s7.heap/\(∀b∈fp,H' b=none)/\W i m Ak H':=fun {Ib H7} I7 n7=>by
   obtain⟨m',hm,w7⟩:=hN Ib H7 n7;refine⟨m',hm,i+1,Ib,H7,I7.Uo,T.keep _ _ _ OM fun b hb o e=>(I7.pin (b,o) (Li _ (Li _ (WQ hb e)))).1,fun b hb=>?_,w7⟩;obtain⟨o,e,d⟩:=T.obj _ _ OM b hb;exact(I7.pin (b,o) (Li _ (Li _ (WQ hb e)))).2.1
  cases f with
  |next=>obtain⟨Ib,H7,I7,n7⟩:=q7;exact again I7 n7
  |cont=>obtain⟨Ib,H7,I7,n7⟩:=q7;exact again I7 n7
  |brk=>obtain⟨Ib,H7,I7,q7⟩:=q7;exact⟨Ib,H7,I7.Uo,q7⟩
  |ret v=>obtain⟨x7,Ib,H7,I7,r7,q7⟩:=q7;exact⟨x7,Ib,H7,I7.Uo,r7,q7⟩
end
theorem cg{K:Aj}{a:Addr}{xs:List V}{g:TG}{tb:TS}{D:FE}{σ:St}{H:Hp}(Pv:Nat->St->Hp->Prop)(h0:Pv 0 σ H)(hl: ∀i σ H,i<=xs.length->Pv i σ H->B0 K H a xs)
 (hs: ∀i x σ H,xs[i]? =some x->Pv i σ H->g x σ H fun A_ H2=>tb {D with nx:=Pv (i+1),ct:=Pv (i+1),bk:=D.nx} A_ H2)(hd: ∀σ H,Pv xs.length σ H->D.nx σ H):
 ∃W:Nat->Nat->St->Hp->Prop,(∃m,W 0 m σ H)/\ ∀i m σ H,W i m σ H->
  ((Ks K a).stop i H/\D.nx σ H)\/((Ks K a).go i H/\ ∃N:St->Hp->Prop,(∀Ak H',N Ak H'-> ∃m',m'<m/\W (i+1) m' Ak H')/\ ∀x H',(Ks K a).Hi i H x H'->g x σ H' fun A_ H2=>tb {D with nx:=N,ct:=N,bk:=D.nx} A_ H2):=by
 refine⟨fun i m σ H=>m=xs.length-i/\i<=xs.length/\Pv i σ H,⟨xs.length,by simp,DM _,h0⟩,?_⟩;rintro i m σ H ⟨rfl,hi,p⟩;have q:=hl i σ H hi p;by_cases Bk:i<xs.length
 ·refine .inr ⟨⟨xs,xs[i],q,by simp [Bk]⟩,Pv (i+1),fun Ak H' p'=>⟨xs.length-(i+1),by lia,rfl,Bk,p'⟩,fun x H' y=>?_⟩;obtain⟨e,y⟩:=y;subst e;exact hs i x σ _ (y xs q) p
 ·have e:i=xs.length:=by lia
  subst e;exact .inl ⟨⟨xs,q,BO _⟩,hd σ H p⟩
theorem rJ{K:Aj}{a:Addr}{xs:List V}{g:TG}{tb:TS}{D:FE}{σ:St}{H:Hp}(Pv:Nat->St->Hp->Prop)(h0:Pv 0 σ H)(hl: ∀i σ H,i<=xs.length->Pv i σ H->B9 K H a xs)
 (hs: ∀i x σ H,xs[i]? =some x->Pv i σ H->g x σ H fun A_ H2=>tb {D with nx:=Pv (i+1),ct:=Pv (i+1),bk:=D.nx} A_ H2)(hd: ∀σ H,Pv xs.length σ H->D.nx σ H):
 ∃W:Nat->Nat->St->Hp->Prop,(∃m,W 0 m σ H)/\ ∀i m σ H,W i m σ H->
  ((O9 K a).stop i H/\D.nx σ H)\/((O9 K a).go i H/\ ∃N:St->Hp->Prop,(∀Ak H',N Ak H'-> ∃m',m'<m/\W (i+1) m' Ak H')/\ ∀x H',(O9 K a).Hi i H x H'->g x σ H' fun A_ H2=>tb {D with nx:=N,ct:=N,bk:=D.nx} A_ H2):=by
 refine⟨fun i m σ H=>m=xs.length-i/\i<=xs.length/\Pv i σ H,⟨xs.length,by simp,DM _,h0⟩,?_⟩;rintro i m σ H ⟨rfl,hi,p⟩;have q:=hl i σ H hi p;by_cases Bk:i<xs.length
 ·refine .inr ⟨⟨xs,xs[i],q,by simp [Bk]⟩,Pv (i+1),fun Ak H' p'=>⟨xs.length-(i+1),by lia,rfl,Bk,p'⟩,fun x H' y=>?_⟩;obtain⟨e,y⟩:=y;subst e;exact hs i x σ _ (y xs q) p
 ·have e:i=xs.length:=by lia
  subst e;exact .inl ⟨⟨xs,q,BO _⟩,hd σ H p⟩
theorem PB(Pv:St->Hp->Prop)(μ:St->Hp->Nat)(h0:Pv σ H)
 (hs: ∀σ H,Pv σ H->c σ H fun b H1=>if b=true then tb {D with nx:=fun Ak H'=>Pv Ak H'/\μ Ak H'<μ σ H,ct:=fun Ak H'=>Pv Ak H'/\μ Ak H'<μ σ H,bk:=D.nx} σ H1 else D.nx σ H1)
 (mono: ∀σ H Q Q',(∀b H1,Q b H1->Q' b H1)->c σ H Q->c σ H Q'):cZ c tb D σ H:=by
 refine⟨fun m σ H=>m=μ σ H/\Pv σ H,⟨_,rfl,h0⟩,?_⟩;rintro m σ H ⟨rfl,p⟩;refine mono σ H _ _ (fun b H1 q=>?_) (hs σ H p);cases b with
 |true=>exact⟨_,fun Ak H' ⟨p',l⟩=>⟨_,l,rfl,p'⟩,q⟩
 |false=>exact q
end L2
namespace L2
open PySem PySem.Spec PyProof.Rows
abbrev R2:=V->V->Hp->VK->Prop
def DP(X:Cx)(f:Value->Value->Sem Value)(r:R2):Prop:=
 ∀(pins:List (Addr×Obj))(s:Shared)(σ:St)(H:Hp)(x y:V)(v u:Value)(Q:VK),Inv X pins σ H s->RelV x v->RelV y u->r x y H Q->
  wpAny (model L2.P L2.w) X.A (f v u) (EP X pins σ Q) X.xe s
def Rx(X:Cx)(f:Value->Sem Value)(r:V->Hp->VK->Prop):Prop:=
 ∀(pins:List (Addr×Obj))(s:Shared)(σ:St)(H:Hp)(x:V)(v:Value)(Q:VK),Inv X pins σ H s->RelV x v->r x H Q->
  wpAny (model L2.P L2.w) X.A (f v) (EP X pins σ Q) X.xe s
def GY(X:Cx)(f:Value)(r:List V->Hp->VK->Prop):Prop:=
 ∀(pins:List (Addr×Obj))(s:Shared)(σ:St)(H:Hp)(xs:List V)(us:List Value)(Q:VK),Inv X pins σ H s->BM xs us->r xs H Q->
  wpAny (model L2.P L2.w) X.A (call f us) (EP X pins σ Q) X.xe s
def Br(r:R2)(ta tb:TE):TE:=fun σ H Q=>ta σ H fun x H1=>tb σ H1 fun y H2=>r x y H2 Q
def cj(r:V->Hp->VK->Prop)(ta:TE):TE:=fun σ H Q=>ta σ H fun x H1=>r x H1 Q
def rI(C:Int->Int->Prop)(g:Int->Int->V):R2:=fun x y H Q=> ∃i j,x=.int i/\y=.int j/\C i j/\Q (g i j) H
def Dv(g:Int->Int->V):R2:=fun x y H Q=> ∃i j,x=.int i/\y=.int j/\Q (g i j) H
def rU(g:Int->V):V->Hp->VK->Prop:=fun x H Q=> ∃i,x=.int i/\Q (g i) H
section
variable{X:Cx}{a b c:Expr}{ta tb tc:TE}{pos:Pos}
theorem WR(ha:PE X a ta)(hb:PE X b tb){pins:List (Addr×Obj)}{s:Shared}{σ:St}{H:Hp}{R:V->V->Hp->Prop}(I:Inv X pins σ H s)
 (h:ta σ H fun x H1=>tb σ H1 fun y H2=>R x y H2){Q:Value->Shared->Prop}{f:Value->Value->Sem Value}
 (hf: ∀v u s2 x y H2,Inv X pins σ H2 s2->RelV x v->RelV y u->R x y H2->wpAny (model L2.P L2.w) X.A (f v u) Q X.xe s2):
 wpAny (model L2.P L2.w) X.A (eval a X.env) (fun v Bl=>wpAny (model L2.P L2.w) X.A (eval b X.env) (fun u E6=>wpAny (model L2.P L2.w) X.A (f v u) Q X.xe E6) X.xe Bl) X.xe s:=by
 refine As (ha pins s σ H _ I h) fun v s1 ⟨x,H1,I1,r1,q1⟩=>?_
 refine As (hb pins s1 σ H1 _ I1 q1) fun u s2 ⟨y,H2,I2,r2,q2⟩=>?_
 exact hf v u s2 x y H2 I2 r1 r2 q2
theorem AK(ho:DP X (binaryOp op) r)(ha:PE X a ta)(hb:PE X b tb):PE X (.BinOp a op b pos) (Br r ta tb):=by
 intro pins s σ H Q I h;exact wpAny_BinOp (WR ha hb I h fun v u s2 x y H2 I2 rx ry q=>ho pins s2 σ H2 x y v u Q I2 rx ry q)
theorem Eu(ho:Rx X (unaryOp op) r)(ha:PE X a ta):PE X (.UnaryOp op a pos) (cj r ta):=by
 intro pins s σ H Q I h;exact UnaryOp_ (As (ha pins s σ H _ I h) fun v s1 ⟨x,H1,I1,r1,q1⟩=>ho pins s1 σ H1 x v Q I1 r1 q1)
theorem PD{f:Value->Value->Sem Value}{C:Int->Int->Prop}{g:Int->Int->Int}
 (rule: ∀(i j:Int)(t u:Tok)(s:Shared)(Q:Value->Shared->Prop)(E:Value->Shared->Prop),C i j->Q (.int (g i j) s.toks) {s with toks:=s.toks+1}->wpAny (model L2.P L2.w) X.A (f (.int i t) (.int j u)) Q E s):
 DP X f (rI C fun i j=>.int (g i j)):=by
 intro pins s σ H x y v u Q I rx ry h;obtain⟨i,j,rfl,rfl,hc,q⟩:=h;obtain⟨t,rfl⟩:=rx;obtain⟨t',rfl⟩:=ry;exact rule i j t t' s _ _ hc ⟨.int (g i j),H,I.tok _,⟨_,rfl⟩,q⟩
theorem PH{f:Value->Value->Sem Value}{g:Int->Int->Int}
 (rule: ∀(i j:Int)(t u:Tok)(s:Shared)(Q:Value->Shared->Prop)(E:Value->Shared->Prop),Q (.int (g i j) s.toks) {s with toks:=s.toks+1}->wpAny (model L2.P L2.w) X.A (f (.int i t) (.int j u)) Q E s):
 DP X f (Dv fun i j=>.int (g i j)):=by
 intro pins s σ H x y v u Q I rx ry h;obtain⟨i,j,rfl,rfl,q⟩:=h;obtain⟨t,rfl⟩:=rx;obtain⟨t',rfl⟩:=ry;exact rule i j t t' s _ _ ⟨.int (g i j),H,I.tok _,⟨_,rfl⟩,q⟩
theorem Ry{f:Value->Value->Sem Value}{g:Int->Int->Bool}
 (rule: ∀(i j:Int)(t u:Tok)(s:Shared)(Q:Value->Shared->Prop)(E:Value->Shared->Prop),Q (.bool (g i j)) s->wpAny (model L2.P L2.w) X.A (f (.int i t) (.int j u)) Q E s):
 DP X f (Dv fun i j=>.bl (g i j)):=by
 intro pins s σ H x y v u Q I rx ry h;obtain⟨i,j,rfl,rfl,q⟩:=h;obtain⟨t,rfl⟩:=rx;obtain⟨t',rfl⟩:=ry;exact rule i j t t' s _ _ ⟨.bl (g i j),H,I,rfl,q⟩
theorem rK(k:Nat):(0:Int)<=2^k:=by
 rw [two_pow_cast];exact CI _
theorem BX:DP X (binaryOp .Add) (Dv fun i j=>.int (i+j)):=PH fun _ _ _ _ _ _ _ q=>add_int q
theorem BP:DP X (binaryOp .Sub) (Dv fun i j=>.int (i-j)):=PH fun _ _ _ _ _ _ _ q=>sub_int q
theorem Jv:DP X (binaryOp .Mod) (rI (fun _ j=>0<j) fun i j=>.int (i%j)):=PD fun i j _ _ _ _ _ hc q=>by
 have h1:(0:Int) <j:=hc;exact mod_int' (by lia) (by rw [Int.fmod_eq_emod_of_nonneg i (by lia)];exact q)
theorem GZ:DP X (binaryOp .RShift) (rI (fun _ j=>0<=j) fun i j=>.int (i/2^j.toNat)):=PD fun i j _ _ _ _ _ hc q=>
 rshift_int hc (by rw [AFN i (rK _)];exact q)
theorem EH:DP X (binaryOp .BitAnd) (Dv fun i j=>.int (D0 i j)):=PH fun _ _ _ _ _ _ _ q=>and_int q
theorem JE:DP X (binaryOp .BitOr) (Dv fun i j=>.int (Lj i j)):=PH fun _ _ _ _ _ _ _ q=>or_int q
theorem NQ:DP X (binaryOp .BitXor) (Dv fun i j=>.int (Mz i j)):=PH fun _ _ _ _ _ _ _ q=>xor_int q
theorem ck{f:Value->Sem Value}{g:Int->Int}
 (rule: ∀(i:Int)(t:Tok)(s:Shared)(Q:Value->Shared->Prop)(E:Value->Shared->Prop),Q (.int (g i) s.toks) {s with toks:=s.toks+1}->wpAny (model L2.P L2.w) X.A (f (.int i t)) Q E s):
 Rx X f (rU fun i=>.int (g i)):=by
 intro pins s σ H x v Q I rx h;obtain⟨i,rfl,q⟩:=h;obtain⟨t,rfl⟩:=rx;exact rule i t s _ _ ⟨.int (g i),H,I.tok _,⟨_,rfl⟩,q⟩
theorem FG:Rx X (unaryOp .USub) (rU fun i=>.int (-i)):=ck fun _ _ _ _ _ q=>neg_int q
theorem rL:Rx X (unaryOp .Invert) (rU fun i=>.int (RH i)):=ck fun _ _ _ _ _ q=>invert_int q
end
noncomputable def cn:V->V->Bool
 |.BZ,.BZ=>true|.BZ,.int _=>true|.int _,.BZ=>true|.BZ,.bl _=>true|.bl _,.BZ=>true|.BZ,.str _=>true|.str _,.BZ=>true
 |.int _,.int _=>true|.bl _,.bl _=>true|.str _,.str _=>true|.E5 _,.E5 _=>true
 |.int _,.str _=>true|.str _,.int _=>true|.bl _,.str _=>true|.str _,.bl _=>true
 |_,_=>false
def PJ:R2:=fun x y H Q=>cn x y=true/\Q (.bl (decide (x=y))) H
def cp:R2:=fun x y H Q=>cn x y=true/\Q (.bl (!decide (x=y))) H
theorem cq:decide (V.int i=V.int j)=(i==j):=by
 rw [Hn];simp
theorem cu:decide (V.bl i=V.bl j)=(i==j):=by
 rw [Hn];simp
theorem cv:decide (V.str i=V.str j)=(i==j):=by
 rw [Hn];simp
theorem cw:decide (V.E5 i=V.E5 j)=(i.toList==j.toList):=by
 rw [Hn];cases i;cases j;simp
section
variable{X:Cx}{a b c:Expr}{ta tb tc:TE}{pos:Pos}
theorem Cz(I:Inv X pins σ H s)(q:Q (.bl k) H)(e:k=k'):EP X pins σ Q (.bool k') s:=by
 subst e;exact⟨.bl k,H,I,rfl,q⟩
theorem Ae:DP X (compareOp .Eq) PJ:=by
 intro pins s σ H x y v u Q I rx ry h;obtain⟨hs,q⟩:=h;cases x with
 |BZ=>
  cases rx;cases y with
  |BZ=>cases ry;exact PySem.EqNone.eq_none_none (Cz I q (by simp))
  |bl j=>cases ry;exact PySem.EqNone.eq_none_bool (Cz I q (by simp))
  |int j=>obtain⟨t',rfl⟩:=ry;exact PySem.EqNone.eq_none_int (Cz I q (by simp))
  |str j=>obtain⟨t',rfl⟩:=ry;exact PySem.EqNone.eq_none_str (Cz I q (by simp))
  |_=>exact absurd (show false=true from hs) F0
 |bl i=>
  cases rx;cases y with
  |BZ=>cases ry;exact PySem.EqNone.eq_bool_none (Cz I q (by simp))
  |bl j=>cases ry;exact eq_bool (Cz I q cu)
  |str j=>obtain⟨t',rfl⟩:=ry;exact PySem.EqMixed.eq_bool_str (Cz I q (by simp))
  |_=>exact absurd (show false=true from hs) F0
 |int i=>
  obtain⟨t,rfl⟩:=rx;cases y with
  |BZ=>cases ry;exact PySem.EqNone.eq_int_none (Cz I q (by simp))
  |int j=>obtain⟨t',rfl⟩:=ry;exact eq_int (Cz I q cq)
  |str j=>obtain⟨t',rfl⟩:=ry;exact PySem.EqMixed.eq_int_str (Cz I q (by simp))
  |_=>exact absurd (show false=true from hs) F0
 |str i=>
  obtain⟨t,rfl⟩:=rx;cases y with
  |BZ=>cases ry;exact PySem.EqNone.eq_str_none (Cz I q (by simp))
  |bl j=>cases ry;exact PySem.EqMixed.eq_str_bool (Cz I q (by simp))
  |int j=>obtain⟨t',rfl⟩:=ry;exact PySem.EqMixed.eq_str_int (Cz I q (by simp))
  |str j=>obtain⟨t',rfl⟩:=ry;exact eq_str (Cz I q cv)
  |_=>exact absurd (show false=true from hs) F0
 |E5 i=>
  obtain⟨t,rfl⟩:=rx;cases y with
  |E5 j=>obtain⟨t',rfl⟩:=ry;exact PySem.W.eq_bytes (Cz I q cw)
  |_=>exact absurd (show false=true from hs) F0
 |_=>cases y<;>exact absurd (show false=true from hs) F0
theorem L7:DP X (compareOp .NotEq) cp:=by
 intro pins s σ H x y v u Q I rx ry h;obtain⟨hs,q⟩:=h;cases x with
 |BZ=>
  cases rx;cases y with
  |BZ=>cases ry;exact PySem.EqNone.ne_none_none (Cz I q (by simp))
  |bl j=>cases ry;exact PySem.EqNone.ne_none_bool (Cz I q (by simp))
  |int j=>obtain⟨t',rfl⟩:=ry;exact PySem.EqNone.ne_none_int (Cz I q (by simp))
  |str j=>obtain⟨t',rfl⟩:=ry;exact PySem.EqNone.ne_none_str (Cz I q (by simp))
  |_=>exact absurd (show false=true from hs) F0
 |bl i=>
  cases rx;cases y with
  |BZ=>cases ry;exact PySem.EqNone.ne_bool_none (Cz I q (by simp))
  |bl j=>cases ry;exact ne_bool (Cz I q (congrArg not cu))
  |str j=>obtain⟨t',rfl⟩:=ry;exact PySem.EqMixed.ne_bool_str (Cz I q (by simp))
  |_=>exact absurd (show false=true from hs) F0
 |int i=>
  obtain⟨t,rfl⟩:=rx;cases y with
  |BZ=>cases ry;exact PySem.EqNone.ne_int_none (Cz I q (by simp))
  |int j=>obtain⟨t',rfl⟩:=ry;exact ne_int (Cz I q (congrArg not cq))
  |str j=>obtain⟨t',rfl⟩:=ry;exact PySem.EqMixed.ne_int_str (Cz I q (by simp))
  |_=>exact absurd (show false=true from hs) F0
 |str i=>
  obtain⟨t,rfl⟩:=rx;cases y with
  |BZ=>cases ry;exact PySem.EqNone.ne_str_none (Cz I q (by simp))
  |bl j=>cases ry;exact PySem.EqMixed.ne_str_bool (Cz I q (by simp))
  |int j=>obtain⟨t',rfl⟩:=ry;exact PySem.EqMixed.ne_str_int (Cz I q (by simp))
  |str j=>obtain⟨t',rfl⟩:=ry;exact ne_str (Cz I q (congrArg not cv))
  |_=>exact absurd (show false=true from hs) F0
 |E5 i=>
  obtain⟨t,rfl⟩:=rx;cases y with
  |E5 j=>obtain⟨t',rfl⟩:=ry;exact PySem.W.ne_bytes (Cz I q (congrArg not cw))
  |_=>exact absurd (show false=true from hs) F0
 |_=>cases y<;>exact absurd (show false=true from hs) F0
theorem Fo:DP X (compareOp .Lt) (Dv fun i j=>.bl (decide (i<j))):=Ry fun _ _ _ _ _ _ _ q=>lt_int q
theorem PK:DP X (compareOp .LtE) (Dv fun i j=>.bl (decide (i<=j))):=Ry fun _ _ _ _ _ _ _ q=>le_int q
theorem Ef:DP X (compareOp .Gt) (Dv fun i j=>.bl (decide (j<i))):=Ry fun _ _ _ _ _ _ _ q=>gt_int q
theorem L8:DP X (compareOp .GtE) (Dv fun i j=>.bl (decide (j<=i))):=Ry fun _ _ _ _ _ _ _ q=>ge_int q
theorem rM:DP X (compareOp .In) (fun x y H Q=> ∃i j,x=.str i/\y=.str j/\Q (.bl (!(oa j i 0 j.length 1).isEmpty)) H):=by
 intro pins s σ H x y v u Q I rx ry h;obtain⟨i,j,rfl,rfl,q⟩:=h;obtain⟨t,rfl⟩:=rx;obtain⟨t',rfl⟩:=ry;exact in_str (Cz I q rfl)
theorem cy(b:Expr)(h:op≠ .In:=by decide)(h2:op≠ .NotIn:=by decide):behindInMarks op b=false:=by
 have e1:(op==CmpOp.In)=false:=by cases op<;>first|rfl|exact absurd rfl h
 have e2:(op==CmpOp.NotIn)=false:=by cases op<;>first|rfl|exact absurd rfl h2
 cases b<;>simp [behindInMarks,e1,e2]
theorem C0(ho:DP X (compareOp op) r)(ha:PE X a ta)(hb:PE X b tb)(hm:behindInMarks op b=false:=by exact cy _):PE X (.Compare a [op] [b] pos) (Br r ta tb):=by
 intro pins s σ H Q I h;exact wpAny_Compare1 (WR ha hb I h fun v u s2 x y H2 I2 rx ry q=>ho pins s2 σ H2 x y v u Q I2 rx ry q) hm
def JF(t:TE):TT:=fun σ H Q=>t σ H fun x H'=> ∃k,x=.bl k/\Q k H'
theorem AX(ho:DP X (compareOp op) r)(ha:PE X a ta)(hb:PE X b tb)(hm:behindInMarks op b=false:=by exact cy _):PT X (.Compare a [op] [b] pos) (JF (Br r ta tb)):=by
 intro pins s σ H Q I h;refine wpAny_isTrue_Compare1 (As (ha pins s σ H _ I h) fun v s1 ⟨x,H1,I1,r1,q1⟩=>As (hb pins s1 σ H1 _ I1 q1) fun u s2 ⟨y,H2,I2,r2,q2⟩=>
  As (ho pins s2 σ H2 x y v u _ I2 r1 r2 q2) fun c s3 ⟨z,H3,I3,r3,k,e,q3⟩=>?_) hm
 subst e;cases r3;exact RF ⟨H3,I3,q3⟩
theorem NR:(sizeLine:Nat) <2^63:=by rw [sizeLine_eq];decide
theorem G0:DP X (binaryOp .Add) (fun x y H Q=> ∃i j,x=.str i/\y=.str j/\i.length+j.length<=sizeLine/\Q (.str (i++j)) H):=by
 intro pins s σ H x y v u Q I rx ry h;obtain⟨i,j,rfl,rfl,hz,q⟩:=h;obtain⟨t,rfl⟩:=rx;obtain⟨t',rfl⟩:=ry;exact add_str (fun t' tk=>⟨.str (i++j),H,I.tok _,⟨_,rfl⟩,q⟩) hz
theorem vals1(r:BM [x] us): ∃u,us=[u]/\RelV x u:=by
 cases r with
 |cons r1 r2=>cases r2;exact⟨_,rfl,r1⟩
theorem vals2(r:BM [x,y] us): ∃u w',us=[u,w']/\RelV x u/\RelV y w':=by
 cases r with
 |cons r1 r2=>
  cases r2 with
  |cons r3 r4=>cases r4;exact⟨_,_,rfl,r1,r3⟩
theorem Rz:GY X (.builtin "abs") (fun xs H Q=> ∃i,xs=[.int i]/\Q (.int (if i<0 then -i else i)) H):=by
 intro pins s σ H xs us Q I r h;obtain⟨i,rfl,q⟩:=h;obtain⟨u,rfl,t,rfl⟩:=vals1 r;exact call_abs_int fun u tk=>⟨.int (if i<0 then -i else i),H,I.tok _,⟨_,rfl⟩,q⟩
theorem R0(hc:X.calm=true):GY X (.builtin "max") (fun xs H Q=> ∃i j,xs=[.int i,.int j]/\Q (.int (if j>i then j else i)) H):=by
 intro pins s σ H xs us Q I r h;obtain⟨i,j,rfl,q⟩:=h;obtain⟨u,w',rfl,⟨t,rfl⟩,⟨t',rfl⟩⟩:=vals2 r;refine max_two_ints (I.ok.hd hc) fun h' tk k=>⟨_,H,I.kept k,?_,q⟩
 by_cases hj:j>i
 ·rw [AG hj,AG hj];exact⟨_,rfl⟩
 ·rw [AD hj,AD hj];exact⟨_,rfl⟩
theorem WS(hc:X.calm=true):GY X (.builtin "min") (fun xs H Q=> ∃i j,xs=[.int i,.int j]/\Q (.int (if j<i then j else i)) H):=by
 intro pins s σ H xs us Q I r h;obtain⟨i,j,rfl,q⟩:=h;obtain⟨u,w',rfl,⟨t,rfl⟩,⟨t',rfl⟩⟩:=vals2 r;refine min_two_ints (I.ok.hd hc) fun h' tk k=>⟨_,H,I.kept k,?_,q⟩
 by_cases hj:j<i
 ·rw [AG hj,AG hj];exact⟨_,rfl⟩
 ·rw [AD hj,AD hj];exact⟨_,rfl⟩
theorem cz:GY X (.builtin "ord") (fun xs H Q=> ∃x,xs=[.str x]/\x.length=1/\Q (.int (x.cps.getD 0 0:Nat)) H):=by
 intro pins s σ H xs us Q I r h;obtain⟨x,rfl,hz,q⟩:=h;obtain⟨u,rfl,t,rfl⟩:=vals1 r;exact ord_of_one hz ⟨.int _,H,I.tok _,⟨_,rfl⟩,q⟩
end
end L2
namespace L2
open PySem PySem.Spec PyProof.Rows
structure NS(h:Heap)(x dx C:Addr)(mA:Str->Option Value):Prop where
 obj:h.get? x=some (Mx C dx)
 ns:h.Ns1 dx mA
 ne:dx≠x
set_option tactic.hygienic true in
theorem rN{h:Heap}{dx:Addr}{mA:Str->Option Value}(n:h.Ns1 dx mA): ∃od,h.get? dx=some od/\ ∀name,aW name od=some (mA name):=by
 obtain⟨o,es,ep,ho,hd,hk,_,hm⟩:=n;refine⟨o,ho,fun name=>?_⟩;have e:=hm name;unfold nsFind findBy at e;rw [<-Array.find?_toList]at e;unfold aW;rw [hd];dsimp only;split
 ·rename_i y q;rw [q]at e;exact congrArg some e
 ·rename_i q;rw [q]at e;have a:es.toList.any (·.refKey)=false:=by
   rw [List.any_eq_false];intro y hy;obtain⟨z,t,AEf⟩:=hk y (AFO.mp hy);simp [DictEntry.refKey,AEf]
  have a': ¬es.toList.any (·.refKey)=true:=by rw [a];exact F0
  rw [AD a'];exact congrArg some e
theorem NS.look(I:NS h x dx C mA): ∃od,PySem.W.InstAt h x (Mx C dx) C (some od)/\ ∀name,aW name od=some (mA name):=
 let⟨od,ho,hl⟩:=rN I.ns
 ⟨od,⟨I.obj,rfl,rfl,ho⟩,hl⟩
section
variable{prog:Program}{w:World}{A:Around}{E:Value->Shared->Prop}{s:Shared}{K:Aj}{x dx C f:Addr}{mA:Str->Option Value}{name:Str}{v:Value}
theorem rO(X:K.In s.heap)(I:NS s.heap x dx C mA)(hg:VO K C name=true)(hh:aX K C=true)
 (ha:Ho K (.ref C) name=some none)(hv:mA name=some v)(Ur:AFP v=true)(h:Q v {s with toks:=s.toks+1}):
 wpAny (model prog w) A (getAttr (.ref x) name expr) Q E s:=by
 obtain⟨od,J,hl⟩:=I.look;exact PySem.W.get_value X J (og hg).1 (PySem.W.findObj_own hh ha rfl (by rw [hl,hv])) Ur h
theorem rP(X:K.In s.heap)(I:NS s.heap x dx C mA)(hg:VO K C name=true)
 (hf:Ho K (.ref C) name=some (some (.ref f)))(ht:VP K (.ref f)=true)(hv:mA name=none)(h:Q (.ref f,[.ref x]) s):
 wpAny (model prog w) A (getMethod (.ref x) name pl) Q E s:=by
 obtain⟨od,J,hl⟩:=I.look;exact PySem.W.method_fn X J (og hg).1 (og hg).2 hf (GP.mp ht) (by show(aW name od).map (·.isSome)=some false;rw [hl,hv];rfl) h
theorem rQ(X:K.In s.heap)(I:NS s.heap x dx C mA)
 (hs:Ho K (.ref C) "__setattr__"=some (some (.builtin "object.__setattr__")))(hp:oh K C=true)(ht:oj K C name=some none)(hh:aX K C=true)
 (hw:oS mA ns)(hsz:ns.length<=sizeLine)
 (h: ∀h',NS h' x dx C (fun y=>if y=name then some v else mA y)->VJ dx s.heap h'->Q () {s with heap:=h',toks:=s.toks+2}):
 wpAny (model prog w) A (setAttr (.ref x) name v) Q E s:=by
 obtain⟨od,J,hl⟩:=I.look;refine PySem.W.set_plain X J hs (PySem.W.osa_open (s:={s with toks:=s.toks+1}) (r:=none) X J hp ht fun b=>?_);obtain⟨cd,hc,Qe⟩:=PySem.W.any_some hh;have hx:s.heap.get? x=some ⟨.ref C,some dx,.plain, #[]⟩:=I.obj;refine A4 (DD (A4 (A4 (wpAny_loadPart hx (A4 (PySem.W.Looks.here (s:={s with toks:=s.toks+1}) (PySem.W.looks_clsIn X hc) ?_))))));rw [Qe];refine DD (a:=some dx) (A4 (DD (A4 ?_)));refine wpAny_nsSet1 (s:={s with toks:=s.toks+1}) I.ns fun h' mK mL=>?_
 obtain⟨oD,esD,epD,hoD,hdD,hcD⟩:=mK.count (PySem.Within.cons name v hw);refine A4 (wpAny_lookBehind hoD (by rw [hdD];exact pastItsLine_dict (A9 hcD (by rw [BU];lia))) ?_);exact DD (h _ ⟨(mL.2 _ (Ne.symm I.ne)).trans I.obj,mK,I.ne⟩ mL)
theorem rR(X:K.In s.heap)(hm:om K C=true)
 (hi:Ho K (.ref C) "__init__"=some (some (.ref f)))(hf:PySem.W.typeIn K (.ref f)=some (.type "function"))
 (h:codeAny (model prog w) (A.under (.builtin "type.__call__" ⟨.ref C::vs,kw⟩)) (.call (.ref f) ⟨.ref (s.heap.objs.size+1)::vs,kw⟩) (PySem.W.InitBack (s.heap.objs.size+1) R)
   {s with heap:=(s.heap.push Lk).push (Mx C s.heap.objs.size)}):
 codeAny (model prog w) A (.call (.ref C) ⟨vs,kw⟩) R s:=by
 obtain⟨hh,g,d,t,os⟩:=s;exact PySem.W.make_core (PySem.W.makes_of X hm) (PySem.W.looks_findIn X hi) (fun self=>PySem.W.bind_fn X self hf) (.inl rfl) h
end
noncomputable def C6(f:Str)(v:V):List (Str×V)->List (Str×V)
 | []=>[(f,v)]
 | (g,x)::r=>if g=f then(g,v)::r else(g,x)::C6 f v r
theorem DJ(f g:Str)(v:V): ∀fs:List (Str×V),(C6 f v fs).lookup g=if g=f then some v else fs.lookup g
 | []=>by
  show M0 g [(f,v)]=_;by_cases h:g=f
  ·have hb:(g==f)=true:=GP.mpr h;simp only [M0,hb,AG h]
  ·have hb:(g==f)=false:=KY.mpr h;simp only [M0,hb,AD h]
 | (k,x)::r=>by
  have ih:=DJ f g v r;rw [show C6 f v ((k,x)::r)=(if k=f then(k,v)::r else(k,x)::C6 f v r)from rfl];by_cases hk:k=f
  ·rw [AG hk];by_cases h:g=k
   ·have hb:(g==k)=true:=GP.mpr h;simp only [M0,hb,AG (h.trans hk)]
   ·have hb:(g==k)=false:=KY.mpr h;simp only [M0,hb,AD (fun e:g=f=>h (e.trans hk.symm))]
  ·rw [AD hk];by_cases h:g=k
   ·have hb:(g==k)=true:=GP.mpr h;simp only [M0,hb,AD (fun e:g=f=>hk (h.symm.trans e))]
   ·have hb:(g==k)=false:=KY.mpr h;simp only [M0,hb];exact ih
theorem WT(f:Str)(v:V): ∀fs:List (Str×V),f∈(C6 f v fs).map (·.1)/\ ∀g,g∈fs.map (·.1)->g∈(C6 f v fs).map (·.1)
 | []=>⟨by simp [C6],fun g h=>by simp at h⟩
 | (k,x)::r=>by
  obtain⟨i1,i2⟩:=WT f v r;rw [show C6 f v ((k,x)::r)=(if k=f then(k,v)::r else(k,x)::C6 f v r)from rfl];by_cases hk:k=f
  ·rw [AG hk];subst hk;exact⟨by simp,fun g h=>by simpa using h⟩
  ·rw [AD hk];refine⟨?_,fun g h=>?_⟩
   ·rw [Fj];exact Dn _ i1
   ·rw [Fj]at h⊢;rcases DL.mp h with e|e
    ·exact DL.mpr (.inl e)
    ·exact Dn _ (i2 g e)
theorem c7(f:Str)(v:V): ∀fs:List (Str×V),(C6 f v fs).length<=fs.length+1
 | []=>by simp [C6]
 | (k,x)::r=>by
  have ih:=c7 f v r;rw [show C6 f v ((k,x)::r)=(if k=f then(k,v)::r else(k,x)::C6 f v r)from rfl];by_cases hk:k=f
  ·rw [AG hk,BU,BU];lia
  ·rw [AD hk,BU,BU];lia
theorem lY(r:JB (some v) o): ∃u,o=some u/\RelV v u:=by
 cases o with
 |none=>exact(show False from r).elim
 |some u=>exact⟨u,rfl,r⟩
theorem AER(r:JB none o):o=none:=by
 cases o with
 |none=>rfl
 |some u=>exact(show False from r).elim
theorem rS{v:V}{u:Value}(r:RelV v u):AFP u=true:=by
 cases v with
 |BZ=>cases (show u=RB from r);rfl
 |bl b=>cases (show u=RC b from r);rfl
 |int i=>obtain⟨t,e⟩:=(show ∃t,u=aT i t from r);cases e;rfl
 |str x=>obtain⟨t,e⟩:=(show ∃t,u=RA x t from r);cases e;rfl
 |E5 b=>obtain⟨t,e⟩:=(show ∃t,u=Value.bytes b t from r);cases e;rfl
 |flt b=>obtain⟨t,e⟩:=(show ∃t,u=Value.float b t from r);cases e;rfl
 |ref a=>cases (show u=DC a from r);rfl
 |ty n=>cases (show u=Oi n from r);rfl
section
variable{P:Program}{w:World}{H H':Hp}{h h':Heap}{a C dx:Addr}{fs fs':List (Str×V)}
theorem WU(Af:Cr P w H h)(e:H a=some (.ins C dx fs)): ∃mA,NS h a dx C mA/\(∀f,JB (fs.lookup f) (mA f))/\oS mA (fs.map (·.1))/\fs.length<=1000/\H dx=some (.own a):=by
 obtain⟨d,z,ne,ob,mA,n,r,q⟩:=(show Du P w H h a (.ins C dx fs)from Af a _ e);exact⟨mA,⟨ob,n,ne⟩,r,q,z,d⟩
end
structure F4(K:Aj)(C:Addr):Prop where
 pg:VO K C aS=true
 hd:aX K C=true
 po:oh K C=true
 sa:Ho K (.ref C) "__setattr__"=some (some (.builtin "object.__setattr__"))
theorem F4.get{K:Aj}(c:F4 K C)(f:Str):VO K C f=true:=c.pg
def FH(K:Aj)(C:Addr)(f:Str):Prop:=Ho K (.ref C) f=some none
theorem FH.AEg{K:Aj}(n:FH K C f):oj K C f=some none:=by
 unfold oj;rw [show Ho K (.ref C) f=some none from n];rfl
structure L9(K:Aj)(C:Addr)(m:Str)(f:Addr):Prop where
 at_:Ho K (.ref C) m=some (some (.ref f))
 fn:VP K (.ref f)=true
 kp:Ij K (.ref f)=true
section
variable{X:Cx}{pins:List (Addr×Obj)}{σ:St}{H:Hp}{s:Shared}{a C dx:Addr}{fs:List (Str×V)}{f:Str}{v:V}{A:Around}{E:Value->Shared->Prop}
theorem rT(I:Inv X pins σ H s)(e:H a=some (.ins C dx fs))(c:F4 L2.K C)(n:FH L2.K C f)(l:fs.lookup f=some v)
 (h: ∀u s',Inv X pins σ H s'->RelV v u->Q u s'):wpAny (model L2.P L2.w) A (getAttr (.ref a) f b) Q E s:=by
 obtain⟨mA,O,r,_,_,_⟩:=WU I.Af e;obtain⟨u,hu,ru⟩:=lY (v:=v) (o:=mA f) (by rw [<-l];exact r f);exact rO I.Ea O (c.get f) c.hd n hu (rS ru) (h u _ (I.tok _) ru)
theorem c8(I:Inv X pins σ H s)(e:H a=some (.ins C dx fs))(c:F4 L2.K C)(k:L9 L2.K C m g)(l:fs.lookup m=none)
 (h:Q (.ref g,[.ref a]) s):wpAny (model L2.P L2.w) A (getMethod (.ref a) m pl) Q E s:=by
 obtain⟨mA,O,r,_,_,_⟩:=WU I.Af e;have hn:mA m=none:=AER (by rw [<-l];exact r m);exact rP I.Ea O (c.get m) k.at_ k.fn hn h
theorem rV(I:Inv X pins σ H s)(e:H a=some (.ins C dx fs))(c:F4 L2.K C)(n:FH L2.K C f)(hl:fs.length<1000)(ry:RelV y u)
 (h: ∀s',Inv X pins σ (upd H a (.ins C dx (C6 f y fs))) s'->Q () s'):wpAny (model L2.P L2.w) A (setAttr (.ref a) f u) Q E s:=by
 obtain⟨mA,O,r,wi,_,ho⟩:=WU I.Af e;have hz:(fs.map (·.1)).length<=sizeLine:=by rw [A5,sizeLine_eq];lia
 refine rQ I.Ea O c.sa c.po n.AEg c.hd wi hz fun h' O' sb=>h _ ?_
 have hd: ∃o,h'.get? dx=some o:=let⟨o,_,_,e',_⟩:=O'.ns;⟨o,e'⟩;refine I.write (x:=a) (e:=dx) (by rw [e];exact Dd) (.inr ho) (fun b q hb z=>(sb.2 b hb).trans z) hd ?_;refine⟨by rw [BC O.ne];exact ho,?_,O.ne,O'.obj,_,O'.ns,fun g=>?_,fun g hg=>?_⟩
 ·have :=c7 f y fs;lia
 ·show JB ((C6 f y fs).lookup g) (if g=f then some u else mA g);rw [DJ];by_cases q:g=f
  ·rw [AG q,AG q];exact ry
  ·rw [AD q,AD q];exact r g
 ·by_cases q:g=f
  ·rw [q];exact(WT f y fs).1
  ·refine(WT f y fs).2 g (wi g fun z=>hg ?_);show(if g=f then some u else mA g)=none;rw [AD q];exact z
theorem AES(I:Inv X pins σ H s):Inv X pins σ (upd (upd H s.heap.objs.size (.own (s.heap.objs.size+1))) (s.heap.objs.size+1) (.ins C s.heap.objs.size []))
 {s with heap:=(s.heap.push Lk).push (Mx C s.heap.objs.size)}:=by
 have e1:(s.heap.push Lk).get? s.heap.objs.size=some Lk:=Er s.heap rfl;have e2:((s.heap.push Lk).push (Mx C s.heap.objs.size)).get? (s.heap.objs.size+1)=some (Mx C s.heap.objs.size):=by
  have :=Er (s.heap.push Lk) (o:=Mx C s.heap.objs.size) rfl
  rwa [F1]at this
 have e3:(s.heap.push Lk).Ns s.heap.objs.size (fun _=>none):=⟨Lk, #[],_,e1,rfl,(fun e he=>absurd he (by simp)),fun _=>rfl⟩;have I1:=I.laid (a:=s.heap.objs.size) (o:=.own (s.heap.objs.size+1)) (h':=s.heap.push Lk) (t':=s.toks) (fun b u q=>Ca _ q) (BO _) ⟨_,e1⟩;refine I1.laid (a:=s.heap.objs.size+1) (o:=.ins C s.heap.objs.size []) (t':=s.toks) (fun b u q=>Ca _ q) (Om (F1 _ _)) ?_;have ne:s.heap.objs.size≠s.heap.objs.size+1:=Fh (VQ _);refine⟨by rw [BC ne,AZ],DM _,ne,e2,fun _=>none,(Heap.Ns1.of_empty e3).at fun o q=>Ca _ q,fun _=>Dd,fun y hy=>absurd rfl hy⟩
theorem rW{w:World}(hb:attributeBase e f env (eval e env)=eval e env)
 (h:wpAny (model prog w) A (eval e env) (fun o Bl=>wpAny (model prog w) A (getAttr o f true) Q E Bl) E s):wpAny (model prog w) A (eval (.Attribute e f pos) env) Q E s:=
 Attribute_any_ h (by rw [arm_eval_Attribute,hb])
end
def BJ(K:Aj)(ta:TE)(f:Str):TE:=fun σ H Q=>ta σ H fun x H1=> ∃a C dx fs v,x=.ref a/\H1 a=some (.ins C dx fs)/\F4 K C/\FH K C f/\fs.lookup f=some v/\Q v H1
def rX(K:Aj)(ta tv:TE)(f:Str):TS:=fun D σ H=>tv σ H fun y H1=>ta σ H1 fun x H2=> ∃a C dx fs,x=.ref a/\H2 a=some (.ins C dx fs)/\F4 K C/\FH K C f/\fs.length<1000/\
 D.nx σ (upd H2 a (.ins C dx (C6 f y fs)))
section
variable{X:Cx}{o e value:Expr}{f:Str}{pos pos' KP:Pos}{ta tv:TE}
theorem AR(he:PE X e ta)(hb:attributeBase e f X.env (eval e X.env)=eval e X.env):PE X (.Attribute e f pos) (BJ L2.K ta f):=by
 intro pins s σ H Q I h;refine rW hb (As (he pins s σ H _ I h) fun u s1 ⟨x,H1,I1,rx,a,C,dx,fs,v,ex,ea,c,n,l,q⟩=>?_);subst ex;obtain rfl:u=DC a:=rx;exact rT I1 ea c n l fun u' s2 I2 ru=>⟨v,H1,I2,ru,q⟩
theorem Hz(ha:PE X o ta)(hv:PE X value tv)(hs:swapsWith value (some (.Attribute o f pos')) pos.line X.env=pure false):PS X (.Assign [.Attribute o f pos'] value pos) (rX L2.K ta tv f):=by
 intro pins s σ H D I h;refine plainObj_wpAny_Assign_Attribute (As (hv pins s σ H _ I h) fun u s1 ⟨y,H1,I1,ry,q⟩=>As (ha pins s1 σ H1 _ I1 q) fun ov s2 ⟨x,H2,I2,rx,a,C,dx,fs,ex,ea,c,n,l,q2⟩=>?_) hs;subst ex;obtain rfl:ov=DC a:=rx;exact rV I2 ea c n l ry fun s3 I3=>⟨σ,_,I3,q2⟩
end
end L2
namespace L2
open PySem PySem.Spec PyProof.Rows
structure CU(k:Nat)(A:Around):Prop where
 hd:A.handled=none
 dp:A.depth+3*k+5<recursionLimit
 un:A.units+16*k+200<cLine
theorem CU.mono{j k:Nat}{A:Around}(r:CU k A)(h:j<=k):CU j A:=⟨r.hd,by have :=r.dp;lia,by have :=r.un;lia⟩
theorem CU.deeper{k:Nat}{A:Around}(r:CU (k+1) A)(env:Env):CU k (A.deeper env):=
 ⟨r.hd,by have :=r.dp;show A.depth+1+3*k+5<_;lia,by have :=r.un;show A.units+3+16*k+200<_;lia⟩
theorem rY{A:Around}{C:Addr}{us:List Value}{kw:List (Str×Value)}:(A.under (.builtin "type.__call__" ⟨.ref C::us,kw⟩)).depth=A.depth+1:=by
 first|rfl|simp [oo,Code.weight,Code.isCreation,Code.isGuard,Code.isCaller,Code.frames,oq,guardIds]
theorem rZ{A:Around}{C:Addr}{us:List Value}{kw:List (Str×Value)}:(A.under (.builtin "type.__call__" ⟨.ref C::us,kw⟩)).units=A.units+1:=by
 first|rfl|simp [oo,Code.cUnits,Code.frames,oq]
theorem CU.make{k:Nat}{A:Around}(r:CU (k+1) A)(C:Addr)(us:List Value)(kw:List (Str×Value)):CU k (A.under (.builtin "type.__call__" ⟨.ref C::us,kw⟩)):=
 ⟨r.hd,by have :=r.dp;rw [rY];lia,by have :=r.un;rw [rZ];lia⟩
theorem CU.depth(r:CU k A):A.depth<recursionLimit:=by have :=r.dp;lia
theorem CU.units(r:CU k A):A.units+64<cLine:=by have :=r.un;lia
def B3:TA:=fun _ H Q=>Q [] H
def Ba(ta:TE)(tr:TA):TA:=fun σ H Q=>ta σ H fun x H1=>tr σ H1 fun xs H2=>Q (x::xs) H2
section
variable{X:Cx}{e:Expr}{es:List Expr}{te:TE}{t:TA}{pos:Pos}
theorem AL:PA X [] B3:=fun _ _ _ _ H Q I h=>ot ⟨[],H,I,.nil,h⟩
theorem AB(ha:PE X e te)(hr:PA X es t)(hs:starEach (e::es) X.env=(false,eval e X.env)::starEach es X.env:=by rfl):PA X (e::es) (Ba te t):=by
 intro pos pins s σ H Q I h;rw [hs];show wpAny _ _ (spliced ((false,eval e X.env)::backTo pos (starEach es X.env))) _ _ s;refine VR (As (ha pins s σ H _ I h) fun u s1 ⟨x,H1,I1,r1,q1⟩=>?_);exact As (hr pos pins s1 σ H1 _ I1 q1) fun us s2 ⟨xs,H2,I2,r2,q2⟩=>⟨x::xs,H2,I2,.cons r1 r2,q2⟩
def rg(t:TA):TE:=fun σ H Q=>t σ H fun xs H1=>xs.length<=sizeLine/\ ∀p,H1 p=none->Q (.ref p) (upd H1 p (.tup xs))
def NT(t:TA):TE:=fun σ H Q=>t σ H fun xs H1=>xs.length<=sizeLine/\ ∀p,H1 p=none->Q (.ref p) (upd H1 p (.lst xs))
theorem WV{x1}(h:PA X es t):PE X (.Tuple es x1 pos) (rg t):=by
 intro pins s σ H Q I hq;refine wpAny_Tuple_spliced (As (h pos pins s σ H _ I hq) fun us s1 ⟨xs,H1,I1,r,z,q⟩=>⟨by rw [<-r.length];exact z,?_⟩);have hf:H1 s1.heap.objs.size=none:=I1.Af.fresh (BO _);refine⟨.ref s1.heap.objs.size,upd H1 s1.heap.objs.size (.tup xs),I1.laid (t':=s1.toks) (fun b u e=>Ca _ e) (BO _) ?_,rfl,q _ hf⟩;exact⟨z,us,r,⟨_,Er _ rfl,rfl,_,rfl⟩⟩
theorem Ay(h:PA X es t):PE X (.List es pos) (NT t):=by
 intro pins s σ H Q I hq;refine wpAny_List_spliced (As (h pos pins s σ H _ I hq) fun us s1 ⟨xs,H1,I1,r,z,q⟩=>⟨by rw [<-r.length];exact z,?_⟩);have hf:H1 s1.heap.objs.size=none:=I1.Af.fresh (BO _);refine⟨.ref s1.heap.objs.size,upd H1 s1.heap.objs.size (.lst xs),I1.laid (t':=s1.toks) (fun b u e=>Ca _ e) (BO _) ?_,rfl,q _ hf⟩;exact⟨z,us,0,r,Er _ rfl⟩
end
abbrev Sp:=List V->Hp->VK->XK->Prop
abbrev G1:=List Env->Hp->Shared->XK->Value->Shared->Prop
structure NU(P:Program)(w:World)(K:Aj)(mg:Str->Option Value)(base:Heap)(A:Around)(outer:List Env)(s:Shared)(H:Hp):Prop where
 frames:A.frames=some outer
 mod:Mod K mg base
 bs: ∀b o,base.get? b=some o->s.heap.get? b=some o/\H b=none
 HB:base.objs.size<=s.heap.objs.size
 GG:s.heap.FunFrames base outer
 IZ: ∀b∈DO outer,H b=none
 Af:Cr P w H s.heap
 bare:AllBare s.gens
def CE(outer:List Env)(P:Program)(w:World)(H:Hp)(s:Shared)(Q:VK)(u:Value)(s':Shared):Prop:=
 ∃v H',s'.os=s.os/\AllBare s'.gens/\Un (DO outer) [] H H' s.heap s'.heap/\Cr P w H' s'.heap/\RelV v u/\Q v H'
def CR(CX:G1)(outer:List Env)(P:Program)(w:World)(H:Hp)(s:Shared)(Q:VK)(E:XK)(r:Result)(s':Shared):Prop:=
 match r with
 |.ok (.ret u)=>CE outer P w H s Q u s'
 |.ok _=>False
 |.error e=>CX outer H s E e s'
structure C_(CX:G1)(k:Nat)(f:Addr)(fd:FuncData)(ps:List Str)(sp:Sp):Prop where
 len: ∀vs H Q E,sp vs H Q E->vs.length=ps.length
 run: ∀(base:Heap)(A:Around)(outer:List Env)(s:Shared)(H:Hp)(args:Args)(us:List Value)(vs:List V)(Q:VK)(E:XK),CU k A->NU P w K mg base A outer s H->BindsTo s fd args (ps.zip us)->BM vs us->sp vs H Q E->
  codeAny (model P w) A (.call (.ref f) args) (CR CX outer P w H s Q E) s
theorem NU.make(e:NU P w K mg base A outer s H)(C:Addr)(us:List Value)(kw:List (Str×Value)):
 NU P w K mg base (A.under (.builtin "type.__call__" ⟨.ref C::us,kw⟩)) outer s H:=⟨by first|exact e.frames| (simpa [oo,Code.envs,oq,pushEnvs]using e.frames),e.mod,e.bs,e.HB,e.GG,e.IZ,e.Af,e.bare⟩
section
variable{X:Cx}{pins:List (Addr×Obj)}{σ:St}{H:Hp}{s s':Shared}
theorem Inv.mM(I:Inv X pins σ H s):NU L2.P L2.w L2.K L2.mg X.base X.A X.stack s H:=
 ⟨I.ok.frames,I.ok.mod,I.bs,A9 I.ok.HB I.sz,I.stack,I.ZG,I.Af,I.bare⟩
theorem Inv.after(I:Inv X pins σ H s)(h:CE X.stack L2.P L2.w H s Q u s'):EP X pins σ Q u s':=by
 obtain⟨v,H',os,bare,un,Af,r,q⟩:=h;obtain⟨hh,g,d,t,os'⟩:=s';obtain rfl:os'=s.os:=os;exact⟨v,H',I.call (h':=hh) (g':=g) (d':=d) (t':=t) (ch:=[]) un Af bare (fun b z=>absurd z (by simp)),r,q⟩
end
def DE(sp:Sp)(dvs:List V)(E:XK)(t:TA):TE:=fun σ H Q=>t σ H fun vs H1=>sp (vs++dvs) H1 Q E
def c9(C:Addr)(m:Str)(sp:Sp)(dvs:List V)(E:XK)(ta:TE)(t:TA):TE:=fun σ H Q=>ta σ H fun x H1=> ∃a dx fs,x=.ref a/\H1 a=some (.ins C dx fs)/\fs.lookup m=none/\
 t σ H1 fun vs H2=>sp (x::(vs++dvs)) H2 Q E
def PL(C:Addr)(sp:Sp)(dvs:List V)(E:XK)(t:TA):TE:=fun σ H Q=>t σ H fun vs H1=> ∀x dx,H1 x=none->H1 dx=none->dx≠x->
 sp (.ref x::(vs++dvs)) (upd (upd H1 dx (.own x)) x (.ins C dx [])) (fun v H2=>v=.BZ/\Q (.ref x) H2) E
def Binds(K:Aj)(fd:FuncData)(ps:List Str)(ds:List Value):Prop:=
 ∀(s:Shared)(us:List Value),K.In s.heap->(us++ds).length=ps.length->BindsTo s fd ⟨us,[]⟩ (ps.zip (us++ds))
theorem Binds.all{K:Aj}(h: ∀us:List Value,us.length=ps.length->bindArgs fd ⟨us,[]⟩=pure (ps.zip us)):Binds K fd ps []:=fun s us _ hl=>by
 rw [VS]at hl⊢;exact .of_eq (h us hl)
def G2(CX:G1)(X:Cx)(E:XK):Prop:= ∀(pins:List (Addr×Obj))(σ:St)(H:Hp)(s:Shared)(e:Value)(s':Shared),Inv X pins σ H s->CX X.stack H s E e s'->X.xe e s'
section
variable{X:Cx}{CX:G1}{k:Nat}{f C:Addr}{fd:FuncData}{ps:List Str}{sp:Sp}{dvs:List V}{ds:List Value}{E:XK}{x m:Str}{p pos apos:Pos}{e o:Expr}{es:List Expr}{ta:TE}{t:TA}
theorem R1(F:C_ CX k f fd ps sp)(hr:CU k X.A)(hb:Binds L2.K fd ps ds)(hd:BM dvs ds)(hx:G2 CX X E)
 (I:Inv X pins σ H s)(r:BM vs us)(h:sp (vs++dvs) H Q E):wpAny (model L2.P L2.w) X.A (call (.ref f) us) (EP X pins σ Q) X.xe s:=by
 have r2:BM (vs++dvs) (us++ds):=r.append hd;have hl:(us++ds).length=ps.length:=by rw [<-r2.length];exact F.len _ _ _ _ h
 refine wpAny_call (RI (F.run _ X.A X.stack s H ⟨us,[]⟩ (us++ds) (vs++dvs) Q E hr I.mM (hb s us I.Ea hl) r2 h) fun r s' hq=>?_);cases r with
 |error e=>exact hx pins σ H s e s' I hq
 |ok fl=>
  cases fl with
  |ret u=>exact I.after hq
  |next=>exact Dp hq
  |brk=>exact Dp hq
  |cont=>exact Dp hq
theorem c_(F:C_ CX k f fd ps sp)(hr:CU k X.A)(hg:Gl X x)(hm:L2.mg x=some (.ref f))(hk:Ij L2.K (.ref f)=true)(hb:Binds L2.K fd ps ds)(hd:BM dvs ds)(hx:G2 CX X E)
 (ha:PA X (e::es) t)(Co:(x==("__debug__":Str))=false:=by decide)(he:starEach (e::es) X.env=(false,eval e X.env)::starEach es X.env:=by rfl)(CB:(backTo pos (starEach es X.env)).any (·.1)=false:=by rfl):
 PE X (.Call (.Name x p) (e::es) [] pos) (DE sp dvs E t):=by
 intro pins s σ H Q I h;refine Oo (Ko I hg hm ?_ Co);refine aY (h₀:=X.base) I.ok.mod.kin hk (As (ha pos pins s σ H _ I h) fun us s1 ⟨vs,H1,I1,r,q⟩=>⟨I1.Ea,?_⟩) he CB;exact R1 F hr hb hd hx I1 r q
theorem rh(F:C_ CX k f fd ps sp)(hr:CU k X.A)(hg:Gl X x)(hm:L2.mg x=some (.ref f))(hk:Ij L2.K (.ref f)=true)(hb:Binds L2.K fd ps ds)(hd:BM dvs ds)(hx:G2 CX X E)
 (Co:(x==("__debug__":Str))=false:=by decide):PE X (.Call (.Name x p) [] [] pos) (DE sp dvs E B3):=by
 intro pins s σ H Q I h;refine Oo (Ko I hg hm ?_ Co);exact AFR I.Ea hk (R1 (us:=[]) F hr hb hd hx I .nil h)
theorem rj(he:PE X o ta)(c:F4 L2.K C)(hm:L9 L2.K C m f)(F:C_ CX k f fd ps sp)(hr:CU k X.A)(hb:Binds L2.K fd ps ds)(hd:BM dvs ds)(hx:G2 CX X E)(ha:PA X (e::es) t)
 (El:starEach (e::es) X.env=(false,eval e X.env)::starEach es X.env:=by rfl)(CB:(backTo pos (starEach es X.env)).any (·.1)=false:=by rfl)
 (ht:eval (.Call (.Attribute o m apos) (e::es) [] pos) X.env=(do
   let ov<-eval o X.env
   standAt apos.atName
   let (f,first)<-holding [ov] (getMethod ov m pl)
   callWith pos f first (backTo pos (starEach (e::es) X.env)) (backToKw pos (keywordEach [] X.env))):=by rfl):
 PE X (.Call (.Attribute o m apos) (e::es) [] pos) (c9 C m sp dvs E ta t):=by
 intro pins s σ H Q I h;refine PySem.W.methodCall_KW (pl:=pl) (As (he pins s σ H _ I h) fun u s1 ⟨x,H1,I1,rx,a,dx,fs,ex,ea,l,q⟩=>?_) ht;subst ex;obtain rfl:u=DC a:=rx;refine c8 I1 ea c hm l ?_;refine aY (first:=[.ref a]) (h₀:=X.base) I.ok.mod.kin hm.kp (As (ha pos pins s1 σ H1 _ I1 q) fun us s2 ⟨vs,H2,I2,r,q2⟩=>⟨I2.Ea,?_⟩) El CB;exact R1 (us:=.ref a::us) (vs:=.ref a::vs) F hr hb hd hx I2 (.cons rfl r) q2
structure Mk(K:Aj)(C f:Addr):Prop where
 makes:om K C=true
 init:Ho K (.ref C) "__init__"=some (some (.ref f))
 fn:VP K (.ref f)=true
 kp:Ij K (.ref C)=true
theorem dA(M:Mk L2.K C f)(F:C_ CX k f fd ps sp)(hr:CU (k+1) X.A)(hb:Binds L2.K fd ps ds)(hd:BM dvs ds)
 (hx:G2 CX X E)(I:Inv X pins σ H s)(r:BM vs us)
 (h: ∀x dx,H x=none->H dx=none->dx≠x->sp (.ref x::(vs++dvs)) (upd (upd H dx (.own x)) x (.ins C dx [])) (fun v H2=>v=.BZ/\Q (.ref x) H2) E):
 wpAny (model L2.P L2.w) X.A (call (.ref C) us) (EP X pins σ Q) X.xe s:=by
 have hq:=h (s.heap.objs.size+1) s.heap.objs.size (I.Af.fresh (Nat.le_succ _)) (I.Af.fresh (BO _)) (Fh (VQ _));have I2:=AES (C:=C) I;have r2:BM (V.ref (s.heap.objs.size+1)::(vs++dvs)) (DC (s.heap.objs.size+1)::(us++ds)):=.cons rfl (r.append hd);have hl:(DC (s.heap.objs.size+1)::us++ds).length=ps.length:=by
  have e:=r2.length;rw [F.len _ _ _ _ hq]at e;exact e.symm
 refine wpAny_call (rR (f:=f) I.Ea M.makes M.init (GP.mp M.fn) (RI (F.run _ _ X.stack _ _ ⟨DC (s.heap.objs.size+1)::us,[]⟩ (DC (s.heap.objs.size+1)::(us++ds)) _ _ E (hr.make C us [])
  (I2.mM.make C us []) (hb _ (DC (s.heap.objs.size+1)::us) I2.Ea hl) r2 hq) fun r s' Ic=>?_))
 cases r with
 |error e=>exact hx pins σ _ _ e s' I2 Ic
 |ok fl=>
  cases fl with
  |ret u=>
   obtain⟨v,H',I3,rv,ev,q3⟩:=I2.after Ic;subst ev;exact⟨rv,⟨V.ref (s.heap.objs.size+1),H',I3,rfl,q3⟩⟩
  |next=>exact Dp Ic
  |brk=>exact Dp Ic
  |cont=>exact Dp Ic
theorem rk(M:Mk L2.K C f)(F:C_ CX k f fd ps sp)(hr:CU (k+1) X.A)(hg:Gl X x)(hm:L2.mg x=some (.ref C))(hb:Binds L2.K fd ps ds)(hd:BM dvs ds)(hx:G2 CX X E)
 (ha:PA X (e::es) t)(Co:(x==("__debug__":Str))=false:=by decide)(he:starEach (e::es) X.env=(false,eval e X.env)::starEach es X.env:=by rfl)(CB:(backTo pos (starEach es X.env)).any (·.1)=false:=by rfl):
 PE X (.Call (.Name x p) (e::es) [] pos) (PL C sp dvs E t):=by
 intro pins s σ H Q I h;refine Oo (Ko I hg hm ?_ Co);refine aY (h₀:=X.base) I.ok.mod.kin M.kp (As (ha pos pins s σ H _ I h) fun us s1 ⟨vs,H1,I1,r,q⟩=>⟨I1.Ea,?_⟩) he CB;exact dA M F hr hb hd hx I1 r q
theorem rn(M:Mk L2.K C f)(F:C_ CX k f fd ps sp)(hr:CU (k+1) X.A)(hg:Gl X x)(hm:L2.mg x=some (.ref C))(hb:Binds L2.K fd ps ds)(hd:BM dvs ds)(hx:G2 CX X E)
 (Co:(x==("__debug__":Str))=false:=by decide):PE X (.Call (.Name x p) [] [] pos) (PL C sp dvs E B3):=by
 intro pins s σ H Q I h;refine Oo (Ko I hg hm ?_ Co);exact AFR I.Ea M.kp (dA (us:=[]) M F hr hb hd hx I .nil h)
end
structure Bj(N P:List Str)(sc:Scope):Prop where
 kind:sc.kind=.function
 co:sc.isCoroutine=false
 gen:sc.isGenerator=false
 nd:N.Nodup
 pre:N.take P.length=P
 par: ∀x∈P,sc.names.lookup x=some .local\/sc.names.lookup x=some .cell
 AEh: ∀y∈sc.names,y.2≠ .free
theorem dB{kindOf:Str->Option NameKind}{x:Str}: ∀{binds:List (Str×Value)}{m:Str->Option Value},(∀v,(x,v)∉binds)->bindL kindOf binds m x=m x
 | [],_,_=>rfl
 | (n,v)::r,m,h=>by
  unfold bindL;rw [dB fun w hw=>h w (Dn _ hw)];split
  ·have :x≠n:=by rintro rfl;exact h v Eb
   simp [this]
  ·rfl
theorem dC{kindOf:Str->Option NameKind}{x:Str}: ∀{binds:List (Str×Value)}{m:Str->Option Value},(∀v,(x,v)∉binds)->bindC kindOf binds m x=m x
 | [],_,_=>rfl
 | (n,v)::r,m,h=>by
  unfold bindC;rw [dC fun w hw=>h w (Dn _ hw)];split
  ·rfl
  ·have :x≠n:=by rintro rfl;exact h v Eb
   simp [this]
theorem dD{kindOf:Str->Option NameKind}{x:Str}{v:Value}: ∀{P:List Str}{vs:List Value}{i:Nat}{m:Str->Option Value},P.Nodup->P[i]? =some x->vs[i]? =some v->kindOf x=some .local->
 bindL kindOf (P.zip vs) m x=some v
 | [],_,_,_,_,h,_,_=>by simp at h
 |_::_,[],_,_,_,_,h,_=>by simp at h
 |p::P,w::vs,0,m,nd,h1,h2,hk=>by
  simp at h1 h2;subst h1;subst h2;show bindL kindOf ((p,w)::P.zip vs) m p=_;unfold bindL;rw [dB fun v hv=>(VT.mp nd).1 (ou hv).1,AG hk];simp
 |p::P,w::vs,i+1,m,nd,h1,h2,hk=>by
  show bindL kindOf ((p,w)::P.zip vs) m x=_;unfold bindL;exact dD (i:=i) (VT.mp nd).2 (by simpa using h1) (by simpa using h2) hk
theorem dE{kindOf:Str->Option NameKind}{x:Str}{v:Value}: ∀{P:List Str}{vs:List Value}{i:Nat}{m:Str->Option Value},P.Nodup->P[i]? =some x->vs[i]? =some v->kindOf x≠some .local->
 bindC kindOf (P.zip vs) m x=some v
 | [],_,_,_,_,h,_,_=>by simp at h
 |_::_,[],_,_,_,_,h,_=>by simp at h
 |p::P,w::vs,0,m,nd,h1,h2,hk=>by
  simp at h1 h2;subst h1;subst h2;show bindC kindOf ((p,w)::P.zip vs) m p=_;unfold bindC;rw [dC fun v hv=>(VT.mp nd).1 (ou hv).1,AD hk];simp
 |p::P,w::vs,i+1,m,nd,h1,h2,hk=>by
  show bindC kindOf ((p,w)::P.zip vs) m x=_;unfold bindC;exact dE (i:=i) (VT.mp nd).2 (by simpa using h1) (by simpa using h2) hk
noncomputable def start(N:List Str)(vs:List V):St:=vs.map some++RJ (N.length-vs.length) none
noncomputable def Ga(CX:G1)(base:Heap)(N:List Str)(qual:Str)(scope:Scope)(f:Addr)(cd:Value)(A:Around)(outer:List Env)(s:Shared)(H:Hp)(E:XK):Cx where
 base:=base
 A:=A.deeper (envOfC qual scope s.heap.objs.size f cd)
 N:=N
 EA:=s
 H_0:=H
 env:=envOfC qual scope s.heap.objs.size f cd
 outer:=outer
 stack:=envOfC qual scope s.heap.objs.size f cd::outer
 ex:=[]
 calm:=true
 fn:=fun _=>true
 pn:=[]
 xe:=fun e s'=>wpAny (model P w) (A.deeper (envOfC qual scope s.heap.objs.size f cd)) (leaving (envOfC qual scope s.heap.objs.size f cd) e) (fun _ ZK=>CX outer H s E e ZK) (fun e' ZK=>CX outer H s E e' ZK) s'
theorem dF{sc:Scope}{n:Nat}{x:Str}(h:sc.names.lookup x=some .cell): ∃c,(cellsFrom n sc.names []).lookup x=some c:=by
 have q:=AFS sc.names n [] (.inl h);exact aZ.mp q
theorem rp{CX:G1}{base:Heap}{N ps:List Str}{qual:Str}{scope:Scope}{f:Addr}{cd:Value}{A:Around}{outer:List Env}{s s1:Shared}{H:Hp}{E:XK}{us:List Value}{vs:List V}
 (S:Bj N ps scope)(hd:A.handled=none)(e0:NU P w K mg base A outer s H)(hl:vs.length=ps.length)(r:BM vs us)
 (x:InCallC s s.heap.objs.size (bindL (envOfC qual scope s.heap.objs.size f cd).kindOf (ps.zip us) fun _=>none) (cellsFrom (s.heap.objs.size+1) scope.names []) (bindC (envOfC qual scope s.heap.objs.size f cd).kindOf (ps.zip us) fun _=>none) s1):
 Inv (Ga CX base N qual scope f cd A outer s H E) [] (start N vs) H s1:=by
 have CB:ps.length<=N.length:=by have :=congrArg Ik S.pre;rw [DV]at this;lia
 obtain⟨h1,tk,rfl,hk⟩:=x.done;have ON: ∀b:Addr,b∉(Ga CX base N qual scope f cd A outer s H E).ex:=fun b z=>absurd (show b∈([]:List Addr)from z) (by simp)
 refine⟨⟨e0.mod,S.kind,rfl,rfl,BO _,fun y z c h1 h2=>?_,fun y hy=>?_,fun y c _ h=>?_,fun _=>hd,Around.frames_deeper e0.frames,.inr ⟨rfl,rfl⟩,fun b z=>absurd z (ON b),e0.bs,e0.HB,fun b _ _=>ON b,fun b z=>absurd z (ON b),e0.GG,e0.IZ⟩,
  rfl,e0.bare,Un.kept hk,⟨_,x.toInCall.ns,fun i y v h1 h2 h3=>?_⟩,fun y c h=>⟨_,x.cell y c h⟩,e0.Af.fresh (BO _),fun y c h=>?_,fun p hp=>absurd (show p∈([]:List (Addr×Obj))from hp) (by simp),e0.Af.kept hk,?_⟩
 ·exact name_of_addr x.apart (Gs h1) (Gs h2)
 ·have hy:scope.names.lookup y=some .cell\/scope.names.lookup y=some .free:=hy;rcases hy with hy|hy
  ·exact dF hy
  ·exact absurd rfl (S.AEh _ (Gs hy))
 ·exact KZ (x.above y c (Gs h))
 ·have hi:i<vs.length:=by
   unfold start at h2;by_cases hi:i<vs.length
   ·exact hi
   ·rw [VU (by simpa using hi),List.getElem?_replicate]at h2;split at h2<;>cases h2
  have ha:vs[i]? =some v:=by
   unfold start at h2;rw [VV (by simpa using hi),De]at h2;cases e:vs[i]? with
   |none=>rw [e]at h2;cases h2
   |some a=>rw [e]at h2;cases h2;rfl
  obtain⟨u,hu,rv⟩:=r.get ha;have hp:ps[i]? =some y:=by
   rw [<-S.pre,List.getElem?_take_of_lt (by lia)];exact h1
  have mO:ps.Nodup:=by rw [<-S.pre];exact S.nd.sublist (List.take_sublist _ _)
  refine⟨u,rv,?_⟩;rcases S.par y (FV hp)with k|k
  ·exact .inl ⟨k,dD mO hp hu k⟩
  ·obtain⟨c,e⟩:=dF (n:=s.heap.objs.size+1) k;refine .inr ⟨.inl k,c,e,?_⟩;have q:=x.cell y c e;rw [dE mO hp hu (by show scope.names.lookup y≠_;rw [k];decide)]at q;exact q
 ·exact e0.Af.fresh (KZ (x.above y c (Gs h)))
 ·unfold start;show _=N.length;rw [CD,A5,ow];lia
theorem dG{CX:G1}{k:Nat}{f:Addr}{name qual:Str}{params:Arguments}{body:List Stmt}{scope:Scope}{dV kV doc pm By ct oc:Value}{an od:Option Addr}
 {Qi:Array (Option Value)}{N ps:List Str}{sp:Sp}(lk:K.lookup f=some ⟨oc,od,.func (ox name qual params body scope dV kV doc pm an By ct),Qi⟩)(Fx:VW K By qual=true)(S:Bj N ps scope)
 (len: ∀vs H Q E,sp vs H Q E->vs.length=ps.length)
 (Ie: ∀(base:Heap)(A:Around)(outer:List Env)(s:Shared)(H:Hp)(vs:List V)(Q:VK)(E:XK),CU k (A.deeper (envOfC qual scope s.heap.objs.size f By))->sp vs H Q E->
  ∃t,Ee (Ga CX base N qual scope f By A outer s H E) body t/\t {nx:=fun _ H'=>Q .BZ H',rt:=Q} (start N vs) H):
 C_ CX (k+1) f (ox name qual params body scope dV kV doc pm an By ct) ps sp:=by
 refine⟨len,fun base A outer s H args us vs Q E hr e0 hb r FI=>?_⟩;have hl:=len _ _ _ _ FI;have KX:K.In s.heap:=e0.mod.kin.keeps fun b o e=>(e0.bs b o e).1
 have lim:s.heap.NoLimit:=e0.mod.nolimit.keeps fun b o e=>(e0.bs b o e).1
 have AEi: ∀y∈ps.zip us,scope.names.lookup y.1=some .local\/(scope.names.lookup y.1=some .cell/\((cellsFrom (s.heap.objs.size+1) scope.names []).lookup y.1).isSome=true):=fun ⟨n,v⟩ hy=>by
  rcases S.par n (ou hy).1 with q|q
  ·exact .inl q
  ·exact .inr ⟨q,AFS _ _ _ (.inl q)⟩
 refine codeAny_call_function hr.depth (KX _ _ lk) rfl S.co S.gen rfl (PySem.W.codeRec_of KX Fx) (hb _ _ _ _ ?_);refine wpAny_newFunctionEnv_cells S.kind AEi fun env he s1 x=>?_
 subst he;refine⟨lim.keeps x.toInCall.keep,codeAny_func ?_⟩;obtain⟨t,ht,hq⟩:=Ie base A outer s H vs Q E (hr.deeper _) FI;have I:Inv (Ga CX base N qual scope f By A outer s H E) [] (start N vs) H s1:=rp S hr.hd e0 hl r x;refine GO (ht [] s1 (start N vs) H _ I hq) (fun fl s' hs=>?_) fun e s' hs=>hs
 have fin: ∀{Ak:St}{H':Hp}{v:V}{u:Value},Inv (Ga CX base N qual scope f By A outer s H E) [] Ak H' s'->RelV v u->Q v H'->CE outer P w H s Q u s':=
  fun {Ak H' v u} J rv q=>⟨v,H',J.os,J.bare,J.base,J.Af,rv,q⟩
 cases fl with
 |ret u=>
  obtain⟨v,Ak,H',J,rv,q⟩:=hs;exact fin J rv q
 |next=>
  obtain⟨Ak,H',J,q⟩:=hs;exact fin (v:=V.BZ) (u:=RB) J rfl q
 |brk=>
  obtain⟨_,_,_,q⟩:=hs;exact Dp q
 |cont=>
  obtain⟨_,_,_,q⟩:=hs;exact Dp q
end L2
namespace L2
open PySem PySem.Spec PyProof.Rows
section
variable{X:Cx}{x:Str}{p pos:Pos}{e:Expr}{es:List Expr}{t:TA}{id T:String}{r:List V->Hp->VK->Prop}
def G3(r:List V->Hp->VK->Prop)(t:TA):TE:=fun σ H Q=>t σ H fun vs H1=>r vs H1 Q
theorem Cf(hc:GY X (.builtin id) r)(hg:Gl X x)(hm:L2.mg x=none)(hv:bootBuiltins x=some (.builtin id))(ha:PA X (e::es) t)(hn:x≠"__name__":=by decide)(Co:(x==("__debug__":Str))=false:=by decide)
 (he:starEach (e::es) X.env=(false,eval e X.env)::starEach es X.env:=by rfl)(CB:(backTo pos (starEach es X.env)).any (·.1)=false:=by rfl):PE X (.Call (.Name x p) (e::es) [] pos) (G3 r t):=by
 intro pins s σ H Q I h;refine Oo (O5 I hg hm hv ?_ hn Co);exact PyProof.Rows.callWith_builtin1 (As (ha pos pins s σ H _ I h) fun us s1 ⟨vs,H1,I1,r1,q1⟩=>hc pins s1 σ H1 vs us Q I1 r1 q1) he CB
theorem L_(hc:GY X (.type T) r)(hg:Gl X x)(hm:L2.mg x=none)(hv:bootBuiltins x=some (.type T))(ha:PA X (e::es) t)(hn:x≠"__name__":=by decide)(Co:(x==("__debug__":Str))=false:=by decide)
 (he:starEach (e::es) X.env=(false,eval e X.env)::starEach es X.env:=by rfl)(CB:(backTo pos (starEach es X.env)).any (·.1)=false:=by rfl):PE X (.Call (.Name x p) (e::es) [] pos) (G3 r t):=by
 intro pins s σ H Q I h;refine Oo (O5 I hg hm hv ?_ hn Co);exact aa (As (ha pos pins s σ H _ I h) fun us s1 ⟨vs,H1,I1,r1,q1⟩=>hc pins s1 σ H1 vs us Q I1 r1 q1) he CB
end
end L2
namespace HT
open PySem PyProof.Rows
section
variable{prog:Program}{w:World}{A:Around}{E:Value->Shared->Prop}{s:Shared}
noncomputable def Bm(n d:Nat):Option Int->Nat
 |none=>d
 |some v=>if v<0 then(v+(n:Int)).toNat else min v.toNat n
theorem dH(n d:Nat):Bm n d none=d:=rfl
theorem NW(n d k:Nat):Bm n d (some (k:Int))=min k n:=by
 show(if(k:Int) <0 then((k:Int)+(n:Int)).toNat else min (k:Int).toNat n)=min k n;rw [AD (by lia),Am]
theorem dI(n d:Nat)(hd:d<=n)(o:Option Int):Bm n d o<=n:=by
 cases o with
 |none=>exact hd
 |some v=>
  show(if v<0 then(v+(n:Int)).toNat else min v.toNat n)<=n;by_cases hv:v<0
  ·rw [AG hv];lia
  ·rw [AD hv];exact oy _ _
end
end HT
namespace L2
open PySem PySem.Spec PyProof.Rows
abbrev TO:=St->Hp->(Option Int->Hp->Prop)->Prop
def PO(X:Cx)(e:Option Expr)(t:TO):Prop:=
 ∀(pins:List (Addr×Obj))(s:Shared)(σ:St)(H:Hp)(Q:Option Int->Hp->Prop),Inv X pins σ H s->t σ H Q->
  wpAny (model L2.P L2.w) X.A (evalPart e X.env) (fun u s'=> ∃o H',Inv X pins σ H' s'/\IsPart u o/\Q o H') X.xe s
def dJ:TO:=fun _ H Q=>Q none H
def dM(t:TE):TO:=fun σ H Q=>t σ H fun x H1=> ∃i,x=.int i/\Q (some i) H1
section
variable{X:Cx}{e:Expr}{te:TE}{lo hi:Option Expr}{tl th:TO}{pos p2:Pos}
theorem WW:PO X none dJ:=by
 intro pins s σ H Q I h;rw [evalPart_none];exact DD ⟨none,H,I,.none,h⟩
theorem F5(h:PE X e te):PO X (some e) (dM te):=by
 intro pins s σ H Q I hw;rw [evalPart_some];refine As (h pins s σ H _ I hw) fun u s1 ⟨x,H1,I1,r1,q1⟩=>?_
 obtain⟨i,rfl,q⟩:=q1;obtain⟨t,rfl⟩:=r1;exact⟨some i,H1,I1,.int i t,q⟩
def WX(X:Cx)(r:V->Option Int->Option Int->Hp->VK->Prop):Prop:=
 ∀(pins:List (Addr×Obj))(s:Shared)(σ:St)(H:Hp)(x:V)(v vl vu:Value)(lo hi:Option Int)(sl:Addr)(Q:VK),Inv X pins σ H s->RelV x v->s.heap.IsSliceOf sl vl vu .none->IsPart vl lo->IsPart vu hi->r x lo hi H Q->
  ∃T id,typeLookup (.type T) "__getitem__"=pure (some (.builtin id))/\s.TypeIs v T/\wpAny (model L2.P L2.w) X.A (getItem v (.ref sl)) (EP X pins σ Q) X.xe s
def dN(r:V->Option Int->Option Int->Hp->VK->Prop)(te:TE)(tl th:TO):TE:=fun σ H Q=>te σ H fun x H1=>tl σ H1 fun l H2=>th σ H2 fun u H3=>r x l u H3 Q
theorem Jw(hr:WX X r)(he:PE X e te)(hl:PO X lo tl)(hu:PO X hi th):PE X (.Subscript e (.Slice lo hi none p2) pos) (dN r te tl th):=by
 intro pins s σ H Q I h;refine Subscript_ (As (he pins s σ H _ I h) fun v s1 ⟨x,H1,I1,r1,q1⟩=>?_);refine wpAny_Slice (As (hl pins s1 σ H1 _ I1 q1) fun vl s2 ⟨l,H2,I2,pl,q2⟩=>As (hu pins s2 σ H2 _ I2 q2) fun vu s3 ⟨u,H3,I3,pu,q3⟩=>?_);rw [evalPart_none];refine DD ?_;have I4:Inv X pins σ H3 {s3 with heap:=s3.heap.push {cls:=.type "slice",data:=.fields #[vl,vu,.none]}}:=I3.kept (t':=s3.toks) fun b ob q=>Ca _ q
 obtain⟨T,id,hT,ht,hg⟩:=hr pins {s3 with heap:=s3.heap.push {cls:=.type "slice",data:=.fields #[vl,vu,.none]}} σ H3 x v vl vu l u s3.heap.objs.size Q I4 r1 (Heap.IsSliceOf.new ..) pl pu q3;show wpAny (model L2.P L2.w) X.A (subscriptTail e (.Slice lo hi none p2) v (.ref s3.heap.objs.size)) (EP X pins σ Q) X.xe {s3 with heap:=s3.heap.push {cls:=.type "slice",data:=.fields #[vl,vu,.none]}};exact tail_any (ops:=[.ref s3.heap.objs.size,v]) ht hT hg (by with_unfolding_all rfl)
noncomputable def Kt(xs:List V)(lo hi:Option Int):List V:=(xs.drop (HT.Bm xs.length 0 lo)).take (HT.Bm xs.length xs.length hi-HT.Bm xs.length 0 lo)
theorem rq(xs:List V)(lo hi:Option Int):(Kt xs lo hi).length<=xs.length:=by
 unfold Kt;rw [DV,D1];lia
end
end L2
namespace L2
open PySem PySem.Spec PyProof.Rows
noncomputable def G4(n:Nat)(i:Int):Option Nat:=if 0<=i then(if i<n then some i.toNat else none)else if -(n:Int)<=i then some (i+n).toNat else none
noncomputable def DX{α:Type}(xs:List α)(i:Int):Option α:=(G4 xs.length i).bind fun j=>xs[j]?
theorem dO(h:G4 n i=some j):seqIndex? i n=some j/\j<n/\ -(n:Int)<=i/\i<n:=by
 unfold G4 at h;by_cases h0:0<=i
 ·rw [AG h0]at h;by_cases h1:i<n
  ·rw [AG h1]at h;have e:i.toNat=j:=BQ h;exact⟨by rw [seqIndex_of h0 h1,e],by lia,by lia,h1⟩
  ·rw [AD h1]at h;cases h
 ·rw [AD h0]at h;by_cases h1: -(n:Int)<=i
  ·rw [AG h1]at h;have e:(i+n).toNat=j:=BQ h;exact⟨by rw [oz (by lia) h1,e],by lia,h1,by lia⟩
  ·rw [AD h1]at h;cases h
theorem WY(h:DX xs i=some v): ∃j,seqIndex? i xs.length=some j/\xs[j]? =some v/\j<xs.length/\ -(xs.length:Int)<=i/\i<xs.length:=by
 unfold DX at h;cases e:G4 xs.length i with
 |none=>rw [e]at h;cases h
 |some j=>
  rw [e]at h;obtain⟨h1,h2,h3,h4⟩:=dO e;exact⟨j,h1,h,h2,h3,h4⟩
theorem HQ{α:Type}{xs:List α}{j:Nat}{v:α}(h:xs[j]? =some v):DX xs (j:Int)=some v:=by
 have hj:j<xs.length:=(Fi.mp h).1;have e:G4 xs.length (j:Int)=some j:=by
  unfold G4;rw [AG (by lia),AG (by lia)];simp
 unfold DX;rw [e];exact h
theorem dP(xs:List α)(v:α):DX (xs++[v]) (-1)=some v:=by
 have hl:(xs++[v]).length=xs.length+1:=by simp
 have e:G4 (xs++[v]).length (-1)=some xs.length:=by
  unfold G4;rw [hl,AD (by decide),AG (by lia)];congr 1;lia
 unfold DX;rw [e];show(xs++[v])[xs.length]? =some v;simp
def r6(b:Expr):Prop:= ∀o i,subscripted b false o i=operate [o,i] (getItem o i)
def R3(X:Cx)(r:R2):Prop:=
 ∀(value slice:Expr)(pins:List (Addr×Obj))(s:Shared)(σ:St)(H:Hp)(x y:V)(v u:Value)(Q:VK),Inv X pins σ H s->RelV x v->RelV y u->r x y H Q->
  subscripted slice false v u=operate [v,u] (getItem v u)->wpAny (model L2.P L2.w) X.A (subscriptTail value slice v u) (EP X pins σ Q) X.xe s
def Jx(X:Cx)(id:String)(r:V->List V->Hp->VK->Prop):Prop:=
 ∀(pins:List (Addr×Obj))(s:Shared)(σ:St)(H:Hp)(x:V)(xs:List V)(v:Value)(us:List Value)(Q:VK),Inv X pins σ H s->RelV x v->BM xs us->r x xs H Q->
  wpAny (model L2.P L2.w) X.A (call (.builtin id) (v::us)) (EP X pins σ Q) X.xe s
section
variable{X:Cx}{a b:Expr}{ta tb:TE}{pos:Pos}
theorem AY(hr:R3 X r)(ha:PE X a ta)(hb:PE X b tb)(hs:r6 b:=by exact fun _ _=>rfl):PE X (.Subscript a b pos) (Br r ta tb):=by
 intro pins s σ H Q I h;exact Subscript_ (WR ha hb I h fun v u s2 x y H2 I2 rx ry q=>hr a b pins s2 σ H2 x y v u Q I2 rx ry q (hs _ _))
def JG(K:Aj):R2:=fun x y H Q=> ∃p xs i v,x=.ref p/\y=.int i/\B0 K H p xs/\DX xs i=some v/\Q v H
def Ku(K:Aj):R2:=fun x y H Q=> ∃p xs i v,x=.ref p/\y=.int i/\B9 K H p xs/\DX xs i=some v/\Q v H
def WZ:R2:=fun x y H Q=> ∃z i c,x=.str z/\y=.int i/\z.length<=sizeLine/\DX z.cps.toList i=some c/\Q (.str ⟨#[c]⟩) H
theorem Ah:R3 X (JG L2.K):=by
 intro value slice pins s σ H x y v u Q I rx ry h hs;obtain⟨p,xs,i,z,rfl,rfl,hq,he,q⟩:=h;cases rx;obtain⟨t,rfl⟩:=ry;obtain⟨AV,r,pl,hz⟩:=I.list hq;obtain⟨j,h1,h2,h3,h4,h5⟩:=WY he;obtain⟨w,ew,Mp⟩:=r.get h2;have hl:=r.length;have hn:=NR;have fin:EP X pins σ Q w s:=⟨z,H,I,Mp,q⟩;by_cases h0:0<=i
 ·have hj:i.toNat=j:=by
   rw [seqIndex_of h0 h5]at h1;exact BQ h1
  exact item_listR pl.isList h0 (by lia) (by rw [hj];simpa using ew) fin hs
 ·have hj:(i+(AV.toArray.size:Int)).toNat=j:=by
   rw [oz (by lia) h4]at h1;rw [D2,<-hl];exact BQ h1
  exact AFT (x:=w) pl.isList.typeIs slot_list_getitem.lookup
   (wpAny_getItem_list_neg (Q:=fun r s'=>r=w/\EP X pins σ Q r s') pl.isList (by lia) (by rw [D2]<;>lia) (by lia) (by rw [hj];simpa using ew) ⟨rfl,fin⟩) hs
theorem Dx:R3 X (Ku L2.K):=by
 intro value slice pins s σ H x y v u Q I rx ry h hs;obtain⟨p,xs,i,z,rfl,rfl,hq,he,q⟩:=h;cases rx;obtain⟨t,rfl⟩:=ry;obtain⟨AV,r,pl,hz⟩:=I.tuple hq;obtain⟨j,h1,h2,h3,h4,h5⟩:=WY he;obtain⟨w,ew,Mp⟩:=r.get h2;have hl:=r.length;have hn:=NR;have fin:EP X pins σ Q w s:=⟨z,H,I,Mp,q⟩;exact AFT (x:=w) pl.typeIs slot_tuple_getitem.lookup
  (getItem_tuple (j:=j) (Q:=fun r s'=>r=w/\EP X pins σ Q r s') pl (by lia) (by lia) (by rw [D2,<-hl];exact h1) (by simpa using ew) ⟨rfl,fin⟩) hs
theorem Wa:R3 X WZ:=by
 intro value slice pins s σ H x y v u Q I rx ry h hs;obtain⟨z,i,c,rfl,rfl,hz,he,q⟩:=h;obtain⟨t,rfl⟩:=rx;obtain⟨t',rfl⟩:=ry;obtain⟨j,h1,h2,h3,h4,h5⟩:=WY he;have hl:z.cps.toList.length=z.length:=by simp [Str.length]
 rw [hl]at h1 h4 h5;have hn:=NR;exact tail_any (RK s z t) slot_str_getitem.lookup (getItem_str (c:=c) (by
  have e1:decide (i< -(2^63:Int))=false:=Bh (by lia);have e2:decide (i>=2^63)=false:=Bh (by lia);rw [e1,e2,o3]) (by rw [h1];simpa using h2) ⟨.str ⟨#[c]⟩,H,I.tok _,⟨_,rfl⟩,q⟩) hs
theorem r8(AV:List Value)(n j:Nat)(u:Value):VX (·.setIfInBounds j u) {cls:=.type "list",data:=.seq AV.toArray n}={cls:=.type "list",data:=.seq (AV.set j u).toArray n}:=by
 simp [VX]
theorem Inv.lst(I:Inv X pins σ H s)(h:H p=some (.lst xs)):
 ∃(AV:List Value)(n:Nat),BM xs AV/\s.heap.get? p=some {cls:=.type "list",data:=.seq AV.toArray n}/\xs.length<=sizeLine:=by
 obtain⟨z,AV,n,r,e⟩:=I.Af p _ h;exact⟨AV,n,r,e,z⟩
theorem Inv.AEj{pins:List (Addr×Obj)}{σ:St}{H:Hp}{s:Shared}{p:Addr}{xs ys:List V}{AV its':List Value}{n n':Nat}{f:Obj->Obj}(I:Inv X pins σ H s)(h:H p=some (.lst xs))
 (ho:s.heap.get? p=some {cls:=.type "list",data:=.seq AV.toArray n})(hf:f {cls:=.type "list",data:=.seq AV.toArray n}={cls:=.type "list",data:=.seq its'.toArray n'})(r:BM ys its')(hz:ys.length<=sizeLine)(t:Nat):
 Inv X pins σ (upd H p (.lst ys)) {s with heap:=s.heap.update p f,toks:=t}:=by
 have e:(s.heap.update p f).get? p=some {cls:=.type "list",data:=.seq its'.toArray n'}:=by
  rw [AFU f ho (by rw [hf]<;>rfl),hf]
 refine I.write (x:=p) (e:=p) (by rw [h];trivial) (.inl rfl) (fun b u hb q=>(AFV _ _ (Ne.symm hb)).trans q) ⟨_,e⟩ ?_;exact⟨hz,its',n',r,e⟩
def r9:V->V->V->Hp->(Hp->Prop)->Prop:=fun o i v H Q=> ∃p xs k j,o=.ref p/\i=.int k/\H p=some (.lst xs)/\G4 xs.length k=some j/\Q (upd H p (.lst (xs.set j v)))
theorem dQ:cV X r9:=by
 intro pins s σ H o i v ov iv u Q I ro ri rv h;obtain⟨p,xs,k,j,rfl,rfl,hp,hj,q⟩:=h;cases ro;obtain⟨t,rfl⟩:=ri;obtain⟨AV,n,r,ho,hz⟩:=I.lst hp;obtain⟨h1,h2,h3,h4⟩:=dO hj;have hl:=r.length;have hn:=NR;have I':Inv X pins σ (upd H p (.lst (xs.set j v))) {s with heap:=s.heap.update p (VX (·.setIfInBounds j u))}:=
  I.AEj hp ho (r8 AV n j u) (r.set rv j) (by rw [ae];exact hz) s.toks
 by_cases h0:0<=k
 ·have hk:k.toNat=j:=by
   rw [seqIndex_of h0 h4]at h1;exact BQ h1
  exact PySem.W.ki_setAt ho h0 (by lia) (by rw [D2,<-hl];exact h4) (by rw [hk];exact⟨_,I',q⟩)
 ·have hk:(k+(AV.toArray.size:Int)).toNat=j:=by
   rw [oz (by lia) h3]at h1;rw [D2,<-hl];exact BQ h1
  exact PySem.W.ki_setBack ho (by lia) (by rw [D2,<-hl];exact h3) (by lia) (by rw [hk];exact⟨_,I',q⟩)
theorem r_(lo hi:Option Int)(n:Nat):(sliceBounds lo hi none n).1=((HT.Bm n 0 lo:Nat):Int)/\(sliceBounds lo hi none n).2.1=((HT.Bm n n hi:Nat):Int)/\(sliceBounds lo hi none n).2.2=1:=by
 refine⟨?_,?_,rfl⟩
 ·cases lo with
  |none=>simp [sliceBounds,HT.Bm]
  |some i=>
   simp only [sliceBounds,HT.Bm,o5,show(1:Int) >0 by decide,E8];by_cases h:i<0
   ·simp only [h,E8]<;>lia
   ·simp only [h,GQ]<;>lia
 ·cases hi with
  |none=>simp [sliceBounds,HT.Bm]
  |some i=>
   simp only [sliceBounds,HT.Bm,o5,show(1:Int) >0 by decide,E8];by_cases h:i<0
   ·simp only [h,E8]<;>lia
   ·simp only [h,GQ]<;>lia
theorem sE(AV:List Value)(lo hi:Option Int):slicePick AV.toArray lo hi none=((AV.drop (HT.Bm AV.length 0 lo)).take (HT.Bm AV.length AV.length hi-HT.Bm AV.length 0 lo)).toArray:=by
 obtain⟨h1,h2,h3⟩:=r_ lo hi AV.toArray.size;unfold slicePick;rw [h1,h2,h3];simp only [sliceRange_one,pick_run,D2]<;>rfl
def sG(K:Aj):V->Option Int->Option Int->Hp->VK->Prop:=fun x lo hi H Q=> ∃a xs,x=.ref a/\B0 K H a xs/\ ∀p,H p=none->Q (.ref p) (upd H p (.lst (Kt xs lo hi)))
theorem dR:WX X (sG L2.K):=by
 intro pins s σ H x v vl vu lo hi sl Q I rx hs pl pu h;obtain⟨a,xs,rfl,hx,q⟩:=h;cases rx;obtain⟨AV,r,ht,hz⟩:=I.list hx;have hlen:=r.length;refine⟨"list",_,slot_list_getitem.lookup,ht.isList.typeIs,?_⟩;refine wpAny_getItem_list_slice ht.isList hs pl pu .none (by simp) ?_ (by rw [D2]<;>lia);rw [sE,<-hlen];refine⟨.ref s.heap.objs.size,_,I.laid (t':=s.toks) (o:=.lst (Kt xs lo hi)) (fun b ob q=>Ca _ q) (BO _) ?_,rfl,q _ (I.Af.fresh (BO _))⟩;exact⟨A9 (rq xs lo hi) hz,_,0,(r.drop (HT.Bm xs.length 0 lo)).take (HT.Bm xs.length xs.length hi-HT.Bm xs.length 0 lo),Er _ rfl⟩
theorem H_:GY X (.builtin "len") (fun xs H Q=> ∃p ys,xs=[.ref p]/\(B0 L2.K H p ys\/B9 L2.K H p ys)/\Q (.int ys.length) H):=by
 intro pins s σ H xs us Q I r h;obtain⟨p,ys,rfl,hq,q⟩:=h;obtain⟨u,rfl,rx⟩:=vals1 r;cases rx;have hn:=NR;rcases hq with hq|hq
 ·obtain⟨AV,r',pl,hz⟩:=I.list hq;have hlen:=r'.length;exact Calls.call_len_list pl.isList (by simp only [D2]<;>lia) ⟨.int ys.length,H,I.tok _,⟨s.toks+1,by rw [D2,hlen]⟩,q⟩
 ·obtain⟨AV,r',pl,hz⟩:=I.tuple hq;have hlen:=r'.length;exact len_tuple pl (by simp only [D2]<;>lia) ⟨.int ys.length,H,I.tok _,⟨s.toks+1,by rw [D2,hlen]⟩,q⟩
theorem MA:GY X (.builtin "len") (fun xs H Q=> ∃z,xs=[.str z]/\z.length<=sizeLine/\Q (.int z.length) H):=by
 intro pins s σ H xs us Q I r h;obtain⟨z,rfl,hz,q⟩:=h;obtain⟨u,rfl,t,rfl⟩:=vals1 r;have hn:=NR;exact len_str (by lia) ⟨.int z.length,H,I.tok _,⟨_,rfl⟩,q⟩
def Wb(K:Aj)(T:String)(x:V)(H:Hp):Prop:=match x with
 |.str _=>T="str"
 |.int _=>T="int"
 |.ref p=>(T="list"/\ ∃xs,B0 K H p xs)\/(T="tuple"/\ ∃o,K.lookup p=some o/\o.cls=.type "tuple"/\o.dict=none)\/
  (T="dict"/\((∃AS,H p=some (.dK AS))\/ ∃AS,H p=some (.dT AS)))\/(T="set"/\ ∃S n,H p=some (.set S n))
 |_=>False
theorem dS{T:String}(I:Inv X pins σ H s)(r:RelV x v)(ty:Wb L2.K T x H):
 s.TypeIs v T/\ ∀a,v=.ref a-> ∃ob,s.heap.get? a=some ob/\ob.dict=none:=by
 cases x with
 |str z=>
  obtain⟨t,rfl⟩:=r;cases (show T="str"from ty);exact⟨RK s z t,fun _ e=>nomatch e⟩
 |int i=>
  obtain⟨t,rfl⟩:=r;cases (show T="int"from ty);exact⟨typeIs_int s i t,fun _ e=>nomatch e⟩
 |ref p=>
  cases r;rcases ty with⟨rfl,xs,hq⟩|⟨rfl,o,hk,hc,hd⟩|⟨rfl,hk⟩|⟨rfl,S,n,hk⟩
  ·obtain⟨AV,_,pl,_⟩:=I.list hq;refine⟨pl.isList.typeIs,fun a e=>?_⟩;cases e;obtain⟨o,n,e,c,hd,_⟩:=pl;exact⟨o,e,hd⟩
  ·refine⟨⟨o,I.Ea p o hk,hc⟩,fun a e=>?_⟩;cases e;exact⟨o,I.Ea _ o hk,hd⟩
  ·have z: ∃o,s.heap.get? p=some o/\o.ExactDict:=by
    rcases hk with⟨AS,hk⟩|⟨AS,hk⟩
    ·obtain⟨_,_,_,_,o,_,_,e,ex,_⟩:=I.Af p _ hk;exact⟨o,e,ex⟩
    ·obtain⟨_,_,_,_,o,_,_,e,ex,_⟩:=I.Af p _ hk;exact⟨o,e,ex⟩
   obtain⟨o,e,ex⟩:=z;refine⟨⟨o,e,ex.1⟩,fun a e2=>?_⟩;cases e2;exact⟨o,e,ex.2.1⟩
  ·obtain⟨o,_,_,_,e,ex,_⟩:=I.Af p _ hk;refine⟨⟨o,e,ex.1⟩,fun a e2=>?_⟩;cases e2;exact⟨o,e,ex.2.1⟩
 |_=>exact Dp ty
def dU(K:Aj)(T:String)(r:V->List V->Hp->VK->Prop)(to:TE):TE:=fun σ H Q=>to σ H fun x H1=>Wb K T x H1/\r x [] H1 Q
def Wc(K:Aj)(T:String)(r:V->List V->Hp->VK->Prop)(to:TE)(t:TA):TE:=fun σ H Q=>to σ H fun x H1=>Wb K T x H1/\t σ H1 fun xs H2=>r x xs H2 Q
variable{o e:Expr}{es:List Expr}{to:TE}{t:TA}{name:Str}{apos EC:Pos}{T id:String}{r:V->List V->Hp->VK->Prop}
theorem PM(pa:PlainAttrs T)(slot:Slot T name id)(LX:typeOf (.builtin id)=pure (.type "method_descriptor"))(hm:Jx X id r)(ho:PE X o to)
 (ZL:attributeBase o name X.env (eval o X.env)=eval o X.env:=by rfl)(ZM:(apos.endLine==EC.line)=true:=by rfl):PE X (.Call (.Attribute o name apos) [] [] EC) (dU L2.K T r to):=by
 intro pins s σ H Q I h;refine wpAny_Call_method0_late ZL ZM (As (ho pins s σ H _ I h) fun v s1 ⟨x,H1,I1,r1,ty,q1⟩=>?_);obtain⟨h1,h2⟩:=dS I1 r1 ty;exact⟨T,id,pa,slot,LX,h1,h2,ag rfl (PySem.evalArgs_none (hm pins s1 σ H1 x [] v [] Q I1 r1 .nil q1))⟩
theorem Fp(pa:PlainAttrs T)(slot:Slot T name id)(LX:typeOf (.builtin id)=pure (.type "method_descriptor"))(hm:Jx X id r)(ho:PE X o to)(ha:PA X (e::es) t)
 (ZL:attributeBase o name X.env (eval o X.env)=eval o X.env:=by rfl)
 (AEk:((backTo EC (starEach (e::es) X.env)).all (fun x=> !x.1)&&(backToKw EC (keywordEach [] X.env)).all (fun x=>x.1.isSome)
  &&decide ((e::es).length+([]:List Keyword).length+(if([]:List Keyword).isEmpty then 0 else 1) <30))=true:=by rfl)
 (ZM:(apos.endLine==EC.line)=true:=by rfl)(hs:starEach (e::es) X.env=(false,eval e X.env)::starEach es X.env:=by rfl)(AEl:(backTo EC (starEach es X.env)).any (·.1)=false:=by rfl):
 PE X (.Call (.Attribute o name apos) (e::es) [] EC) (Wc L2.K T r to t):=by
 intro pins s σ H Q I h;refine wpAny_Call_method_late ZL AEk ZM rfl (As (ho pins s σ H _ I h) fun v s1 ⟨x,H1,I1,r1,ty,q1⟩=>?_);obtain⟨h1,h2⟩:=dS I1 r1 ty;refine⟨T,id,pa,slot,LX,h1,h2,?_⟩;have hA:=ha EC pins s1 σ H1 _ I1 q1;rw [hs]at hA⊢;refine ag (by show(false||(backTo EC (starEach es X.env)).any (·.1))=false;rw [AEl]<;>rfl) (o6 ?_);exact As hA fun us s2 ⟨vs,H2,I2,r2,q2⟩=>hm pins s2 σ H2 x vs v us Q I2 r1 r2 q2
end
end L2
namespace L2
open PySem PySem.Spec PyProof.Rows
def dW(X:Cx)(id:String)(r:V->List V->Hp->VK->Prop):Prop:=
 ∀(pins:List (Addr×Obj))(s:Shared)(σ:St)(H:Hp)(x:V)(xs:List V)(v:Value)(us:List Value)(Q:VK),Inv X pins σ H s->RelV x v->BM xs us->r x xs H Q->
  wpAny (model L2.P L2.w) X.A (call (.builtin id) (v::us)) (EP X pins σ Q) X.xe s
theorem BM.one: ∀{x:V}{us:List Value},BM [x] us-> ∃u,us=[u]/\RelV x u
 |_,_,.cons r .nil=>⟨_,rfl,r⟩
section
variable{X:Cx}{pins:List (Addr×Obj)}{σ:St}{H:Hp}{s:Shared}{l b:Addr}{xs ys zs:List V}
theorem Inv.mP{AV its':List Value}{n:Nat}{f:Array Value->Array Value}{t':Nat}(I:Inv X pins σ H s)(hH:H l=some (.lst xs))
 (e:s.heap.get? l=some {cls:=.type "list",data:=.seq AV.toArray n})(hf:f AV.toArray=its'.toArray)(hv:BM ys its')(hz:ys.length<=sizeLine):
 Inv X pins σ (upd H l (.lst ys)) {s with heap:=s.heap.update l (VX f),toks:=t'}:=by
 have q:=PySem.IsL.update e f;rw [hf]at q;refine I.write (x:=l) (e:=l) (by rw [hH];exact trivial) (.inl rfl) (fun b' u hb hu=>(AFV s.heap (VX f) (Ne.symm hb)).trans hu) ⟨_,q⟩ ?_;exact⟨hz,its',_,hv,q⟩
theorem Inv.AEm(I:Inv X pins σ H s)(hv:BM ys AV)(hz:ys.length<=sizeLine):
 Inv X pins σ (upd H s.heap.objs.size (.lst ys)) {s with heap:=s.heap.push {cls:=.type "list",data:=.seq AV.toArray},toks:=t'}:=
 I.laid (fun _ _ q=>Ca _ q) (BO _) ⟨hz,AV,0,hv,Er _ rfl⟩
theorem Inv.fresh(I:Inv X pins σ H s):H s.heap.objs.size=none:=I.Af.fresh (BO _)
theorem Inv.Qj(I:Inv X pins σ H s)(hH:H l=some (.lst xs)):xs.length<=sizeLine/\ ∃(AV:List Value)(n:Nat),BM xs AV/\xs.length=AV.length/\s.heap.get? l=some {cls:=.type "list",data:=.seq AV.toArray n}:=by
 obtain⟨z,AV,n,r,e⟩:=I.Af l _ hH;exact⟨z,AV,n,r,r.length,e⟩
theorem sH(h:n<=sizeLine):o7 n=false:=by
 unfold o7;exact Bh (by lia)
end
section
variable{X:Cx}
def sI:V->List V->Hp->VK->Prop:=fun x vs H Q=> ∃l xs y,x=.ref l/\vs=[y]/\H l=some (.lst xs)/\xs.length<sizeLine/\Q .BZ (upd H l (.lst (xs++[y])))
theorem Wd:dW X "list.append" sI:=by
 intro pins s σ H x vs v us Q I rx rv h;obtain⟨l,xs,y,rfl,rfl,hH,hz,q⟩:=h;cases rx;obtain⟨u,rfl,ru⟩:=rv.one;obtain⟨z,AV,n,r,hl,e⟩:=I.Qj hH;refine VY ah ⟨_,e,rfl⟩ F.entry_list_append (F.args_list_append_2 _ _) (PySem.list_append l AV.toArray n u (by rw [D2];lia)) ⟨e,?_⟩;refine⟨.BZ,_,I.mP (its':=AV++[u]) hH e (by simp) (r.append (.cons ru .nil)) ?_,rfl,q⟩;rw [CD,AFW];lia
def sM:V->List V->Hp->VK->Prop:=fun x vs H Q=> ∃l b xs zs,x=.ref l/\vs=[.ref b]/\H l=some (.lst xs)/\H b=some (.lst zs)/\xs.length+zs.length<=sizeLine/\Q .BZ (upd H l (.lst (xs++zs)))
theorem sN:dW X "list.extend" sM:=by
 intro pins s σ H x vs v us Q I rx rv h;obtain⟨l,b,xs,zs,rfl,rfl,hH,hB,hz,q⟩:=h;cases rx;obtain⟨u,rfl,ru⟩:=rv.one;cases ru;obtain⟨z,AV,n,r,hl,e⟩:=I.Qj hH;obtain⟨z2,GJ,n2,r2,Bp,e2⟩:=I.Qj hB;have hsz:AV.toArray.size+GJ.toArray.size<=sizeLine:=by rw [D2,D2];lia
 have AEn: ¬(!AV.toArray.isEmpty&&o7 (AV.toArray.size+GJ.toArray.size))=true:=by
  rw [sH hsz,ai];exact F0
 refine VY AFX ⟨_,e,rfl⟩ F.entry_list_extend (F.args_list_extend_2 _ _)
  (AutoSeq1.list_extend_list_list_0 l AV.toArray n b GJ.toArray n2 AEn (by rw [D2];lia) (by lia)) ⟨e,e2,?_⟩
 refine⟨.BZ,_,I.mP (its':=AV++GJ) hH e (by simp) (r.append r2) ?_,rfl,q⟩;rw [CD];lia
def sO:R2:=fun x y H Q=> ∃l b xs zs,x=.ref l/\y=.ref b/\H l=some (.lst xs)/\H b=some (.lst zs)/\xs.length+zs.length<=sizeLine/\ ∀p,H p=none->Q (.ref p) (upd H p (.lst (xs++zs)))
theorem We:DP X (binaryOp .Add) sO:=by
 intro pins s σ H x y v u Q I rx ry h;obtain⟨l,b,xs,zs,rfl,rfl,hH,hB,hz,q⟩:=h;cases rx;cases ry;obtain⟨z,AV,n,r,hl,e⟩:=I.Qj hH;obtain⟨z2,GJ,n2,r2,Bp,e2⟩:=I.Qj hB;refine PySem.P.add_list e e2 ?_ (by rw [D2,D2];lia);have ea:AV.toArray++GJ.toArray=(AV++GJ).toArray:=by simp
 rw [ea];exact⟨.ref _,_,I.AEm (t':=s.toks) (r.append r2) (by rw [CD];lia),rfl,q _ I.fresh⟩
end
end L2
namespace L2
open PySem PySem.Spec PyProof.Rows
theorem BM.ints: ∀{ns:List Int}{us:List Value},BM (ns.map V.int) us->IntsAre us ns
 | [],us,h=>by
  rw [RL]at h;cases h;exact IntsAre.nil
 |n::ns,us,h=>by
  rw [Fj]at h;cases h with
  |cons r t=>
   obtain⟨k,rfl⟩:=r;exact IntsAre.cons n k (BM.ints t)
theorem BM.mQ: ∀{bs:List Bool}{us:List Value},BM (bs.map V.bl) us->us=bs.map RC
 | [],us,h=>by
  rw [RL]at h;cases h;rfl
 |b::bs,us,h=>by
  rw [Fj]at h;cases h with
  |cons r t=>
   cases r;rw [BM.mQ t,Fj]
theorem lZ(r:BM [V.ref a] us):us=[DC a]:=by
 cases r with
 |cons r t=>
  cases t;cases r;rfl
section
variable{prog:Program}{w:World}{A:Around}{E:Value->Shared->Prop}{s:Shared}{l:Addr}{AV:List Value}{ns:List Int}{Q:Value->Shared->Prop}
theorem sP(hh:A.handled=none)(hl:s.heap.IsList l AV.toArray)(hi:IntsAre AV ns)
 (h: ∀h' tk t',(∀b o,s.heap.get? b=some o->h'.get? b=some o)->Q (.int ns.sum t') {s with heap:=h',toks:=tk}):wpAny (model prog w) A (call (.builtin "sum") [.ref l]) Q E s:=by
 obtain⟨xs,e⟩:=hi.allInts.items;have hn:numsOf (intItems xs).toList=ns:=by rw [<-e];exact hi.numsOf
 rw [nums_intItems]at hn;rw [e]at hl;refine PySem.sum_intListG hh hl fun h' tk t' hk=>?_
 have :=h h' tk t' hk;rw [preSum_eq,Il (by simp),hn];exact this
end
section
variable{X:Cx}
def sQ(K:Aj):List V->Hp->VK->Prop:=fun vs H Q=> ∃(a:Addr)(ns:List Int),vs=[V.ref a]/\B0 K H a (ns.map V.int)/\Q (.int ns.sum) H
theorem sR(hc:X.calm=true):GY X (.builtin "sum") (sQ L2.K):=by
 intro pins s σ H vs us Q I r h;obtain⟨a,ns,rfl,hs,q⟩:=h;obtain⟨AV,rv,hl,_⟩:=I.list hs;rw [lZ r];exact sP (I.ok.hd hc) hl.isList rv.ints fun h' tk t' hk=>⟨.int _,H,I.kept hk,⟨_,rfl⟩,q⟩
end
theorem sS{w:World}(hl:s.heap.IsList l items)
 (h: ∀E6:Shared,E6={s with heap:=s.heap.push {cls:=.type "list_iterator",data:=.fields #[.ref l,.int 0 0]}}->
   (E6.heap.IsListIter s.heap.objs.size l 0/\E6.heap.IsList l items)->l≠s.heap.objs.size->Q (.ref s.heap.objs.size) E6):wpAny (model prog w) A (pyIter (.ref l)) Q E s:=by
 have Bk:l<s.heap.objs.size:=by obtain⟨_,e,_⟩:=hl;exact B6 e
 exact oY hl (h _ rfl ⟨⟨_,Er _ rfl,rfl,rfl⟩,hl.push _⟩ (Fh Bk))
theorem sT{prog:Program}{w:World}{A:Around}{bs:List Bool}{AV:List Value}(e:AV=bs.map RC):
 TruthOf prog w A (fun i v=>AV.toArray[i]? =some v) (fun i=>bs.getD i false):=fun i v s Q E hv hq=>by
 have Ur:AV[i]? =some v:=by simpa using hv
 rw [e,De]at Ur;obtain⟨b,hb,rfl⟩:=Option.map_eq_some_iff.mp Ur;have hg:bs.getD i false=b:=by rw [AFY,hb]<;>rfl
 have Ic:Q (bs.getD i false) s:=hq;rw [hg]at Ic;exact RF Ic
theorem any_range: ∀bs:List Bool,(Hl bs.length).any (fun i=>bs.getD i false)=bs.any id
 | []=>rfl
 |b::bs=>by
  rw [BU,List.range_succ_eq_map,Jf,o8,Jf,<-any_range bs]
  all_goals rfl
section
variable{X:Cx}
def sU(K:Aj):List V->Hp->VK->Prop:=fun vs H Q=> ∃(a:Addr)(bs:List Bool),vs=[V.ref a]/\B0 K H a (bs.map V.bl)/\Q (.bl (bs.any id)) H
theorem dX(hc:X.calm=true):GY X (.builtin "any") (sU L2.K):=by
 intro pins s σ H vs us Q I r h;obtain⟨a,bs,rfl,hs,q⟩:=h;obtain⟨AV,rv,hl,_⟩:=I.list hs;rw [lZ r];have hb:=rv.mQ;refine call_any_walk (sS hl.isList fun E6 e2 st MB=>?_);subst e2;refine⟨_,_,_,_,_,_,_,rfl,Walks.list (A:=X.A.in1) (I.ok.hd hc) _ a MB AV.toArray,st,sT hb,fun h' tk hk=>?_⟩;refine⟨.bl _,H,I.kept fun b o eo=>hk b o (fun ZN=>?_) (Ca _ eo),?_,q⟩
 ·rcases DL.mp ZN with e1|ZN
  ·exact absurd (e1▸B6 eo) (Hk _)
  ·cases ZN
 ·show RC _=RC _;rw [<-any_range,hb,D2,A5]
end
end L2
namespace L2
open PySem PySem.Spec PyProof.Rows
abbrev dY(h:Heap)(c:Addr)(v:Option Value):Prop:=h.IsCell c v
noncomputable def sV(scope sc:Scope):Scope:=
 {scope with names:=scope.names.map fun (n,k)=>if(k== .free&&sc.kind== .function&&sc.names.lookup n==some .cell)then(n,.cell)else(n,k)}
noncomputable def EJ(cells:List (Str×Addr)):List (Str×NameKind)->List (Str×Addr)->List (Str×Addr)
 | [],acc=>acc
 | (n,k)::r,acc=>if k== .free then EJ cells r ((n,(cells.lookup n).getD 0)::acc)else EJ cells r acc
theorem dZ(env:Env)(f:Str×NameKind->List (Str×Addr)->Sem (ForInStep (List (Str×Addr))))
 (hf: ∀n k c,f (n,k) c=if k== .free then(do let a<-cellOf env n;pure (.yield ((n,a)::c)))else pure (.yield c)):
 ∀(names:List (Str×NameKind))(acc:List (Str×Addr)),(∀y∈names,y.2=.free-> ∃c,env.cells.lookup y.1=some c)->forIn names acc f=pure (EJ env.cells names acc)
 | [],acc,_=>by rw [VZ];rfl
 | (n,k)::r,acc,h=>by
  rw [o9,hf];have ih:=fun acc=>dZ env f hf r acc fun y hy=>h y (Dn _ hy)
  unfold EJ;by_cases hk:(k==RM)=true
  ·rw [AG hk,AG hk];obtain⟨c,hc⟩:=h (n,k) Eb (by simpa using hk);have e:cellOf env n=pure c:=by unfold cellOf;rw [hc]
   rw [e];have e2:(env.cells.lookup n).getD 0=c:=by rw [hc];rfl
   rw [e2];exact ih _
  ·rw [AD hk,AD hk];exact ih _
theorem sW(h: ∀y∈scope.names,y.2=.free-> ∃c,env.cells.lookup y.1=some c):closureFor scope env=pure (EJ env.cells scope.names []):=by
 simp only [closureFor];rw [dZ env _ (fun n k c=>rfl) scope.names [] h];rfl
theorem mem_lookup: ∀{l:List (Str×α)}{n:Str}{c:α},(n,c)∈l-> ∃c',l.lookup n=some c'
 | (k,v)::r,n,c,h=>by
  rw [Jg];cases hb:n==k with
  |true=>exact⟨_,rfl⟩
  |false=>
   rcases DL.mp h with e|h
   ·cases e;simp at hb
   ·exact mem_lookup h
theorem R4: ∀{names:List (Str×NameKind)}{acc:List (Str×Addr)}{n:Str}{c:Addr},(n,c)∈EJ cells names acc->(n,c)∈acc\/((n,.free)∈names/\c=(cells.lookup n).getD 0)
 | [],_,_,_,h=>.inl h
 | (m,k)::r,acc,n,c,h=>by
  unfold EJ at h;split at h
  ·rename_i hk;have hk:k=.free:=by simpa using hk
   rcases R4 h with h|⟨h1,h2⟩
   ·rcases DL.mp h with e|h
    ·cases e;exact .inr ⟨hk▸Eb,rfl⟩
    ·exact .inl h
   ·exact .inr ⟨Dn _ h1,h2⟩
  ·rcases R4 h with h|⟨h1,h2⟩
   ·exact .inl h
   ·exact .inr ⟨Dn _ h1,h2⟩
theorem Wg: ∀{names:List (Str×NameKind)}{acc:List (Str×Addr)}{p:Str×Addr},p∈acc->p∈EJ cells names acc
 | [],_,_,h=>h
 | (m,k)::r,acc,p,h=>by
  unfold EJ;split
  ·exact Wg (Dn _ h)
  ·exact Wg h
theorem Wh: ∀{names:List (Str×NameKind)}{acc:List (Str×Addr)}{n:Str},(n,.free)∈names->(n,(cells.lookup n).getD 0)∈EJ cells names acc
 | (m,k)::r,acc,n,h=>by
  unfold EJ;rcases DL.mp h with e|h
  ·cases e;exact Wg Eb
  ·split
   ·exact Wh h
   ·exact Wh h
theorem PN: ∀{names:List (Str×NameKind)}{h:Heap}{acc:List (Str×Addr)}{x:Str}{c:Addr},(x,c)∈cellsFrom h.objs.size names acc->
 (x,c)∈acc\/((x,.cell)∈names/\h.objs.size<=c/\dY (pushCells h names) c none)
 | [],_,_,_,_,h=>.inl h
 | (n,k)::r,h,acc,x,c,hm=>by
  unfold cellsFrom at hm;unfold pushCells;split at hm
  ·rename_i hk;rw [AG hk];have hk:k=.cell:=by simpa using hk
   rw [<-F1 h {cls:=.type "cell",data:=.cell none}]at hm;rcases PN hm with hm|⟨h1,h2,h3⟩
   ·rcases DL.mp hm with e|hm
    ·cases e;exact .inr ⟨hk▸Eb,BO _,_,aj r _ _ _ (Er _ rfl),rfl⟩
    ·exact .inl hm
   ·rw [F1]at h2;exact .inr ⟨Dn _ h1,ak h2,h3⟩
  ·rename_i hk;rw [AD hk];rcases PN hm with hm|⟨h1,h2,h3⟩
   ·exact .inl hm
   ·exact .inr ⟨Dn _ h1,h2,h3⟩
theorem R5: ∀{names:List (Str×NameKind)}{n:Nat}{acc:List (Str×Addr)}{p:Str×Addr},p∈acc->p∈cellsFrom n names acc
 | [],_,_,_,h=>h
 | (m,k)::r,n,acc,p,h=>by
  unfold cellsFrom;split
  ·exact R5 (Dn _ h)
  ·exact R5 h
theorem Wj: ∀{names:List (Str×NameKind)}{n:Nat}{acc:List (Str×Addr)}{x:Str},(x,.cell)∈names-> ∃c,(x,c)∈cellsFrom n names acc
 | (m,k)::r,n,acc,x,h=>by
  unfold cellsFrom;rcases DL.mp h with e|h
  ·cases e;exact⟨n,R5 Eb⟩
  ·split
   ·exact Wj h
   ·exact Wj h
theorem Wk: ∀{names:List (Str×NameKind)}{h:Heap}{acc:List (Str×Addr)}{x y:Str}{c:Addr},(∀p∈acc,p.2<h.objs.size)->(∀x y c,(x,c)∈acc->(y,c)∈acc->x=y)->
 (x,c)∈cellsFrom h.objs.size names acc->(y,c)∈cellsFrom h.objs.size names acc->x=y
 | [],_,_,_,_,_,_,hi,h1,h2=>hi _ _ _ h1 h2
 | (n,k)::r,h,acc,x,y,c,hl,hi,h1,h2=>by
  unfold cellsFrom at h1 h2;split at h1
  ·rename_i hk;rw [AG hk]at h2;rw [<-F1 h {cls:=.type "cell",data:=.cell none}]at h1 h2;refine Wk (h:=h.push _) (fun p hp=>?_) (fun x y c a b=>?_) h1 h2
   ·rw [F1];rcases DL.mp hp with rfl|hp
    ·exact VQ _
    ·exact o_ (hl p hp)
   ·rcases DL.mp a with e|a<;>rcases DL.mp b with e'|b
    ·cases e;cases e';rfl
    ·cases e;exact absurd (hl _ b) (Hk _)
    ·cases e';exact absurd (hl _ a) (Hk _)
    ·exact hi _ _ _ a b
  ·rename_i hk;rw [AD hk]at h2;exact Wk hl hi h1 h2
theorem sX{M:Model}{A:Around}{E:Value->Shared->Prop}{s:Shared}{scope:Scope}{globals:Addr}{closure:List (Str×Addr)}{qual:Str}{func:Option Addr}{code:Value}{around:Env}{builtins:Addr}{Q:Env->Shared->Prop}
 (h:Q (newEnv scope s.heap.objs.size globals (cellsFrom (s.heap.objs.size+1) scope.names closure) qual func code (some around) builtins)
   {s with heap:=pushCells (s.heap.push {cls:=.type "dict",data:=.dict #[]}) scope.names}):
 wpAny M A (newFunctionEnv scope globals closure [] qual func code (some around) builtins) Q E s:=by
 simp only [newFunctionEnv,AFZ,E8];refine A4 (wpAny_alloc ?_);refine A4 (wpAny_layCells _ (fun n k c=>rfl) scope.names closure _ _ ?_);rw [show({s with heap:=s.heap.push {cls:=.type "dict",data:=.dict #[]}}:Shared).heap.objs.size=s.heap.objs.size+1 from F1 ..];rw [VZ];exact A4 (DD (DD h))
theorem Wl{sc:Scope}: ∀{names:List (Str×NameKind)}{x:Str}{k:NameKind},
 (names.map fun (n,k)=>if(k==RM&&sc.kind== .function&&sc.names.lookup n==some .cell)then(n,pA)else(n,k)).lookup x=some k->
 ∃k',names.lookup x=some k'/\(k=k'\/(k'=.free/\k=.cell))
 | [],_,_,h=>by simp at h
 | (n,Qk)::r,x,k,h=>by
  have ih:= @Wl sc r x k;have h':M0 x ((if(Qk==RM&&sc.kind== .function&&sc.names.lookup n==some .cell)=true then(n,pA)else(n,Qk))::(r.map _))=some k:=h;cases hx:x==n with
  |true=>
   simp only [Jg,hx];by_cases hc:(Qk==RM&&sc.kind== .function&&sc.names.lookup n==some .cell)=true
   ·rw [AG hc]at h';simp only [Jg,hx]at h';cases h';simp only [BK,GP]at hc;exact⟨Qk,rfl,.inr ⟨hc.1.1,rfl⟩⟩
   ·rw [AD hc]at h';simp only [Jg,hx]at h';cases h';exact⟨_,rfl,.inl rfl⟩
  |false=>
   simp only [Jg,hx];by_cases hc:(Qk==RM&&sc.kind== .function&&sc.names.lookup n==some .cell)=true
   ·rw [AG hc]at h';simp only [Jg,hx]at h';exact ih h'
   ·rw [AD hc]at h';simp only [Jg,hx]at h';exact ih h'
structure Kv(N:List Str)(sc scope:Scope)(own:List (Str×Nat)):Prop where
 kind:scope.kind=.function
 uniq: ∀y∈scope.names,scope.names.lookup y.1=some y.2
 ix: ∀p∈own,N[p.2]? =some p.1
 free: ∀y∈scope.names,y.2=.free->sc.names.lookup y.1=some .cell\/sc.names.lookup y.1=some .free
 own: ∀y∈scope.names,y.2=.local\/y.2=.cell->y.1∈own.map (·.1)\/y.1∉N
noncomputable def DY(σ:St):List Nat->St
 | []=>σ
 |v::vs=>(DY σ vs).set v none
theorem Wm(σ:St): ∀vs:List Nat,(DY σ vs).length=σ.length
 | []=>rfl
 |v::vs=>by unfold DY;rw [ae,Wm σ vs]
theorem Wn: ∀{vs:List Nat},(DY σ vs)[i]? =some (some x)->σ[i]? =some (some x)/\i∉vs
 | [],h=>⟨h,by simp⟩
 |v::vs,h=>by
  unfold DY at h;by_cases hi:v=i
  ·subst hi;by_cases hv:v< (DY σ vs).length
   ·rw [My hv]at h;cases h
   ·rw [ao (by simpa using hv)]at h;cases h
  ·rw [VL hi]at h;obtain⟨h1,h2⟩:=Wn h;exact⟨h1,by simp only [DL,not_or];exact⟨fun e=>hi e.symm,h2⟩⟩
abbrev Cx.blk(X:Cx)(s:Shared)(H:Hp)(scope:Scope)(C9:Env)(fp:List Addr):Cx:={X with EA:=s,H_0:=H,env:=C9,outer:=X.stack,ex:=fp,fn:=fun x=>scope.names.lookup x==some .cell,pn:=[],xe:=fun _ _=>False}
section
variable{X:Cx}{pins:List (Addr×Obj)}{σ:St}{H:Hp}{s:Shared}
theorem sY{scope:Scope}{own:List (Str×Nat)}{fp:List Addr}(I:Inv X pins σ H s)(ok:Kv X.N X.env.scope scope own)(hN:X.N.Nodup)(OO: ∀b∈fp,HP X pins H b/\b<s.heap.objs.size):
 Inv (X.blk s H scope (compEnvC scope (cellsFrom (s.heap.objs.size+1) scope.names (EJ X.env.cells scope.names [])) s.heap.objs.size X.env) fp) [] (DY σ (own.map (·.2))) H {s with heap:=pushCells (s.heap.push {cls:=.type "dict",data:=.dict #[]}) scope.names}:=by
 have OJ: ∀y∈scope.names,y.2=.free-> ∃c,X.env.cells.lookup y.1=some c:=fun y hy e=>by
  rcases ok.free y hy e with k|k
  ·exact I.ok.has _ (.inl k)
  ·exact I.ok.has _ (.inr k)
 generalize Ql:compEnvC scope (cellsFrom (s.heap.objs.size+1) scope.names (EJ X.env.cells scope.names [])) s.heap.objs.size X.env=C9;have kp: ∀b o,s.heap.get? b=some o->(pushCells (s.heap.push {cls:=.type "dict",data:=.dict #[]}) scope.names).get? b=some o:=fun b o e=>aj _ _ _ _ (Ca _ e)
 have hL:C9.locals=s.heap.objs.size:=by rw [<-Ql];rfl
 have Ja:C9.cells=cellsFrom (s.heap.objs.size+1) scope.names (EJ X.env.cells scope.names []):=by rw [<-Ql];rfl
 have ZO:C9.scope=sV scope X.env.scope:=by rw [<-Ql];rfl
 rw [<-F1 s.heap {cls:=.type "dict",data:=.dict #[]}]at Ja;have cm: ∀{y c},(y,c)∈EJ X.env.cells scope.names []->X.env.cells.lookup y=some c/\c<s.heap.objs.size:=fun {y c} hm=>by
  rcases R4 hm with hm|⟨h1,rfl⟩
  ·cases hm
  ·obtain⟨c,hc⟩:=OJ _ h1 rfl;rw [hc];obtain⟨w,z⟩:=I.cell _ _ hc;exact⟨rfl,z.lt⟩
 have mem: ∀{y c},C9.cells.lookup y=some c->(X.env.cells.lookup y=some c/\c<s.heap.objs.size)\/(s.heap.objs.size+1<=c/\dY (pushCells (s.heap.push {cls:=.type "dict",data:=.dict #[]}) scope.names) c none):=fun {y c} e=>by
  rw [Ja]at e;rcases PN (Gs e)with hm|⟨_,h2,h3⟩
  ·exact .inl (cm hm)
  ·rw [F1]at h2;exact .inr ⟨h2,h3⟩
 have look: ∀{y},scope.names.lookup y=some .free-> ∃c,C9.cells.lookup y=some c/\X.env.cells.lookup y=some c:=fun {y} hl=>by
  have hy:(y,RM)∈scope.names:=Gs hl;obtain⟨c',e'⟩:=mem_lookup (R5 (names:=scope.names) (n:=(s.heap.push {cls:=.type "dict",data:=.dict #[]}).objs.size) (Wh (cells:=X.env.cells) (acc:=[]) hy));rw [<-Ja]at e';refine⟨c',e',?_⟩;rw [Ja]at e';rcases PN (Gs e')with hm|⟨h1,_,_⟩
  ·exact(cm hm).1
  ·have :=ok.uniq _ h1;rw [hl]at this;cases this
 have okB:(X.blk s H scope C9 fp).Ok:=by
  refine⟨I.ok.mod,by show C9.scope.kind=_;rw [ZO];exact ok.kind,by show C9.globals=_;rw [<-Ql];exact I.ok.glob,by show C9.builtins=_;rw [<-Ql];exact I.ok.blt,by show s.heap.objs.size<=C9.locals;rw [hL];exact BO _,
   fun y z c e1 e2=>?_,fun y hy=>?_,fun y c z e=>?_,I.ok.hd,I.ok.frames,.inl rfl,fun b hb=>⟨?_,fun y c e z=>?_⟩,I.bs,A9 I.ok.HB I.sz,fun b o e hb=>?_,fun b hb z=>?_,I.stack,I.ZG⟩
  ·have e1:C9.cells.lookup y=some c:=e1;have e2:C9.cells.lookup z=some c:=e2;rw [Ja]at e1 e2;refine Wk (fun p hp=>?_) (fun y z c a b=>I.ok.inj y z c (cm a).1 (cm b).1) (Gs e1) (Gs e2);rw [F1];exact o_ (cm (y:=p.1) (c:=p.2) hp).2
  ·show ∃c,C9.cells.lookup y=some c;have key: ∀k,C9.kindOf y=some k->(k=.cell\/k=.free)-> ∃c,C9.cells.lookup y=some c:=fun k hk Us=>by
    unfold Env.kindOf at hk;rw [ZO]at hk;obtain⟨k',e,r⟩:=Wl hk;have :k'=.cell\/k'=.free:=by
     rcases r with rfl|⟨rfl,_⟩
     ·exact Us
     ·exact .inr rfl
    rcases this with rfl|rfl
    ·obtain⟨c,hm⟩:=Wj (n:=(s.heap.push {cls:=.type "dict",data:=.dict #[]}).objs.size) (acc:=EJ X.env.cells scope.names []) (Gs e);obtain⟨c',e'⟩:=mem_lookup hm;exact⟨c',by rw [Ja];exact e'⟩
    ·obtain⟨c,h1,_⟩:=look e;exact⟨c,h1⟩
   rcases hy with hy|hy
   ·exact key _ hy (.inl rfl)
   ·exact key _ hy (.inr rfl)
  ·have z:(scope.names.lookup y==some pA)=true:=z;have z:scope.names.lookup y=some .cell:=by simpa using z
   have e:C9.cells.lookup y=some c:=e;rw [Ja]at e;rcases PN (Gs e)with hm|⟨_,h2,_⟩
   ·rcases R4 hm with hm|⟨h1,_⟩
    ·cases hm
    ·have q:=ok.uniq _ h1;rw [z]at q;cases q
   ·rw [F1]at h2;exact ak h2
  ·show b≠C9.locals;rw [hL];exact Fh (OO b hb).2
  ·have e:C9.cells.lookup y=some c:=e;rcases mem e with⟨h1,_⟩|⟨h1,_⟩
   ·exact(OO b hb).1.2.2.2.2.1 y c h1 z
   ·have h2:s.heap.objs.size+1<=b:=by rw [<-z];exact h1
    exact absurd (Bs (OO b hb).2 (ak h2)) (Hk _)
  ·rcases(OO b hb).1.2.2.2.1 with z|z
   ·exact I.ok.LS b o e z
   ·exact absurd (Bs (B6 e) (A9 I.ok.HB z)) (Hk _)
  ·rcases DL.mp (I.Ui b z)with z|z
   ·exact(OO b hb).1.2.1 z
   ·exact(OO b hb).1.2.2.1 z
 refine⟨okB,rfl,I.bare,Un.kept kp,⟨fun _=>none,?_,fun i y av e1 e2 e3=>?_⟩,fun y c e=>?_,?_,fun y c e=>?_,fun p hp=>?_,I.Af.kept kp,by rw [Wm];exact I.len⟩
 ·show Heap.Ns _ C9.locals _;rw [hL];exact Heap.Ns.keeps (Heap.Ns.new ..) fun b o e=>aj _ _ _ _ e
 ·obtain⟨e2,MB⟩:=Wn e2;have LY:scope.names.lookup y=some .free/\(C9.kindOf y=some .cell\/C9.kindOf y=some .free):=by
   have key: ∀k,C9.scope.names.lookup y=some k->k=.local\/k=.cell\/k=.free->scope.names.lookup y=some .free/\(C9.kindOf y=some .cell\/C9.kindOf y=some .free):=fun k hk Us=>by
    have mS:=hk;rw [ZO]at hk;obtain⟨k',e,r⟩:=Wl hk;have no: ¬(k'=.local\/k'=.cell):=fun hh=>by
     rcases ok.own _ (Gs e) hh with e'|e'
     ·obtain⟨p,hp,hpy⟩:=au.mp e';have e3:=ok.ix p hp;have :p.1=y:=hpy;rw [this]at e3;exact MB (au.mpr ⟨p,hp,WH hN e3 e1⟩)
     ·exact e' (FV e1)
    rcases r with rfl|⟨rfl,rfl⟩
    ·rcases Us with rfl|rfl|rfl
     ·exact absurd (.inl rfl) no
     ·exact absurd (.inr rfl) no
     ·exact⟨e,.inr mS⟩
    ·exact⟨e,.inl mS⟩
   have e3:Kn C9.scope y:=e3;rcases e3 with e3|e3|e3
   ·exact key _ e3 (.inl rfl)
   ·exact key _ e3 (.inr (.inl rfl))
   ·exact key _ e3 (.inr (.inr rfl))
  obtain⟨m,hn,hl⟩:=I.loc;have AEo:Kn X.env.scope y:=(ok.free _ (Gs LY.1) rfl).elim (fun k=>.inr (.inl k)) (fun k=>.inr (.inr k));obtain⟨w,r,q⟩:=hl i y av e1 e2 AEo;refine⟨w,r,.inr ⟨LY.2,?_⟩⟩;obtain⟨c,h1,h2⟩:=look LY.1;rcases q with⟨k,_⟩|⟨_,c',e',z⟩
  ·have k:X.env.scope.names.lookup y=some .local:=k;rcases ok.free _ (Gs LY.1) rfl with k'|k'<;>rw [show X.env.scope.names.lookup y=_ from k']at k<;>cases k
  ·rw [h2]at e';cases e';exact⟨c,h1,z.keeps kp⟩
 ·have e:C9.cells.lookup y=some c:=e;rcases mem e with⟨h1,_⟩|⟨_,z⟩
  ·obtain⟨w,z⟩:=I.cell y c h1;exact⟨w,z.keeps kp⟩
  ·exact⟨_,z⟩
 ·show H C9.locals=none;rw [hL];exact I.Af.fresh (BO _)
 ·have e:C9.cells.lookup y=some c:=e;rcases mem e with⟨h1,_⟩|⟨h1,_⟩
  ·exact I.GH y c h1
  ·exact I.Af.fresh (ak h1)
 ·exact absurd (show p∈([]:List (Addr×Obj))++[]from hp) (by simp)
theorem sZ(I:Inv X pins σ H s)(hD:H D=some (.lst xs))(hz:xs.length<sizeLine)(r:RelV y v)
 (h: ∀s',Inv X pins σ (upd H D (.lst (xs++[y]))) s'->Q .none s'):wpAny (model L2.P L2.w) X.A (call (.builtin "list.append") [.ref D,v]) Q E s:=by
 obtain⟨hz',AV,n,ri,e⟩:=I.Af D _ hD;have hl:=ri.length;refine append_at (hsz:=by rw [D2];lia) e fun h' sb JW=>?_
 refine h {s with heap:=h'} (I.write (t':=s.toks) (by rw [hD];trivial) (.inl rfl) (fun b u hb q=>(sb.2 b hb).trans q) ⟨_,JW⟩ ⟨by rw [CD];exact hz,AV++[v],n+1,ri.append (.cons r .nil),?_⟩);rw [JW];simp
def Wo(X:Cx)(ifs:List Expr)(t:TT):Prop:=
 ∀(pins:List (Addr×Obj))(s:Shared)(σ:St)(H:Hp)(Q:Bool->Hp->Prop),Inv X pins σ H s->t σ H Q->
  wpAny (model L2.P L2.w) X.A (forIn ifs true fun c r=>if r=true then do let ok<-isTrue c X.env (eval c X.env);pure (ax ok)else pure (ax r)) (TP X pins σ Q) X.xe s
def Wq:TT:=fun _ H Q=>Q true H
theorem PQ:Wo X [] Wq:=fun _ _ _ H _ I h=>wpAny_tests_nil ⟨H,I,h⟩
end
theorem NY(h:wpAny M A t Q (fun _ _=>False) s)(hQ: ∀a s,Q a s->Q' a s):wpAny M A t Q' E s:=GO h hQ fun _ _ z=>Dp z
theorem sf{w:World}(I:Nat->Shared->Prop)
 (BI: ∀n s,I n s->wpAny (model prog w) A (pyNext it) (fun r Bl=>match r with
  |none=>R (.ok .next) Bl
  |some v=>wpAny (model prog w) A (letOwnedTupleGo target it v) (fun _ mT=>wpAny (model prog w) A (assign target env v) (fun _ E6=>
   wpAny (model prog w) A (forIn ifs true fun c r=>if r=true then do let ok<-isTrue c env (eval c env);pure (ax ok)else pure (ax r)) (fun ok OP=>
    if ok=true then wpAny (model prog w) A (eval elt env) (fun x mU=>
     wpAny (model prog w) A (call (.builtin "list.append") [acc,x]) (fun _ mV=> ∃m,m<n/\I m mV) (notedBy (model prog w) A env fun e s'=>R (.error e) s') mU) (notedBy (model prog w) A env fun e s'=>R (.error e) s') OP
    else ∃m,m<n/\I m OP) (notedBy (model prog w) A env fun e s'=>R (.error e) s') E6) (notedBy (model prog w) A env fun e s'=>R (.error e) s') mT) (notedBy (model prog w) A env fun e s'=>R (.error e) s') Bl) (notedBy (model prog w) A env fun e s'=>R (.error e) s') s)
 (n:Nat)(h:I n s):
 codeAny (model prog w) A (.compLoop (.ListComp elt [⟨target,iter,ifs,0⟩] scope pos) 0 it acc env) R s:=by
 refine codeAny_loop rfl I (fun n s hI=>?_) n h;show wpAny _ A ((compTurn (.ListComp elt [⟨target,iter,ifs,0⟩] scope pos) 0 it acc env).onRaise (fun x=>do noteFrame x env;theTreesLotGoes x)) _ _ s;refine wpAny_noted ?_;rw [compTurn_list];refine A4 (wpAny_standAt (A4 (GO (BI n s hI) (fun r Bl Ut=>?_) fun _ _ h'=>h')));cases r with
 |none=>exact DD Ut
 |some v=>
  refine A4 (GO Ut (fun _ mT AEp=>?_) fun _ _ h'=>h');refine A4 (GO AEp (fun _ E6 Qm=>A4 (GO Qm (fun ok OP Uu=>?_) fun _ _ h'=>h')) fun _ _ h'=>h');cases ok with
  |false=>exact DD ⟨rfl,Uu⟩
  |true=>
   exact A4 (A4 (GO Uu (fun x mU AEq=>A4 (GO AEq (fun _ mV AEr=>DD (DD ⟨rfl,AEr⟩)) fun _ _ h'=>h')) fun _ _ h'=>h'))
section
variable{X:Cx}
def R6(wi:TI)(g:TG)(tt:TT)(te:TE)(vs:List Nat):TE:=fun σ H Q=>wi σ H fun J H1=> ∀D,H1 D=none-> ∃W:Nat->Nat->Hp->Prop,(∃m,W 0 m (upd H1 D (.lst [])))/\ ∀i m H,W i m H->
 (J.stop i H/\Q (.ref D) H)\/(J.go i H/\ ∃Nx:Hp->Prop,(∀H',Nx H'-> ∃m',m'<m/\W (i+1) m' H')/\ ∀x H',J.Hi i H x H'->g x (DY σ vs) H' fun A_ H2=>DY A_ vs=DY σ vs/\tt A_ H2 fun b H3=>
  if b=true then te A_ H3 fun y H4=> ∃acc,H4 D=some (.lst acc)/\acc.length<sizeLine/\Nx (upd H4 D (.lst (acc++[y])))else Nx H3)
theorem si{pins:List (Addr×Obj)}{s:Shared}{σ:St}{H:Hp}{Q:VK}{elt tg iter:Expr}{ifs:List Expr}{scope:Scope}{own:List (Str×Nat)}{pos pos':Pos}{wi:TI}{g:TG}{tt:TT}{te:TE}{use:Option (Value->Sem Unit)}{Qf:Value->Shared->Prop}
 (hc:X.calm=true)(hN:X.N.Nodup)(I:Inv X pins σ H s)(hi:PI X tg iter wi)(ok:Kv X.N X.env.scope scope own)
 (hg: ∀(s:Shared)(H:Hp)(C:Addr)(cl:List (Str×Addr))(fp:List Addr),PG (X.blk s H scope (compEnvC scope cl C X.env) fp) tg g)(ht: ∀(s:Shared)(H:Hp)(C:Addr)(cl:List (Str×Addr))(fp:List Addr),Wo (X.blk s H scope (compEnvC scope cl C X.env) fp) ifs tt)
 (he: ∀(s:Shared)(H:Hp)(C:Addr)(cl:List (Str×Addr))(fp:List Addr),PE (X.blk s H scope (compEnvC scope cl C X.env) fp) elt te)(hs: ∀x,foldedSetIterable iter X.env x=pure x)
 (h:R6 wi g tt te (own.map (·.2)) σ H Q)
 (hRR: ∀D C s' m H',Inv X pins σ H' s'->Q (.ref D) H'->s'.heap.Ns C m->HP X pins H' C->compPost (model L2.P L2.w) X.A X.xe use Qf (.ref D) C (.ok .next) s'):
 wpAny (model L2.P L2.w) X.A (comprehension (.ListComp elt [⟨tg,iter,ifs,0⟩] scope pos) scope X.env pos' (newList []) false (eval iter X.env) use) Qf X.xe s:=by
 have OJ: ∀y∈scope.names,y.2=.free-> ∃c,X.env.cells.lookup y.1=some c:=fun y hy e=>by
  rcases ok.free y hy e with k|k
  ·exact I.ok.has _ (.inl k)
  ·exact I.ok.has _ (.inr k)
 refine wpAny_comprehension_free (use:=use) rfl hs (sW OJ) ok.kind (fun y hy e=>by rw [ok.uniq y hy,e])
  (As (hi pins s σ H _ I h) fun xv s1 hx=>As hx fun ZJ s2 h2=>?_)
 obtain⟨it,fp,tn,J,H2,e,I2,T,Up,f2,q⟩:=h2;subst e;refine wpAny_newObj_type (sX ?_) (by show 0<=sizeLine;decide);generalize hD:s2.heap.objs.size=D;have hDn:H2 D=none:=I2.Af.fresh (Om hD);obtain⟨W,⟨m0,w0⟩,BI⟩:=q D hDn;generalize mW:({s2 with heap:=s2.heap.push {cls:=.type "list",data:=.seq ([]:List Value).toArray}}:Shared)=s3;have I3:Inv X pins σ (upd H2 D (.lst [])) s3:=by
  rw [<-mW];refine I2.laid (t':=s2.toks) (fun b o e=>Ca _ e) (Om hD) ⟨DM _,[],0,.nil,?_⟩;rw [<-hD];exact Er _ rfl
 have h3:s3.heap=s2.heap.push {cls:=.type "list",data:=.seq ([]:List Value).toArray}:=by rw [<-mW]
 have sz: ∀b∈fp,b<s2.heap.objs.size:=fun b hb=>by
  obtain⟨o,e,_⟩:=T.obj _ _ Up b hb;exact B6 e
 have f3: ∀b∈fp,HP X pins (upd H2 D (.lst [])) b/\b<s3.heap.objs.size:=fun b hb=>by
  have Bk:=sz b hb;refine⟨⟨?_,(f2 b hb).2⟩,by rw [h3,F1];exact o_ Bk⟩;rw [BC (by rw [<-hD];exact Fh Bk)];exact(f2 b hb).1
 have Uq:tn 0 s3.heap:=T.keep _ _ _ Up fun b _ o e=>by rw [h3];exact Ca _ e
 have I4:=sY I3 ok hN f3;have pg:=hg s3 (upd H2 D (.lst [])) s3.heap.objs.size (cellsFrom (s3.heap.objs.size+1) scope.names (EJ X.env.cells scope.names [])) fp;have pt:=ht s3 (upd H2 D (.lst [])) s3.heap.objs.size (cellsFrom (s3.heap.objs.size+1) scope.names (EJ X.env.cells scope.names [])) fp;have pe:=he s3 (upd H2 D (.lst [])) s3.heap.objs.size (cellsFrom (s3.heap.objs.size+1) scope.names (EJ X.env.cells scope.names [])) fp;show codeAny _ _ (.compStart (.ListComp elt [⟨tg,iter,ifs,0⟩] scope pos) 0 (.ref it) (.ref D) (compEnvC scope (cellsFrom (s3.heap.objs.size+1) scope.names (EJ X.env.cells scope.names [])) s3.heap.objs.size X.env)) (compPost (model L2.P L2.w) X.A X.xe use Qf (.ref D) s3.heap.objs.size) {s3 with heap:=pushCells (s3.heap.push {cls:=.type "dict",data:=.dict #[]}) scope.names};have mX: ∀b∈fp,(upd H2 D (.lst [])) b=none:=fun b hb=>(f3 b hb).1.1
 generalize Uv:compEnvC scope (cellsFrom (s3.heap.objs.size+1) scope.names (EJ X.env.cells scope.names [])) s3.heap.objs.size X.env=ce at I4 pg pt pe⊢;have cL:ce.locals=s3.heap.objs.size:=by subst Uv;rfl
 generalize hH3:upd H2 D (.lst [])=H3 at I3 I4 pg pt pe w0 mX f3;generalize hs4:({s3 with heap:=pushCells (s3.heap.push {cls:=.type "dict",data:=.dict #[]}) scope.names}:Shared)=s4 at I4⊢;have mY:tn 0 s4.heap:=T.keep _ _ _ Uq fun b _ o e=>by rw [<-hs4];exact aj _ _ _ _ (Ca _ e)
 have Mo: ∀{Ak:St}{H':Hp}{s':Shared},Inv (X.blk s3 H3 scope ce fp) [] Ak H' s'->(∀b∈fp,H' b=none)-> ∀b∈fp,HP (X.blk s3 H3 scope ce fp) [] H' b:=fun {Ak H' s'} I' hn b hb=>
  ⟨hn b hb,(I'.ok.Ml b hb).1,I'.ok.LU b hb,.inl hb,fun x c e=>(I'.ok.Ml b hb).2 x c e,fun p hp=>absurd (show p∈([]:List (Addr×Obj))++[]from hp) (by simp)⟩
 have loop:codeAny (model L2.P L2.w) X.A (.compLoop (.ListComp elt [⟨tg,iter,ifs,0⟩] scope pos) 0 (.ref it) (.ref D) ce) (compPost (model L2.P L2.w) X.A X.xe use Qf (.ref D) s3.heap.objs.size) s4:=by
  refine sf (fun n s'=> ∃i H',Inv (X.blk s3 H3 scope ce fp) [] (DY σ (own.map (·.2))) H' s'/\tn i s'.heap/\(∀b∈fp,H' b=none)/\W i n H') ?_ m0 ⟨0,H3,I4,mY,mX,w0⟩;rintro n s5 ⟨i,H5,I5,OM,n5,w5⟩;rcases BI i n H5 w5 with⟨stop,qq⟩|⟨go,Nx,hNx,step⟩
  ·have td:=T.done (X.blk s3 H3 scope ce fp) rfl rfl rfl hc i [] s5 _ H5 (fun _ _=>False) I5 (Mo I5 n5) OM stop;refine NY td fun r s6 ⟨hr,I6⟩=>?_
   subst hr;have I7:Inv X pins σ H5 s6:=I3.Uk (ch:=fp) I6.os I6.base I6.Af I6.bare fun b hb=>⟨(f3 b hb).1.2.2.2.1,(f3 b hb).1.2.1,(f3 b hb).1.2.2.2.2.1,(f3 b hb).1.2.2.2.2.2⟩
   have nC:H5 s3.heap.objs.size=none:=by
    have z:H5 ce.locals=none:=I6.free;rw [cL]at z;exact z
   obtain⟨m,hn,_⟩:=I6.loc;have hn:s6.heap.Ns ce.locals m:=hn;rw [cL]at hn;exact hRR D s3.heap.objs.size s6 m H5 I7 qq hn (I3.OL (BO _) nC)
  ·have ti:=T.item (X.blk s3 H3 scope ce fp) rfl rfl rfl hc i [] s5 _ H5 (fun _ _=>False) I5 (Mo I5 n5) OM go;refine NY ti fun r s6 ⟨u,hr,h6⟩=>?_
   subst hr;refine NY h6 fun _ s7 ⟨x,H7,I7,r7,y7,ZP,n7⟩=>?_
   have I7':=I7.pinned (Mo I7 n7) (T.obj _ _ ZP);refine NY (pg _ s7 _ H7 x u _ I7' r7 (step x H7 y7)) fun _ s8 ⟨Uw,H8,I8,ZQ,q8⟩=>?_
   refine NY (pt _ s8 Uw H8 _ I8 q8) fun b s9 ⟨H9,I9,q9⟩=>?_
   have fin: ∀{s':Shared}{H':Hp},Inv (X.blk s3 H3 scope ce fp) ([]++O_ fp s7.heap) Uw H' s'->Nx H'-> ∃m,m<n/\ ∃i H',Inv (X.blk s3 H3 scope ce fp) [] (DY σ (own.map (·.2))) H' s'/\tn i s'.heap/\(∀b∈fp,H' b=none)/\W i m H':=fun {s' H'} I' nx=>by
    obtain⟨m',hm,w'⟩:=hNx H' nx;have mZ: ∀b∈fp,∀o,s7.heap.get? b=some o->s'.heap.get? b=some o/\H' b=none:=fun b hb o e=>
     let z:=I'.pin (b,o) (Li _ (Li _ (WQ hb e)))
     ⟨z.1,z.2.1⟩
    have hl:(DY σ (own.map (·.2))).length=Uw.length:=by rw [<-ZQ,Wm]
    refine⟨m',hm,i+1,H',(I'.Uo (pins:=[])).weak hl (fun j v e=>?_),T.keep _ _ _ ZP fun b hb o e=>(mZ b hb o e).1,fun b hb=>?_,w'⟩
    ·rw [<-ZQ]at e;exact(Wn e).1
    ·obtain⟨o,e,_⟩:=T.obj _ _ ZP b hb;exact(mZ b hb o e).2
   cases b with
   |false=>
    simp only [Jh,GQ]at q9⊢;exact fin I9 q9
   |true=>
    simp only [E8]at q9⊢;refine NY (pe _ s9 Uw H9 _ I9 q9) fun z s10 ⟨yv,H10,I10,r10,acc,AEs,AEt,nx⟩=>?_
    exact sZ (X:=X.blk s3 H3 scope ce fp) I10 AEs AEt r10 fun s11 I11=>fin I11 nx
 exact codeAny_compStart_list loop (T.self X.A 0 _ _ _ mY loop)
theorem PR(hc:X.calm=true)(hN:X.N.Nodup)(hi:PI X tg iter wi)(ok:Kv X.N X.env.scope scope own)
 (hg: ∀(s:Shared)(H:Hp)(C:Addr)(cl:List (Str×Addr))(fp:List Addr),PG (X.blk s H scope (compEnvC scope cl C X.env) fp) tg g)(ht: ∀(s:Shared)(H:Hp)(C:Addr)(cl:List (Str×Addr))(fp:List Addr),Wo (X.blk s H scope (compEnvC scope cl C X.env) fp) ifs tt)
 (he: ∀(s:Shared)(H:Hp)(C:Addr)(cl:List (Str×Addr))(fp:List Addr),PE (X.blk s H scope (compEnvC scope cl C X.env) fp) elt te)(hs: ∀x,foldedSetIterable iter X.env x=pure x:=by intro _;rfl):
 PE X (.ListComp elt [⟨tg,iter,ifs,0⟩] scope pos) (R6 wi g tt te (own.map (·.2))):=by
 intro pins s σ H Q I h;rw [eval_ListComp];refine si hc hN I hi ok hg ht he hs h fun D C s' m H' I' q hn f=>⟨m,hn,fun LZ sb=>?_⟩
 obtain⟨f0,f1,f2,f3,f4,f5⟩:=f;exact⟨.ref D,H',I'.turned (t':=s'.toks) (fun b o hb e=>(sb.2 b hb).trans e) f0 f1 f3 f4 f5,rfl,q⟩
end
theorem Wr{K:Aj}{a:Addr}{xs:List V}{g:TG}{tt:TT}{te:TE}{vs:List Nat}{σ:St}{H1:Hp}{D:Addr}{Qd:Hp->Prop}(Pv:Nat->Hp->Prop)(h0:Pv 0 (upd H1 D (.lst [])))(hl: ∀i H,i<=xs.length->Pv i H->B0 K H a xs)
 (hs: ∀i x H,xs[i]? =some x->Pv i H->g x (DY σ vs) H fun A_ H2=>DY A_ vs=DY σ vs/\tt A_ H2 fun b H3=>
   if b=true then te A_ H3 fun y H4=> ∃acc,H4 D=some (.lst acc)/\acc.length<sizeLine/\Pv (i+1) (upd H4 D (.lst (acc++[y])))else Pv (i+1) H3)(hd: ∀H,Pv xs.length H->Qd H):
 ∃W:Nat->Nat->Hp->Prop,(∃m,W 0 m (upd H1 D (.lst [])))/\ ∀i m H,W i m H->
  ((Ks K a).stop i H/\Qd H)\/((Ks K a).go i H/\ ∃Nx:Hp->Prop,(∀H',Nx H'-> ∃m',m'<m/\W (i+1) m' H')/\ ∀x H',(Ks K a).Hi i H x H'->g x (DY σ vs) H' fun A_ H2=>DY A_ vs=DY σ vs/\tt A_ H2 fun b H3=>
   if b=true then te A_ H3 fun y H4=> ∃acc,H4 D=some (.lst acc)/\acc.length<sizeLine/\Nx (upd H4 D (.lst (acc++[y])))else Nx H3):=by
 refine⟨fun i m H=>m=xs.length-i/\i<=xs.length/\Pv i H,⟨xs.length,by simp,DM _,h0⟩,?_⟩;rintro i m H ⟨rfl,hi,p⟩;have q:=hl i H hi p;by_cases Bk:i<xs.length
 ·refine .inr ⟨⟨xs,xs[i],q,by simp [Bk]⟩,Pv (i+1),fun H' p'=>⟨xs.length-(i+1),by lia,rfl,Bk,p'⟩,fun x H' y=>?_⟩;obtain⟨e,y⟩:=y;subst e;exact hs i x _ (y xs q) p
 ·have e:i=xs.length:=by lia
  subst e;exact .inl ⟨⟨xs,q,BO _⟩,hd H p⟩
end L2
namespace L2
open PySem PySem.Spec PyProof.Rows
section
variable{κ:Type}[DecidableEq κ]
noncomputable def Az(AS:List (κ×V))(k:κ):Option V:=(AS.find? fun kv=>decide (kv.1=k)).map (·.2)
noncomputable def Gb(AS:List (κ×V))(k:κ)(v:V):List (κ×V):=
 if(AS.any fun kv=>decide (kv.1=k))=true then AS.map (fun kv=>if kv.1=k then(kv.1,v)else kv)else AS++[(k,v)]
theorem sj:Az ([]:List (κ×V)) k=none:=rfl
theorem IA{p:κ×V}{r:List (κ×V)}{k:κ}(e:p.1=k):Az (p::r) k=some p.2:=by simp [Az,RN,e]
theorem IB{p:κ×V}{r:List (κ×V)}{k:κ}(e: ¬p.1=k):Az (p::r) k=Az r k:=by simp [Az,RN,e]
theorem R7(k:κ): ∀AS:List (κ×V),(AS.any fun kv=>decide (kv.1=k))=(Az AS k).isSome
 | []=>rfl
 |p::r=>by
  rw [Jf];by_cases e:p.1=k
  ·simp only [IA e,Bi e,Bool.true_or,AFZ]
  ·rw [IB e,Bh e,Im];exact R7 k r
theorem dc(k j:κ)(y:V): ∀AS:List (κ×V),Az (AS.map fun kv=>if kv.1=k then(kv.1,y)else kv) j=(Az AS j).map fun x=>if j=k then y else x
 | []=>rfl
 |p::r=>by
  have ih:=dc k j y r;rw [Fj];by_cases h:p.1=k
  ·rw [AG h];by_cases e:p.1=j
   ·rw [IA (p:=(p.1,y)) e,IA e,Ka,AG (e.symm.trans h)]
   ·rw [IB (p:=(p.1,y)) e,IB e,ih]
  ·rw [AD h];by_cases e:p.1=j
   ·rw [IA (p:=p) e,IA e,Ka,AD (fun z=>h (e.trans z))]
   ·rw [IB (p:=p) e,IB e,ih]
theorem de(k j:κ)(y:V): ∀AS:List (κ×V),Az AS k=none->Az (AS++[(k,y)]) j=if j=k then some y else Az AS j
 | [],_=>by
  by_cases e:k=j
  ·rw [AG e.symm];exact IA (p:=(k,y)) e
  ·rw [AD (fun z=>e z.symm)];exact IB (p:=(k,y)) e
 |p::r,hn=>by
  rw [ay];have hk: ¬p.1=k:=fun z=>by rw [IA z]at hn;cases hn
  rw [IB hk]at hn;have ih:=de k j y r hn;by_cases e:p.1=j
  ·rw [IA e,IA e,AD (fun z=>hk (e.trans z))]
  ·rw [IB e,IB e,ih]
theorem sk(AS:List (κ×V))(k j:κ)(y:V):Az (Gb AS k y) j=if j=k then some y else Az AS j:=by
 unfold Gb;by_cases a:(AS.any fun kv=>decide (kv.1=k))=true
 ·rw [AG a,dc];rw [R7]at a;by_cases e:j=k
  ·obtain⟨x,hx⟩:=aZ.mp a;rw [AG e,e,hx,Ka,AG rfl]
  ·rw [AD e];cases Az AS j with
   |none=>rfl
   |some x=>rw [Ka,AD e]
 ·rw [AD a];refine de k j y AS ?_;rw [R7]at a;cases q:Az AS k with
  |none=>rfl
  |some x=>rw [q]at a;exact(a rfl).elim
theorem Ws(AS:List (κ×V))(k:κ)(v:V):(Gb AS k v).length<=AS.length+1:=by
 unfold Gb;split
 ·rw [A5];lia
 ·rw [CD,BU,Cu];lia
theorem JB.AEu(r:JB o u):o.isSome=u.isSome:=by
 cases o with
 |none=>cases u with
  |none=>rfl
  |some _=>exact(show False from r).elim
 |some _=>cases u with
  |none=>exact(show False from r).elim
  |some _=>rfl
theorem JB.getD(r:JB o u)(rd:RelV d d'):RelV (o.getD d) (u.getD d'):=by
 cases o with
 |none=>cases u with
  |none=>exact rd
  |some _=>exact(show False from r).elim
 |some _=>cases u with
  |none=>exact(show False from r).elim
  |some _=>exact r
theorem KV.val(r:KV AS vs)(k:κ):JB (Az AS k) (valueAt vs k):=by
 unfold KV at r
 induction r with
 |nil=>exact Dd
 | @cons p q ps qs h t ih=>
  obtain⟨h1,h2⟩:=h;by_cases e:p.1=k
  ·have e':q.1=k:=h1.symm.trans e;have b:valueAt (q::qs) k=some q.2:=by simp [valueAt,RN,e']
   rw [IA e,b];exact h2
  ·have e': ¬q.1=k:=fun z=>e (h1.trans z)
   have b:valueAt (q::qs) k=valueAt qs k:=by simp [valueAt,RN,e']
   rw [IB e,b];exact ih
theorem KV.any(r:KV AS vs)(k:κ):(AS.any fun kv=>decide (kv.1=k))=vs.any fun kv=>decide (kv.1=k):=by
 unfold KV at r
 induction r with
 |nil=>rfl
 |cons h t ih=>rw [Jf,Jf,ih,h.1]
theorem KV.ZR(r:KV AS vs)(k:κ)(ry:RelV y u):
 KV (AS.map fun kv=>if kv.1=k then(kv.1,y)else kv) (vs.map fun kv=>if kv.1=k then(kv.1,u)else kv):=by
 unfold KV at r⊢
 induction r with
 |nil=>exact .nil
 | @cons p q ps qs h t ih=>
  rw [Fj,Fj];refine .cons ?_ ih;obtain⟨h1,h2⟩:=h;by_cases e:p.1=k
  ·rw [AG e,AG (h1.symm.trans e)];exact⟨h1,ry⟩
  ·rw [AD e,AD (fun z=>e (h1.trans z))];exact⟨h1,h2⟩
theorem KV.put(r:KV AS vs)(k:κ)(ry:RelV y u):KV (Gb AS k y) (stored vs k u):=by
 unfold Gb stored;rw [r.any k];by_cases e:(vs.any fun kv=>decide (kv.1=k))=true
 ·rw [AG e,AG e];exact r.ZR k ry
 ·rw [AD e,AD e];exact Paired.snoc r ⟨rfl,ry⟩
theorem KV.length(r:KV AS vs):AS.length=vs.length:=Paired.length r
end
theorem NZ{P:Program}{w:World}(r:RelV (kV k) u):(Di P w).is k u=true:=by
 cases k with
 |inl i=>obtain⟨t,e⟩:=(show ∃t,u=aT i t from r);subst e;exact WE P w i t
 |inr x=>obtain⟨t,e⟩:=(show ∃t,u=RA x t from r);subst e;exact WG P w x t
theorem dg{P:Program}{w:World}: ∀{ks:List A8}{us:List Value},BM (ks.map kV) us->ItemsAre (Di P w) ks us
 | [],_,r=>by rw [RL]at r;cases r;exact .nil
 |k::ks,_,r=>by
  rw [Fj]at r;cases r with
  |cons h t=>exact .cons (NZ h) (dg t)
abbrev KT(H:Hp):List (List A8×V)->List (List A8×Addr×Value)->Prop:=Paired fun p q=>p.1=q.1/\H q.2.1=some (.tup (p.1.map kV))/\RelV p.2 q.2.2
theorem KT.val(r:KT H AS xs)(k:List A8):JB (Az AS k) ((atKey xs k).map (·.2)):=by
 induction r with
 |nil=>exact Dd
 | @cons p q ps qs h t ih=>
  obtain⟨h1,_,h2⟩:=h;by_cases e:p.1=k
  ·have e':q.1=k:=h1.symm.trans e;have b:atKey (q::qs) k=some q.2:=by simp [atKey,RN,e']
   rw [IA e,b];exact h2
  ·have e': ¬q.1=k:=fun z=>e (h1.trans z)
   have b:atKey (q::qs) k=atKey qs k:=by simp [atKey,RN,e']
   rw [IB e,b];exact ih
theorem KT.ZR(r:KT H AS xs)(k:List A8)(ry:RelV y u):
 KT H (AS.map fun kv=>if kv.1=k then(kv.1,y)else kv) (xs.map (putAt k u)):=by
 induction r with
 |nil=>exact .nil
 | @cons p q ps qs h t ih=>
  rw [Fj,Fj];refine .cons ?_ ih;obtain⟨h1,h2,h3⟩:=h;unfold putAt;by_cases e:p.1=k
  ·rw [AG e,AG (h1.symm.trans e)];exact⟨h1,h2,ry⟩
  ·rw [AD e,AD (fun z=>e (h1.trans z))];exact⟨h1,h2,h3⟩
theorem KT.put(r:KT H AS xs)(k:List A8)(hb:H b=some (.tup (k.map kV)))(ry:RelV y u):
 KT H (Gb AS k y) (storedH xs k b u):=by
 have e:(AS.any fun kv=>decide (kv.1=k))=(atKey xs k).isSome:=by
  rw [R7,(r.val k).AEu,Option.isSome_map]
 unfold Gb storedH;rw [e];by_cases q:(atKey xs k).isSome=true
 ·rw [AG q,AG q];exact r.ZR k ry
 ·rw [AD q,AD q];exact Paired.snoc r ⟨rfl,hb,ry⟩
theorem KT.keeps(r:KT H AS xs)(ht: ∀b ys,H b=some (.tup ys)->H' b=some (.tup ys)):KT H' AS xs:=
 Y_ r fun _ _ z=>⟨z.1,ht _ _ z.2.1,z.2.2⟩
section
variable{P:Program}{w:World}{H:Hp}{h:Heap}{a:Addr}
theorem dh{u:HO}(ok:Cr P w H h)(e:Rd H a u):Du P w H h a u:=e.ok ok
theorem Wt(ok:Cr P w H h)(e:Rd H a (.dK AS)):AS.length<=sizeLine/\(a==sysModules)=false/\ ∃vs,KV AS vs/\h.DictOf (Di P w) a vs:=
 show Du P w H h a (.dK AS)from dh ok e
theorem sm(ok:Cr P w H h)(e:H a=some (.dK AS)):AS.length<=sizeLine/\(a==sysModules)=false/\ ∃vs,KV AS vs/\h.DictOf (Di P w) a vs:=Wt ok (.inl e)
theorem Wu{ks:List A8}(ok:Cr P w H h)(e:H a=some (.tup (ks.map kV))):(tupleKind (Di P w)).is h ks a:=by
 obtain⟨_,AV,r,o,h1,h2,n,h3⟩:=(show Du P w H h a (.tup (ks.map kV))from ok a _ e);exact⟨o,AV.toArray,n,h1,h2,h3,by simpa using dg r⟩
theorem Wv(ok:Cr P w H h)(e:Rd H a (.dT AS)):AS.length<=sizeLine/\(a==sysModules)=false/\
 ∃xs,KT H AS xs/\h.DictOfH (tupleKind (Di P w)) a xs:=by
 obtain⟨z,y,xs,r,o,es,ep,h1,h2,h3,h4,h5⟩:=(show Du P w H h a (.dT AS)from dh ok e);refine⟨z,y,xs,r,o,es,ep,h1,h2,h3,h4,fun x hx=>?_,h5⟩;have all: ∀{l:List (List A8×V)}{m:List (List A8×Addr×Value)},KT H l m-> ∀x∈m,(tupleKind (Di P w)).is h x.1 x.2.1:=by
  intro l m q
  induction q with
  |nil=>intro x hx;exact nomatch hx
  | @cons p q ps qs hq t ih=>
   intro x hx;rcases DL.mp hx with e|hx
   ·subst e;exact Wu ok (by rw [<-hq.1];exact hq.2.1)
   ·exact ih x hx
 exact all r x hx
theorem so(ok:Cr P w H h)(e:H a=some (.dT AS)):AS.length<=sizeLine/\(a==sysModules)=false/\
 ∃xs,KT H AS xs/\h.DictOfH (tupleKind (Di P w)) a xs:=Wv ok (.inl e)
end
def Ww(H:Hp)(a:Addr)(y:V)(r:Option V):Prop:=
 (∃AS k,Rd H a (.dK AS)/\y=kV k/\r=Az AS k)\/ ∃AS k b,Rd H a (.dT AS)/\y=.ref b/\H b=some (.tup (k.map kV))/\r=Az AS k
def Wx(H:Hp)(a:Addr)(y v:V)(H':Hp):Prop:=
 (∃AS k,H a=some (.dK AS)/\y=kV k/\AS.length<sizeLine/\H'=upd H a (.dK (Gb AS k v)))\/
 ∃AS k b,H a=some (.dT AS)/\y=.ref b/\H b=some (.tup (k.map kV))/\AS.length<sizeLine/\H'=upd H a (.dT (Gb AS k v))
theorem AET(e:H a=some (.dK AS)):Ww H a (kV k) (Az AS k):=.inl ⟨AS,k,.inl e,rfl,rfl⟩
theorem AEU(e:H a=some (.dK AS))(hl:AS.length<sizeLine):Wx H a (kV k) v (upd H a (.dK (Gb AS k v))):=.inl ⟨AS,k,e,rfl,hl,rfl⟩
section
variable{X:Cx}{pins:List (Addr×Obj)}{σ:St}{H:Hp}{s:Shared}{a:Addr}{y v:V}{u r:Value}{o:Option V}{A:Around}{E:Value->Shared->Prop}
theorem Inv.big(I:Inv X pins σ H s):sysModules<s.heap.objs.size:=by
 have h:mainGlobals<s.heap.objs.size:=(I.mod.glob.keeps I.bk).lt;exact Io (by decide) h
theorem di(I:Inv X pins σ H s)(mu:O4 (H a))(hs:VJ a s.heap h')(he: ∃q,h'.get? a=some q)(new:Du L2.P L2.w (upd H a ob) h' a ob):
 Inv X pins σ (upd H a ob) {s with heap:=h',toks:=t'}:=
 I.write (x:=a) (e:=a) mu (.inl rfl) (fun b q hb z=>(hs.2 b hb).trans z) he new
theorem sq{P:Program}{w:World}(z:AS.length<=sizeLine)(hd:(a==sysModules)=false)(rel:KV AS vs)(dd:h'.DictOf (Di P w) a vs):
 Du P w H' h' a (.dK AS):=⟨z,hd,vs,rel,dd⟩
theorem su(hu:A.units+1<cLine)(I:Inv X pins σ H s)(g:Wx H a y v H')(ry:RelV y u)(rv:RelV v r)(h: ∀s',Inv X pins σ H' s'->Q () s'):
 wpAny (model L2.P L2.w) A (setItem (.ref a) u r) Q E s:=by
 rcases g with⟨AS,k,e,ey,l,eH⟩|⟨AS,k,b,e,ey,eb,l,eH⟩
 ·subst ey eH;obtain⟨z,hd,vs,rel,dd⟩:=sm I.Af e;have hz:vs.length<=sizeLine:=by rw [<-rel.length];exact z
  have hl:(Gb AS k v).length<=sizeLine:=by have :=Ws AS k v;lia
  refine wpAny_setItem_pairs (hsz:=hz) (NZ ry) dd fun h' Ux hs=>h _ ?_
  have he: ∃q,h'.get? a=some q:=let⟨q,_,_,hq,_⟩:=Ux;⟨q,hq⟩;exact di I (by rw [e];exact Dd) hs he (sq hl hd (rel.put k rv) Ux)
 ·subst ey eH;cases (show u=DC b from ry);obtain⟨z,hd,xs,rel,dd⟩:=so I.Af e;have hz:xs.length<=sizeLine:=by rw [<-Paired.length rel];exact z
  have hl:(Gb AS k v).length<=sizeLine:=by have :=Ws AS k v;lia
  refine wpAny_setItem_heap (hsz:=hz) (tupleKind_room_in1 hu) (Wu I.Af eb) dd fun h' Ux hs=>h _ ?_
  obtain⟨q,es,ep,hq,h2,h3,h4,_,h5⟩:=Ux;refine di I (by rw [e];exact Dd) hs ⟨q,hq⟩ ⟨hl,hd,_,(rel.put k eb rv).keeps fun c ys ec=>?_,q,es,ep,hq,h2,h3,h4,h5⟩;rw [BC (qk ec e (fun z=>nomatch z))];exact ec
end
def dj(i:Expr):Prop:= ∀ov iv,subscripted i false ov iv=operate [ov,iv] (getItem ov iv)
theorem sv{prog:Program}{w:World}{A:Around}{E:Value->Shared->Prop}{s:Shared}{env:Env}{value slice:Expr}{pos:Pos}{T id:String}{Q:Value->Shared->Prop}
 (hl:typeLookup (.type T) "__getitem__"=pure (some (.builtin id)))(hs:dj slice)
 (h:wpAny (model prog w) A (eval value env) (fun o Bl=>wpAny (model prog w) A (eval slice env) (fun i E6=>E6.TypeIs o T/\wpAny (model prog w) A (getItem o i) Q E E6) E Bl) E s):
 wpAny (model prog w) A (eval (.Subscript value slice pos) env) Q E s:=by
 refine Subscript_ (GO h (fun o Bl Ut=>GO Ut (fun i E6 Qm=>?_) fun _ _ x=>x) fun _ _ x=>x);obtain⟨hT,Qm⟩:=Qm;unfold subscriptTail;refine A4 ?_;rw [getitemInPython_of_ne hT.not_modules];refine A4 (wpAny_specialOf hT hl ?_);have fin:wpAny (model prog w) A (subscripted slice false o i) (fun r OP=>wpAny (model prog w) A (letTemporaryGo value o r>>=fun _=>pure r) Q E OP) E E6:=by
  rw [hs o i];exact wpAny_operating (GO Qm (fun r OP Uu=>A4 (wpAny_letTemporaryGo (DD Uu))) fun _ _ x=>x)
 first
  |exact DD (A4 fin)
  |exact A4 (DD (A4 fin))
  |exact A4 fin
def s_(td ty tv:TE):TS:=fun D σ H=>tv σ H fun v H1=>td σ H1 fun x H2=>ty σ H2 fun y H3=> ∃a H4,x=.ref a/\Wx H3 a y v H4/\D.nx σ H4
section
variable{X:Cx}{o i e value:Expr}{pos pos' KP:Pos}{td ty tv:TE}
theorem tE(hu:X.A.units+1<cLine)(ho:PE X o td)(hi:PE X i ty)(hv:PE X value tv)(hs:swapsWith value (some (.Subscript o i pos')) pos.line X.env=pure false):
 PS X (.Assign [.Subscript o i pos'] value pos) (s_ td ty tv):=by
 intro pins s σ H D I h;refine wpAny_Assign_Subscript (As (hv pins s σ H _ I h) fun r s1 ⟨v,H1,I1,rv,q1⟩=>As (ho pins s1 σ H1 _ I1 q1) fun u s2 ⟨x,H2,I2,rx,q2⟩=>As (hi pins s2 σ H2 _ I2 q2) fun iv s3 ⟨y,H3,I3,ry,a,H4,ex,g,q3⟩=>?_) hs;subst ex;obtain rfl:u=DC a:=rx;exact su hu I3 g ry rv fun s4 I4=>⟨σ,H4,I4,q3⟩
end
theorem tG{P:Program}{w:World}(h:Heap)(hb:sysModules<h.objs.size):Du P w H (h.push {cls:=.type "dict",data:=.dict #[]}) h.objs.size (.dK []):=
 ⟨DM _,KY.mpr (Ne.symm (Fh hb)),[],.nil,Heap.DictOf.new h⟩
def tH:TE:=fun _ H Q=> ∀p,H p=none->Q (.ref p) (upd H p (.dK []))
section
variable{X:Cx}{pos:Pos}
theorem tI:PE X (.Dict [] [] pos) tH:=fun pins s σ H Q I h=>
 wpAny_Dict_empty ⟨.ref s.heap.objs.size,_,I.laid (a:=s.heap.objs.size) (o:=.dK []) (t':=s.toks) (fun _ _ q=>Ca _ q) (BO _) (tG s.heap I.big),rfl,h _ (I.Af.fresh (BO _))⟩
end
structure M2(X:Cx)(o:Expr)(m:Str)(apos:Pos)(e f:Expr)(EC:Pos):Prop where
 base:attributeBase o m X.env (eval o X.env)=eval o X.env
 ma:((backTo EC (starEach [e,f] X.env)).all (fun x=> !x.1)&&(backToKw EC (keywordEach [] X.env)).all (fun x=>x.1.isSome)
  &&decide (([e,f]:List Expr).length+([]:List Keyword).length+(if([]:List Keyword).isEmpty then 0 else 1) <30))=true
 line:(apos.endLine==EC.line)=true
 trees:backTo EC (starEach [e,f] X.env)=[(false,eval e X.env),(false,eval f X.env)]
def dk(H:Hp)(a:Addr):Prop:=(∃AS,Rd H a (.dK AS))\/ ∃AS,Rd H a (.dT AS)
theorem tJ(I:Inv X pins σ H s)(d:dk H a):
 s.TypeIs (.ref a) "dict"/\(∀b,DC a=.ref b-> ∃ob,s.heap.get? b=some ob/\ob.dict=none)/\(a==sysModules)=false:=by
 rcases d with⟨AS,e⟩|⟨AS,e⟩
 ·obtain⟨_,hd,vs,_,dd⟩:=Wt I.Af e;refine⟨dd.typeIs,fun b q=>?_,hd⟩;cases q;obtain⟨ob,_,_,h1,h2,_⟩:=dd;exact⟨ob,h1,h2.2.1⟩
 ·obtain⟨_,hd,xs,_,dd⟩:=Wv I.Af e;refine⟨dd.typeIs,fun b q=>?_,hd⟩;cases q;obtain⟨ob,_,_,h1,h2,_⟩:=dd;exact⟨ob,h1,h2.2.1⟩
section
variable{X:Cx}{pins:List (Addr×Obj)}{σ:St}{H:Hp}{s:Shared}{a:Addr}{y d:V}{u r:Value}{o:Option V}{A:Around}{E:Value->Shared->Prop}
theorem tK(hu:A.units+1<cLine)(I:Inv X pins σ H s)(g:Ww H a y o)(ry:RelV y u)(rd:RelV d r)(h: ∀w' s',Inv X pins σ H s'->RelV (o.getD d) w'->Q w' s'):
 wpAny (model L2.P L2.w) A (call (.builtin "dict.get") [.ref a,u,r]) Q E s:=by
 rcases g with⟨AS,k,e,ey,l⟩|⟨AS,k,b,e,ey,eb,l⟩
 ·subst ey;obtain⟨z,hd,vs,rel,dd⟩:=Wt I.Af e;refine pE Va dd.typeIs pH (pI _ _ _) (AFa (Di L2.P L2.w) a (NZ ry) hd r) ⟨_,dd.mapOf,h _ _ (I.tok _) ?_⟩;rw [l];exact(rel.val k).getD rd
 ·subst ey;cases (show u=DC b from ry);obtain⟨z,hd,xs,rel,dd⟩:=Wv I.Af e;refine pE Va dd.typeIs pH (pI _ _ _) (meetsH_dict_get_default (tupleKind (Di L2.P L2.w)) a b hd r) ⟨tupleKind_room_in1 hu,k,xs,Wu I.Af eb,dd,h _ _ (I.tok _) ?_⟩;rw [l];exact(rel.val k).getD rd
end
def tM(td ty tx:TE):TE:=fun σ H Q=>td σ H fun x H1=> ∃a,x=.ref a/\dk H1 a/\ty σ H1 fun y H2=>tx σ H2 fun z H3=> ∃o,Ww H3 a y o/\Q (o.getD z) H3
section
variable{X:Cx}{o e f:Expr}{apos EC:Pos}{td ty tx:TE}
theorem tN(hu:X.A.units+1<cLine)(ho:PE X o td)(he:PE X e ty)(hf:PE X f tx)(m:M2 X o "get" apos e f EC):PE X (.Call (.Attribute o "get" apos) [e,f] [] EC) (tM td ty tx):=by
 intro pins s σ H Q I h;refine wpAny_Call_method m.base m.ma m.line AFb Va AFc (As (ho pins s σ H _ I h) fun u s1 ⟨x,H1,I1,rx,a,ex,d,q1⟩=>?_);subst ex;obtain rfl:u=DC a:=rx;obtain⟨t1,t2,_⟩:=tJ I1 d;refine⟨t1,t2,?_⟩;rw [m.trees];refine ag rfl (o6 (VR (As (he pins s1 σ H1 _ I1 q1) fun iv s2 ⟨y,H2,I2,ry,q2⟩=>
  VR (As (hf pins s2 σ H2 _ I2 q2) fun fv s3 ⟨z,H3,I3,rz,ov,g,q3⟩=>ot ?_))))
 exact tK hu I3 g ry rz fun w' s4 I4 Mp=>⟨_,H3,I4,Mp,q3⟩
end
end L2
namespace L2
open PySem PySem.Spec PyProof.Rows
section
variable{X:Cx}{pins:List (Addr×Obj)}{σ:St}{H:Hp}{s:Shared}{h':Heap}
theorem Inv.me{t':Nat}{ch:List Addr}(I:Inv X pins σ H s)(k: ∀b o,b∉ch->s.heap.get? b=some o->h'.get? b=some o)(hf: ∀b∈ch,HP X pins H b):Inv X pins σ H {s with heap:=h',toks:=t'}:=by
 have LV: ∀b u,H b=some u->b∉ch:=fun b u e z=>by
  have q:=(hf b z).1;rw [q]at e;cases e
 refine I.step (g':=s.gens) (d':=s.drawn) (ch:=ch) (fun b hb=>⟨(hf b hb).2.2.2.1,(hf b hb).2.1,(hf b hb).2.2.2.2.1,(hf b hb).2.2.2.2.2⟩) (fun b o _ _ hc e _=>k b o hc e) (fun b o _ _ hc e _=>⟨o.slots,k b o hc e⟩)
  (fun _ _ _ _ n=>n) (fun b o hc e=>⟨o,k b o hc e⟩) (fun _ _ e=>e) (fun _ _ _ e=>e) (fun b ps e=>⟨#[],by rw [e];simp⟩) (fun m hm=>?_) (fun b u e=>?_) I.bare
 ·obtain⟨o,es,ep,ho,r⟩:=hm;exact⟨o,es,ep,k _ o (fun z=>(hf _ z).2.1 rfl) ho,r⟩
 ·refine(I.Af b u e).LP (fun c v hc q=>k c v ?_ q) (fun _ q=>q) fun _ _ q=>q
  rcases hc with z|z
  ·rw [z];exact LV b u e
  ·exact LV c _ z
theorem Inv.mf{t':Nat}{ch:List Addr}{T:Addr}{ob:HO}(I:Inv X pins σ H s)(k: ∀b o,b∉ch->s.heap.get? b=some o->h'.get? b=some o)(hf: ∀b∈ch,HP X pins H b)(hT:s.heap.objs.size<=T)
 (new:Du L2.P L2.w (upd H T ob) h' T ob):Inv X pins σ (upd H T ob) {s with heap:=h',toks:=t'}:=by
 have hn:H T=none:=I.Af.fresh hT;have LV: ∀b u,H b=some u->b∉ch:=fun b u e z=>by
  have q:=(hf b z).1;rw [q]at e;cases e
 refine I.step (g':=s.gens) (d':=s.drawn) (ch:=ch) (fun b hb=>⟨(hf b hb).2.2.2.1,(hf b hb).2.1,(hf b hb).2.2.2.2.1,(hf b hb).2.2.2.2.2⟩) (fun b o _ _ hc e _=>k b o hc e) (fun b o _ _ hc e _=>⟨o.slots,k b o hc e⟩)
  (fun b o _ e n=>?_) (fun b o hc e=>⟨o,k b o hc e⟩) (fun b xs e=>?_) (fun b o u e=>?_) (fun b ps e=>⟨#[],?_⟩) (fun m hm=>?_) (fun b u e=>?_) I.bare
 ·rw [BC (Fh (Bs (B6 e) hT))];exact n
 ·rw [BC (D4 e hn)];exact e
 ·rw [BC (D4 e hn)];exact e
 ·rw [BC (D4 e hn),e];simp
 ·obtain⟨o,es,ep,ho,r⟩:=hm;exact⟨o,es,ep,k _ o (fun z=>(hf _ z).2.1 rfl) ho,r⟩
 ·by_cases hb:b=T
  ·subst hb;rw [AZ]at e;cases e;exact new
  ·rw [BC hb]at e;refine(I.Af b u e).LP (fun c v hc q=>k c v ?_ q) (fun c q=>by rw [BC (D4 q hn)];exact q) fun c xs q=>by rw [BC (D4 q hn)];exact q
   rcases hc with z|z
   ·rw [z];exact LV b u e
   ·exact LV c _ z
end
section
variable{X:Cx}
theorem Wy(I:Inv X pins σ H s)(o:Obj)
 (T:Ju L2.P L2.w L2.K tg J [s.heap.objs.size] s.heap.objs.size tn)(st:tn 0 (s.heap.push o))(q:R J H):cf X pins σ tg R (.ref s.heap.objs.size) {s with heap:=s.heap.push o,toks:=tk}:=by
 refine⟨s.heap.objs.size,[s.heap.objs.size],tn,J,H,rfl,I.kept fun b ob e=>Ca _ e,T,st,fun b hb=>?_,q⟩;have e:b=s.heap.objs.size:=by simpa using hb
 subst e;exact I.OL (BO _) (I.Af.fresh (BO _))
end
def PU(lo c:Int)(n:Nat):It:=⟨fun i _=>i<n,fun i H x H'=>H'=H/\x=.int (lo+(i:Nat)*c),fun i _=>n<=i⟩
theorem tO{P:Program}{w:World}{K:Aj}{tg:Expr}(it:Addr)(lo c:Int)(n:Nat):Ju P w K tg (PU lo c n) [it] it (fun i h=>IsRangeIter h it (lo+(i:Nat)*c) ((n:Int)-(i:Nat)) c) where
 mem:=by simp
 obj:=fun i h st b hb=>by
  have e:b=it:=by simpa using hb
  subst e;exact⟨_,st,fun v z=>nomatch z⟩
 keep:=fun i h h' st k=>k it (by simp) _ st
 item:=by
  intro X hP hw hK hc i pins s σ H E I hf st hg;subst hP hw hK;obtain⟨f0,f1,f2,f3,f4,f5⟩:=hf it (by simp);have W:=Walks.range (prog:=L2.P) (w:=L2.w) (I.ok.hd hc) it lo c n;refine W.item i s _ _ hg st fun v h' tk hv Em kk=>?_
  obtain⟨t,rfl⟩:=hv;have I1:Inv X pins σ H {s with heap:=h',toks:=tk}:=I.turned (fun b o hb e=>kk b o (by simpa using hb) e) f0 f1 f3 f4 f5;exact⟨_,rfl,O8 (s:={s with heap:=h',toks:=tk}) (n:="range_iterator") Em rfl rfl (by decide) ⟨.int (lo+(i:Nat)*c),H,I1,⟨t,rfl⟩,⟨rfl,rfl⟩,Em,fun b hb=>(hf b hb).1⟩⟩
 done:=by
  intro X hP hw hK hc i pins s σ H E I hf st hg;subst hP hw hK;obtain⟨f0,f1,f2,f3,f4,f5⟩:=hf it (by simp);exact wpAny_pyNext_range_end (I.ok.hd hc) st (by have :n<=i:=hg;lia) fun h' eb=>⟨rfl,I.turned (t':=s.toks) (fun b o hb e=>eb b o hb e) f0 f1 f3 f4 f5⟩
 self:=fun A i s Q E st h=>wpAny_pyIter_rangeiter st h
def dm(i j c:Int)(n:Nat):Prop:=c≠0/\c.natAbs<1073741824/\Builtin.Range.small i j c=true/\AFd i j c=n
theorem dm.neg(ha: -(2^62)<=i)(Uy:i<2^62)(hb: -(2^62)<=j)(OQ:j<2^62):dm i j (-1) (i-j).toNat:=
 ⟨by decide,by decide,PySem.W.small_down ha Uy hb OQ,PySem.W.rangeSize_downNat i j⟩
def tP(ta:TA):TI:=fun σ H R=>ta σ H fun vs H1=> ∃(i j c:Int)(n:Nat),vs=[.int i,.int j,.int c]/\dm i j c n/\R (PU i c n) H1
section
variable{X:Cx}{tg:Expr}
theorem Wz(hg:Gl X "range")(hm:L2.mg "range"=none)(ha:PA X [a,b,c] ta)
 (hs:starEach [a,b,c] X.env=(false,eval a X.env)::starEach [b,c] X.env:=by rfl)(CB:(backTo pos (starEach [b,c] X.env)).any (·.1)=false:=by rfl):
 PI X tg (.Call (.Name "range" p) [a,b,c] [] pos) (tP ta):=by
 intro pins s σ H R I h;refine Call_ (O5 I hg hm boot_range (aa (As (ha pos pins s σ H _ I h) fun us s1 ⟨vs,H1,I1,r1,q1⟩=>?_) hs CB));obtain⟨i,j,k,n,e,⟨c0,c1,c2,c3⟩,q⟩:=q1;subst e;cases r1 with
 |cons r rr=>
  cases rr with
  |cons r' rr=>
   cases rr with
   |cons r'' rr=>
    cases rr;obtain⟨t,rfl⟩:=r;obtain⟨t',rfl⟩:=r';obtain⟨t'',rfl⟩:=r'';refine call_range_3 c0 ?_ (.inl (az c1));refine wpAny_pyIter_range (IsRange.new ..) c2 ?_;have I2:Inv X pins σ H1 {s1 with heap:=s1.heap.push {cls:=.type "range",data:=.fields #[.int i t,.int j t',.int k t'']}}:=I1.kept (t':=s1.toks) fun b o e=>Ca _ e
    refine Wy (tk:=s1.toks) I2 _ (tO _ i k n) ?_ q;have e1:i+((0:Nat):Int)*k=i:=by simp
    have e2:(n:Int)-((0:Nat):Int)=AFd i j k:=by rw [c3];simp
    show IsRangeIter _ _ (i+((0:Nat):Int)*k) ((n:Int)-((0:Nat):Int)) k;rw [e1,e2];exact Er _ rfl
end
theorem W0{lo c:Int}{n:Nat}{g:TG}{tb:TS}{D:FE}{σ:St}{H:Hp}(Pv:Nat->St->Hp->Prop)(h0:Pv 0 σ H)
 (hs: ∀i σ H,i<n->Pv i σ H->g (.int (lo+(i:Nat)*c)) σ H fun A_ H2=>tb {D with nx:=Pv (i+1),ct:=Pv (i+1),bk:=D.nx} A_ H2)(hd: ∀σ H,Pv n σ H->D.nx σ H):
 ∃W:Nat->Nat->St->Hp->Prop,(∃m,W 0 m σ H)/\ ∀i m σ H,W i m σ H->
  ((PU lo c n).stop i H/\D.nx σ H)\/((PU lo c n).go i H/\ ∃N:St->Hp->Prop,(∀Ak H',N Ak H'-> ∃m',m'<m/\W (i+1) m' Ak H')/\ ∀x H',(PU lo c n).Hi i H x H'->g x σ H' fun A_ H2=>tb {D with nx:=N,ct:=N,bk:=D.nx} A_ H2):=by
 refine⟨fun i m σ H=>m=n-i/\i<=n/\Pv i σ H,⟨n,by simp,DM _,h0⟩,?_⟩;rintro i m σ H ⟨rfl,hi,p⟩;by_cases Bk:i<n
 ·refine .inr ⟨Bk,Pv (i+1),fun Ak H' p'=>⟨n-(i+1),by lia,rfl,Bk,p'⟩,fun x H' y=>?_⟩;obtain⟨e,y⟩:=y;subst e y;exact hs i σ _ Bk p
 ·have e:i=n:=by lia
  subst e;exact .inl ⟨BO _,hd σ H p⟩
def Kw(x:Str):It:=⟨fun i _=>i<x.cps.size,fun i H v H'=>H'=H/\ ∃c,x.cps[i]? =some c/\v=.str ⟨#[c]⟩,fun i _=>x.cps.size<=i⟩
theorem dt{P:Program}{w:World}{K:Aj}{tg:Expr}(it:Addr)(x:Str)(t:Tok)(ty:String)(LX:ty="str_ascii_iterator"\/ty="str_iterator"):
 Ju P w K tg (Kw x) [it] it (fun i h=>h.IsStrIter it ty x t i) where
 mem:=by simp
 obj:=fun i h st b hb=>by
  have e:b=it:=by simpa using hb
  subst e;obtain⟨o,e,c,d⟩:=st;exact⟨o,e,fun v z=>by rw [d]at z;cases z⟩
 keep:=fun i h h' st k=>let⟨o,ho,r⟩:=st;⟨o,k it (by simp) o ho,r⟩
 item:=by
  intro X hP hw hK hc i pins s σ H E I hf st hg;subst hP hw hK;obtain⟨f0,f1,f2,f3,f4,f5⟩:=hf it (by simp);have W:Walks L2.P L2.w X.A it [it] [it] x.cps.size (SignAt x) (fun i h=>h.IsStrIter it ty x t i):=by
   rcases LX with e|e
   ·rw [e];exact Walks.strAscii (I.ok.hd hc) it x t
   ·rw [e];exact Walks.strWide (I.ok.hd hc) it x t
  have ZS:["enumerate","zip","dict_itemiterator","dict_reverseitemiterator","odict_iterator","itertools.zip_longest","itertools.pairwise"].contains ty=false:=by
   rcases LX with e|e
   ·rw [e];decide
   ·rw [e];decide
  refine W.item i s _ _ hg st fun v h' tk hv Em kk=>?_
  obtain⟨c,u,hcx,rfl⟩:=hv;have I1:Inv X pins σ H {s with heap:=h',toks:=tk}:=I.turned (fun b o hb e=>kk b o (by simpa using hb) e) f0 f1 f3 f4 f5;obtain⟨oi,e,cc,dd⟩:=id Em;exact⟨_,rfl,O8 (s:={s with heap:=h',toks:=tk}) e cc dd ZS ⟨.str ⟨#[c]⟩,H,I1,⟨u,rfl⟩,⟨rfl,c,hcx,rfl⟩,Em,fun b hb=>(hf b hb).1⟩⟩
 done:=by
  intro X hP hw hK hc i pins s σ H E I hf st hg;subst hP hw hK;obtain⟨f0,f1,f2,f3,f4,f5⟩:=hf it (by simp);have hx:x.cps[i]? =none:=Array.getElem?_eq_none hg;rcases LX with e|e
  ·rw [e]at st;exact wpAny_pyNext_ascii_end (I.ok.hd hc) st hx fun h' eb=>⟨rfl,I.turned (t':=s.toks) (fun b o hb e=>eb b o hb e) f0 f1 f3 f4 f5⟩
  ·rw [e]at st;exact wpAny_pyNext_wide_end (I.ok.hd hc) st hx fun h' eb=>⟨rfl,I.turned (t':=s.toks) (fun b o hb e=>eb b o hb e) f0 f1 f3 f4 f5⟩
 self:=fun A i s Q E st h=>by
  rcases LX with e|e
  ·rw [e]at st;exact wpAny_pyIter_striter_ascii st h
  ·rw [e]at st;exact wpAny_pyIter_striter_wide st h
def tQ(te:TE):TI:=fun σ H R=>te σ H fun v H1=> ∃x,v=.str x/\R (Kw x) H1
theorem du(he:PE X e te):PI X tg e (tQ te):=by
 intro pins s σ H R I h;refine As (he pins s σ H _ I h) fun v s1 ⟨y,H1,I1,r1,x,ex,q⟩=>?_
 subst ex;obtain⟨t,rfl⟩:=r1;cases ha:x.cps.all (· <128)
 ·exact wpAny_pyIter_wide ha (Wy (tk:=s1.toks) I1 _ (dt _ x t "str_iterator" (.inr rfl)) ⟨_,Er _ rfl,rfl,rfl⟩ q)
 ·exact wpAny_pyIter_ascii ha (Wy (tk:=s1.toks) I1 _ (dt _ x t "str_ascii_iterator" (.inl rfl)) ⟨_,Er _ rfl,rfl,rfl⟩ q)
theorem dv:bootBuiltins "zip"=some (.type "zip"):=by decide+kernel
noncomputable def PV(K:Aj)(a b:Addr):It:=
 ⟨fun i H=> ∃(xs ys:List V)(x y:V),B0 K H a xs/\B0 K H b ys/\xs[i]? =some x/\ys[i]? =some y,
  fun i H v H'=> ∃T x y,v=.ref T/\H T=none/\H'=upd H T (.tup [x,y])/\(∀xs,B0 K H a xs->xs[i]? =some x)/\ ∀ys,B0 K H b ys->ys[i]? =some y,
  fun i H=> ∃xs ys:List V,B0 K H a xs/\B0 K H b ys/\(xs.length<=i\/ys.length<=i)⟩
theorem tR{P:Program}{w:World}{K:Aj}{HL:List Expr}{kk:Nat}{KP:Pos}{a b z TI TO i1 i2:Addr}(D:ZipApart z TI TO i1 i2 a b):
 Ju P w K (.Tuple HL kk KP) (PV K a b) [z,TI,TO,i1,i2] z (fun i h=>IsZip h z TI TO .none/\IsPair h TI (.ref i1) (.ref i2)/\(∃x y,IsPair h TO x y)/\h.IsListIter i1 a i/\h.IsListIter i2 b i) where
 mem:=by simp
 obj:=fun i h st c hc=>by
  obtain⟨hz,C5,⟨x,y,DH⟩,⟨o1,e1,_,d1⟩,⟨o2,e2,_,d2⟩⟩:=st;have e':c=z\/c=TI\/c=TO\/c=i1\/c=i2:=by simpa using hc
  rcases e' with q|q|q|q|q
  ·rw [q];exact⟨_,hz,fun v q=>nomatch q⟩
  ·rw [q];exact⟨_,C5,fun v q=>nomatch q⟩
  ·rw [q];exact⟨_,DH,fun v q=>nomatch q⟩
  ·rw [q];exact⟨o1,e1,fun v q=>by rw [d1]at q;cases q⟩
  ·rw [q];exact⟨o2,e2,fun v q=>by rw [d2]at q;cases q⟩
 keep:=fun i h h' st k=>by
  obtain⟨hz,C5,⟨x,y,DH⟩,h1,h2⟩:=st;exact⟨k z (by simp) _ hz,k TI (by simp) _ C5,⟨x,y,k TO (by simp) _ DH⟩,h1.at fun o q=>k i1 (by simp) o q,h2.at fun o q=>k i2 (by simp) o q⟩
 item:=by
  intro X hP hw hK hc i pins s σ H E I hf st hg;subst hP hw hK;obtain⟨hz,C5,⟨x0,y0,DH⟩,h1,h2⟩:=st;obtain⟨xs,ys,x,y,HC,Ig,hx,hy⟩:=hg;obtain⟨AV,rv,p,_⟩:=I.list HC;obtain⟨GJ,Mq,p2,_⟩:=I.list Ig;obtain⟨u,hu,ru⟩:=rv.get hx;obtain⟨u2,ZT,ZU⟩:=Mq.get hy;have Qn:z<s.heap.objs.size:=B6 hz;refine wpAny_pyNext_zip_item D hz C5 DH h1 h2 p.isList p2.isList (x:=u) (y:=u2) (by simpa using hu) (by simpa using ZT) fun h' z' ZV GK Fy hT hsz hk=>?_
  refine⟨_,rfl,AFe (s:={s with heap:=h'}) z' fun LZ ZW sb=>?_⟩;have OR:LZ.get? s.heap.objs.size=some {cls:=.type "tuple",data:=.seq #[u,u2]}:=(sb.2 _ (Ol Qn)).trans hT;have new:Du L2.P L2.w (upd H s.heap.objs.size (.tup [x,y])) LZ s.heap.objs.size (.tup [x,y]):=
   ⟨by show 2<=sizeLine;decide,[u,u2],.cons ru (.cons ZU .nil),⟨_,OR,rfl,_,rfl⟩⟩
  have I1:Inv X pins σ (upd H s.heap.objs.size (.tup [x,y])) {s with heap:=LZ}:=
   I.mf (t':=s.toks) (ch:=[z,TI,TO,i1,i2]) (fun c o hb q=>(sb.2 c (fun q'=>hb (by simp [q']))).trans (hk c o (fun q'=>hb (by simp [q'])) (fun q'=>hb (by simp [q'])) (fun q'=>hb (by simp [q'])) (fun q'=>hb (by simp [q'])) q)) hf (BO _) new
  refine⟨.ref s.heap.objs.size,_,I1,rfl,⟨_,x,y,rfl,I.Af.fresh (BO _),rfl,fun l hl=>by rw [I.Um hl HC];exact hx,fun l hl=>by rw [I.Um hl Ig];exact hy⟩,⟨ZW,?_,⟨u,u2,?_⟩,?_,?_⟩,fun c KQ=>?_⟩
  ·exact(sb.2 _ D.TIz).trans (hk _ _ D.TIz D.TITO D.TIi1 D.TIi2 C5)
  ·exact(sb.2 _ D.TOz).trans ZV
  ·exact GK.at fun o q=>(sb.2 _ D.i1z).trans q
  ·exact Fy.at fun o q=>(sb.2 _ D.i2z).trans q
  ·have Bk:c<s.heap.objs.size:=by
    have e':c=z\/c=TI\/c=TO\/c=i1\/c=i2:=by simpa using KQ
    rcases e' with q|q|q|q|q
    ·rw [q];exact Qn
    ·rw [q];exact B6 C5
    ·rw [q];exact B6 DH
    ·rw [q];obtain⟨_,e1,_⟩:=h1;exact B6 e1
    ·rw [q];obtain⟨_,e2,_⟩:=h2;exact B6 e2
   rw [BC (Fh Bk)];exact(hf c KQ).1
 done:=by
  intro X hP hw hK hc i pins s σ H E I hf st hg;subst hP hw hK;obtain⟨hz,C5,⟨x0,y0,DH⟩,h1,h2⟩:=st;obtain⟨xs,ys,HC,Ig,mh⟩:=hg;obtain⟨AV,rv,p,_⟩:=I.list HC;obtain⟨GJ,Mq,p2,_⟩:=I.list Ig;have l1:=rv.length;have l2:=Mq.length;have he:AV.toArray[i]? =none\/GJ.toArray[i]? =none:=by
   rcases mh with q|q
   ·exact .inl (by simp;lia)
   ·exact .inr (by simp;lia)
  exact wpAny_pyNext_zip_end (I.ok.hd hc) D hz C5 DH h1 h2 p.isList p2.isList he fun h' hk=>⟨rfl,I.me (t':=s.toks) (ch:=[z,TI,TO,i1,i2]) (fun c o hb q=>
   hk c o (fun q'=>hb (by simp [q'])) (fun q'=>hb (by simp [q'])) (fun q'=>hb (by simp [q'])) (fun q'=>hb (by simp [q'])) q) hf⟩
 self:=fun A i s Q E st h=>a_ st.1 h
def tS(K:Aj)(ta:TA):TI:=fun σ H R=>ta σ H fun vs H1=> ∃a b xs ys,vs=[.ref a,.ref b]/\B0 K H1 a xs/\B0 K H1 b ys/\R (PV K a b) H1
theorem tT(hg:Gl X "zip")(hm:L2.mg "zip"=none)(ha:PA X [e,e2] ta)
 (hs:starEach [e,e2] X.env=(false,eval e X.env)::starEach [e2] X.env:=by rfl)(CB:(backTo pos (starEach [e2] X.env)).any (·.1)=false:=by rfl):
 PI X (.Tuple HL kk KP) (.Call (.Name "zip" p) [e,e2] [] pos) (tS L2.K ta):=by
 intro pins s σ H R I h;refine Call_ (O5 I hg hm dv (aa (As (ha pos pins s σ H _ I h) fun us s1 ⟨vs,H1,I1,r1,q1⟩=>?_) hs CB));obtain⟨a,b,xs,ys,ex,HC,Ig,q⟩:=q1;subst ex;cases r1 with
 |cons r rr=>
  cases rr with
  |cons r' rr=>
   cases rr;cases r;cases r';obtain⟨AV,rv,p1,_⟩:=I1.list HC;obtain⟨GJ,Mq,p2,_⟩:=I1.list Ig;have la:a<s1.heap.objs.size:=p1.lt;have lb:b<s1.heap.objs.size:=p2.lt;refine call_zip_2 p1.isList p2.isList fun h' hz C5 DH h1 h2 hsz hk=>a_ hz ?_
   have I2:Inv X pins σ H1 {s1 with heap:=h'}:=I1.kept (t':=s1.toks) hk;refine⟨s1.heap.objs.size+4,[s1.heap.objs.size+4,s1.heap.objs.size+2,s1.heap.objs.size+3,s1.heap.objs.size,s1.heap.objs.size+1],_,_,H1,rfl,I2,tR (AFf s1.heap.objs.size a b la lb),⟨hz,C5,⟨_,_,DH⟩,h1,h2⟩,fun c KQ=>?_,q⟩;have e':c=s1.heap.objs.size+4\/c=s1.heap.objs.size+2\/c=s1.heap.objs.size+3\/c=s1.heap.objs.size\/c=s1.heap.objs.size+1:=by simpa using KQ
   have hle:s1.heap.objs.size<=c:=by
    rcases e' with z|z|z|z|z
    ·rw [z];exact Ll _ _
    ·rw [z];exact Ll _ _
    ·rw [z];exact Ll _ _
    ·rw [z];exact BO _
    ·rw [z];exact Ll _ _
   exact I1.OL hle (I1.Af.fresh hle)
end L2
section
namespace TL
open PySem PySem.Builtin PySem.Builtin.Str PySem.StrLaws
abbrev tl(x:Str):List Nat:=x.cps.toList
noncomputable def pre(S l:List Nat):Bool:=l.take S.length==S
noncomputable def par(S:List Nat):List Nat->List Nat->Option (List Nat×List Nat)
 |_,[]=>none
 |acc,c::r=>if pre S (c::r)=true then some (acc,(c::r).drop S.length)else par S (acc++[c]) r
end TL
end
namespace L2
open PySem PySem.Spec PyProof.Rows
theorem W2: ∀{ys:List Str}{us:List Value},BM (ys.map V.str) us->StrsAre us ys
 | [],_,.nil=>.nil
 |y::ys,_,.cons r t=>by
  obtain⟨k,rfl⟩:=r;exact .cons y k (W2 t)
section
variable{X:Cx}{pins:List (Addr×Obj)}{σ:St}{H:Hp}{s:Shared}{Q:VK}
theorem dw(I:Inv X pins σ H s)(h: ∀p,H p=none->Q (.ref p) (upd H p (.tup [.str x,.str y,.str z]))):
 EP X pins σ Q (.ref s.heap.objs.size) {s with toks:=k,heap:=s.heap.push {cls:=.type "tuple",data:=.seq [RA x t,.str y u,.str z v].toArray}}:=by
 have hp:=I.Af.fresh (BO _);exact⟨.ref s.heap.objs.size,upd H s.heap.objs.size (.tup [.str x,.str y,.str z]),I.laid (fun b u q=>Ca _ q) (BO _)
  ⟨by show 3<=sizeLine;decide,[RA x t,.str y u,.str z v],.cons ⟨t,rfl⟩ (.cons ⟨u,rfl⟩ (.cons ⟨v,rfl⟩ .nil)),_,Er _ rfl,rfl,_,rfl⟩,rfl,h _ hp⟩
end
section
variable{X:Cx}
theorem d4:Jx X "str.partition" (fun x xs H Q=> ∃a b,x=.str a/\xs=[.str b]/\(b.length==0)=false/\a.length<=sizeLine/\
 ∀p,H p=none->Q (.ref p) (upd H p (.tup [.str (Kb a b).1,.str (Kb a b).2.1,.str (Kb a b).2.2]))):=by
 intro pins s σ H x xs v us Q I rx rs h;obtain⟨a,b,rfl,rfl,hb,hz,h⟩:=h;obtain⟨t,rfl⟩:=rx;cases rs with
 |cons r1 rs=>
  cases rs;obtain⟨u,rfl⟩:=r1;refine VY pJ (RK _ _ _) F.entry_str_partition (F.args_str_partition_2 _ _) (meets_str_partition a b t u hb hz) ?_;unfold Kb at h;revert h;cases oa a b 0 a.length 1 with
  |nil=>intro h;exact dw I h
  |cons i r=>intro h;exact dw I h
theorem tU:Jx X "str.join" (fun x xs H Q=> ∃a p,∃ys:List Str,x=.str a/\xs=[.ref p]/\(B0 L2.K H p (ys.map V.str)\/B9 L2.K H p (ys.map V.str))/\
 (ys.map (·.length)).sum+ys.length*a.length<=16777216/\Q (.str (Txt.join a ys)) H):=by
 intro pins s σ H x xs v us Q I rx rs h;obtain⟨a,p,ys,rfl,rfl,hp,hz,h⟩:=h;obtain⟨t,rfl⟩:=rx;cases rs with
 |cons r1 rs=>
  cases rs;cases r1;rcases hp with hp|hp
  ·obtain⟨AV,r,⟨o,n,ho,hc,_,hd⟩,_⟩:=I.list hp;exact PyProof.Rows.join_list (items:=AV.toArray) ⟨o,ho,hc,n,hd⟩ (by rw [AFg];exact W2 r) hz fun t' k=>⟨.str _,H,I.tok k,⟨t',rfl⟩,h⟩
  ·obtain⟨AV,r,ht,_⟩:=I.tuple hp;exact PyProof.Rows.join_tuple (items:=AV.toArray) ht (by rw [AFg];exact W2 r) hz fun t' k=>⟨.str _,H,I.tok k,⟨t',rfl⟩,h⟩
theorem mt1{id:String}{g:Str->Str->V}(rule: ∀(a b:Str)(t u:Tok)(s:Shared)(Q:Value->Shared->Prop),(∀(v:Value)(k:Nat),RelV (g a b) v->Q v {s with toks:=k})->
 wpAny (model L2.P L2.w) X.A (call (.builtin id) [.str a t,.str b u]) Q X.xe s):Jx X id (fun x xs H Q=> ∃a b,x=.str a/\xs=[.str b]/\Q (g a b) H):=by
 intro pins s σ H x xs v us Q I rx rs h;obtain⟨a,b,rfl,rfl,h⟩:=h;obtain⟨t,rfl⟩:=rx;cases rs with
 |cons r1 rs=>
  cases rs;obtain⟨u,rfl⟩:=r1;exact rule a b t u s _ fun v k r=>⟨g a b,H,I.tok k,r,h⟩
theorem tV:Jx X "str.startswith" (fun x xs H Q=> ∃a b,x=.str a/\xs=[.str b]/\Q (.bl (pK a b)) H):=
 mt1 (g:=fun a b=>.bl (pK a b)) fun _ _ _ _ s _ h=>PySem.SC.startswith (h _ s.toks rfl)
theorem d5:GY X (.type "int") (fun xs H Q=> ∃a n,xs=[.str a]/\pL a=some n/\a.length<=640/\Q (.int n) H):=by
 intro pins s σ H xs us Q I rs h;obtain⟨a,n,rfl,hn,hl,h⟩:=h;cases rs with
 |cons r1 rs=>
  cases rs;obtain⟨t,rfl⟩:=r1;exact PySem.W.KIN.call_text hn hl ⟨.int n,H,I.tok _,⟨_,rfl⟩,h⟩
end
end L2
namespace L2
open PySem PySem.Spec PyProof.Rows
theorem lh(p:IsPart v o): ∃l:Option (Int×Tok),v=partValue l/\l.map (·.1)=o:=by
 cases p with
 |none=>exact⟨none,rfl,rfl⟩
 |int i t=>exact⟨some (i,t),rfl,rfl⟩
noncomputable def PX(n d:Nat):Option Int->Int
 |none=>(d:Int)
 |some i=>max 0 (min (if i<0 then i+(n:Int)else i) (n:Int))
theorem d6(n d:Nat)(o:Option Int):PX n d o=((HT.Bm n d o:Nat):Int):=by
 cases o with
 |none=>rfl
 |some v=>
  show max (0:Int) (min (if v<0 then v+(n:Int)else v) (n:Int))=(((if v<0 then(v+(n:Int)).toNat else min v.toNat n):Nat):Int);by_cases hv:v<0
  ·simp only [AG hv];lia
  ·simp only [AD hv];lia
theorem tW(a b:Option Int)(n:Nat):Lm a b 1 n=sliceRange (PX n 0 a) (PX n n b) 1:=by
 have h1:((1:Int) >0)=True:=by simp
 cases a<;>cases b<;>first
  |rfl
  | (simp only [Lm,PX,h1,E8];rfl)
  |simp [Lm,PX]
theorem tX(a b:Option Int)(n:Nat):Lm a b 1 n=(Hl (HT.Bm n n b-HT.Bm n 0 a)).map (fun k=>HT.Bm n 0 a+k):=by
 rw [tW,d6,d6];generalize HT.Bm n 0 a=p;generalize HT.Bm n n b=q;simp only [sliceRange,show((1:Int) >0)=True from by simp,E8];by_cases Bk:(p:Int) <q
 ·have e3:(((q:Int)-p+1-1)/1).toNat=q-p:=by first|lia| (simp;done)| (simp;lia)
  simp only [Bk,E8,e3];refine bA fun k _=>?_
  lia
 ·have :q-p=0:=by lia
  simp [Bk,this]
noncomputable def HR(z:Str)(lo hi:Option Int):Str:=
 ⟨((z.cps.toList.drop (HT.Bm z.length 0 lo)).take (HT.Bm z.length z.length hi-HT.Bm z.length 0 lo)).toArray⟩
theorem d7(z:Str)(lo hi:Option Int):RO z lo hi=HR z lo hi:=by
 have h1:HT.Bm z.length 0 lo<=z.length:=HT.dI _ _ (DM _) _;have h2:HT.Bm z.length z.length hi<=z.length:=HT.dI _ _ (BO _) _;have hp:HT.Bm z.length 0 lo<=max (HT.Bm z.length 0 lo) (HT.Bm z.length z.length hi):=Nat.le_max_left _ _;have hq:max (HT.Bm z.length 0 lo) (HT.Bm z.length z.length hi)<=z.length:=Nat.max_le.mpr ⟨h1,h2⟩;have hd:max (HT.Bm z.length 0 lo) (HT.Bm z.length z.length hi)-HT.Bm z.length 0 lo=HT.Bm z.length z.length hi-HT.Bm z.length 0 lo:=by lia
 have e:Lm lo hi 1 z.length=
  Lm (some ((HT.Bm z.length 0 lo:Nat):Int)) (some ((max (HT.Bm z.length 0 lo) (HT.Bm z.length z.length hi):Nat):Int)) 1 z.length:=by
  rw [PySem.StrLaws.strSliceIndices_plain hp hq,hd,tX]
 have e2:RO z lo hi=
  RO z (some ((HT.Bm z.length 0 lo:Nat):Int)) (some ((max (HT.Bm z.length 0 lo) (HT.Bm z.length z.length hi):Nat):Int)):=by
  unfold RO;rw [e]
 rw [e2,PySem.StrLaws.sliceText_nat z hp hq,hd];rfl
theorem tY(z:Str)(lo hi:Option Int):(HR z lo hi).length<=z.length:=by
 show(((z.cps.toList.drop (HT.Bm z.length 0 lo)).take (HT.Bm z.length z.length hi-HT.Bm z.length 0 lo)).toArray).size<=z.cps.size;rw [D2,DV,D1,oW];lia
def d8:V->Option Int->Option Int->Hp->VK->Prop:=fun x lo hi H Q=> ∃z,x=.str z/\z.length<=sizeLine/\Q (.str (HR z lo hi)) H
theorem MC:WX X d8:=by
 intro pins s σ H x v vl vu lo hi sl Q I rx hs pl pu h;obtain⟨z,rfl,hz,q⟩:=h;obtain⟨t,rfl⟩:=rx;obtain⟨os,hos,OS,hds⟩:=hs;obtain⟨l,rfl,rfl⟩:=lh pl;obtain⟨u,rfl,rfl⟩:=lh pu;refine⟨"str",_,F.slot_str_getitem.lookup,RK _ _ _,?_⟩;refine wpAny_getItem_str_slice (l:=l) (u:=u) (st:=none) ⟨os,hos,OS,hds⟩ rfl ?_;have hl:(RO z (l.map (·.1)) (u.map (·.1))).length<=sizeLine:=by
  rw [d7];exact A9 (tY z _ _) hz
 rw [<-d7]at q;unfold RO at q hl;show Made.post (if((1:Int)==1&&(Lm (l.map (·.1)) (u.map (·.1)) 1 z.length).length==z.length)=true then Made.val (.str z t)
  else Made.str ⟨((Lm (l.map (·.1)) (u.map (·.1)) 1 z.length).filterMap (z.cps[·]?)).toArray⟩) (EP X pins σ Q) s
 by_cases c:((1:Int)==1&&(Lm (l.map (·.1)) (u.map (·.1)) 1 z.length).length==z.length)=true
 ·rw [AG c]at q⊢;exact⟨.str z,H,I,⟨t,rfl⟩,q⟩
 ·rw [AD c]at q hl⊢;exact⟨hl,.str _,H,I.tok _,⟨_,rfl⟩,q⟩
end L2
namespace L2
open PySem PySem.Spec PyProof.Rows
abbrev Fq:G1:=fun _ _ _ _ _ _=>False
abbrev E0:XK:=fun _ _ _=>False
theorem PY:G2 Fq X E0:=fun _ _ _ _ _ _ _ h=>h.elim
structure IC(K:Aj)(x qual:Str)(st:Stmt)(f:Addr)(fd:FuncData):Prop where
 ex: ∃(oc:Value)(od:Option Addr)(kV doc pm:Value)(an:Option Addr)(By ct:Value)(Qi:Array (Option Value)),
  fd=ox x qual (NH st) (L3 st) (Cw st) .none kV doc pm an By ct/\K.lookup f=some ⟨oc,od,.func fd,Qi⟩/\VW K By qual=true
 kp:Ij K (.ref f)=true
section
variable{base:Heap}
theorem IC.ok{x qual:Str}{st:Stmt}{f:Addr}{fd:FuncData}{N ps:List Str}{k:Nat}{sp:Sp}(F:IC K x qual st f fd)(S:Bj N ps (Cw st))(len: ∀vs H Q E,sp vs H Q E->vs.length=ps.length)
 (Ie: ∀(base:Heap)(By:Value)(A:Around)(outer:List Env)(s:Shared)(H:Hp)(vs:List V)(Q:VK)(E:XK),CU k (A.deeper (envOfC qual (Cw st) s.heap.objs.size f By))->sp vs H Q E->
  ∃t,Ee (Ga Fq base N qual (Cw st) f By A outer s H E).OK (L3 st) t/\t {nx:=fun _ H'=>Q .BZ H',rt:=Q} (start N vs) H):C_ Fq (k+1) f fd ps sp:=by
 obtain⟨oc,od,kV,doc,pm,an,By,ct,Qi,rfl,lk,Fx⟩:=F.ex;refine dG lk Fx S len fun base A outer s H vs Q E hr FI=>?_
 obtain⟨t,h,q⟩:=Ie base By A outer s H vs Q E hr FI;exact⟨t,h.OK,q⟩
end
theorem d9(hr:CU k A):A.units+1<cLine:=Cb (Nat.add_le_add_left (by decide:1<=64) _) hr.units
section
variable{X:Cx}
theorem pv(i:Nat)(hN:X.N[i]? =some x:=by rfl)(hv:Kn X.env.scope x:=by first|exact Or.inl rfl|exact Or.inr (Or.inl rfl)|exact Or.inr (Or.inr rfl))(hd:(x==("__debug__":Str))=false:=by decide)
 (Fx:(x==("__classdict__":Str))=false:=by decide):PE X (.Name x pos) (Aa i):=cQ hN hv hd Fx
end
theorem JH{A B:Prop}(h:B):if false=true then A else B:=by
 rw [AD F0];exact h
theorem ID{A B:Prop}(h:A):if true=true then A else B:=by
 rw [AG rfl];exact h
def AQ(H H':Hp):Prop:= ∀b o,H b=some o->H' b=some o
theorem AQ.trans(a:AQ H H1)(b:AQ H1 H2):AQ H H2:=fun c o h=>b c o (a c o h)
theorem AQ.free(e:AQ H H')(h:H' l=bC):H l=bC:=by
 cases q:H l with
 |none=>rfl
 |some o=>
  rw [e l o q]at h;cases h
theorem AQ.seq{K:Aj}(e:AQ H H')(h:B0 K H a xs):B0 K H' a xs:=by
 rcases h with(h|⟨o,h⟩)|h
 ·exact .inl (.inl (e _ _ h))
 ·exact .inl (.inr ⟨o,e _ _ h⟩)
 ·exact .inr h
theorem Qb(nx:H x=bC)(nd:H dx=bC)(k: ∀b o,(upd (upd H dx (.own x)) x (.ins C dx [])) b=some o->b≠x->H1 b=some o):AQ H H1:=fun b o e=>
 k b o (by rw [BC (D4 e nx),BC (D4 e nd)];exact e) (D4 e nx)
end L2
section
namespace L2
open PySem PySem.Spec PyProof.Rows
open PySem.W (WData Codec OpenSpec Well WellAll ReadsW ReadsAllW)
mutual
inductive Dw(K:Aj)(H:Hp):V->WData->Prop
 |BZ:Dw K H .BZ .none
 |bl (b:Bool):Dw K H (.bl b) (.bool b)
 |int (i:Int):Dw K H (.int i) (.int i)
 |str (x:Str):Dw K H (.str x) (.str x)
 |E5 (b:Array UInt8):Dw K H (.E5 b) (.bytes b.toList)
 |lst {a:Addr} {xs:List V} {ds:List WData}:B0 K H a xs->HS K H xs ds->Dw K H (.ref a) (.list ds)
 |tup {a:Addr} {xs:List V} {ds:List WData}:B9 K H a xs->HS K H xs ds->Dw K H (.ref a) (.tuple ds)
inductive HS(K:Aj)(H:Hp):List V->List WData->Prop
 |nil:HS K H [] []
 |cons {v:V} {vs:List V} {d:WData} {ds:List WData}:Dw K H v d->HS K H vs ds->HS K H (v::vs) (d::ds)
end
theorem d_{K:Aj}: ∀ns:List Int,HS K H (ns.map V.int) (ns.map bD)
 | []=>.nil
 |n::r=>.cons (.int n) (d_ r)
theorem eB{K:Aj}: ∀(ns:List Int)(xs:List V),HS K H xs (ns.map bD)->xs=ns.map V.int
 | [],xs,h=>by
  cases h;rfl
 |n::r,xs,h=>by
  cases h with
  |cons h1 h2=>
   cases h1;rw [eB r _ h2]<;>rfl
section
variable{P:Program}{w:World}{K:Aj}{H:Hp}{h:Heap}{R:AFh}{cl:Str->Option Addr}
theorem tZ{a:Addr}{xs:List V}(Af:Cr P w H h)(KX:K.In h)(q:B0 K H a xs): ∃(AV:List Value)(o:Obj)(n:Nat),BM xs AV/\h.get? a=some o/\o.cls=.type "list"/\o.data=.seq AV.toArray n:=by
 rcases q with q|⟨o,AV,n,e,hc,_,hd,_,hv⟩
 ·obtain⟨_,AV,n,hv,e⟩:=(show Du P w H h a (.lst xs)from q.ok Af);exact⟨AV,_,n,hv,e,rfl,rfl⟩
 ·exact⟨AV.toList,o,n,hv,KX _ _ e,hc,by simp [hd]⟩
theorem tf{a:Addr}{xs:List V}(Af:Cr P w H h)(KX:K.In h)(q:B9 K H a xs): ∃(AV:List Value)(o:Obj)(n:Nat),BM xs AV/\h.get? a=some o/\o.cls=.type "tuple"/\o.data=.seq AV.toArray n:=by
 rcases q with q|⟨o,AV,n,e,hc,hd,_,hv⟩
 ·obtain⟨_,AV,hv,o,e,hc,n,hd⟩:=(show Du P w H h a (.tup xs)from q.ok Af);exact⟨AV,o,n,hv,e,hc,hd⟩
 ·exact⟨AV.toList,o,n,hv,KX _ _ e,hc,by simp [hd]⟩
mutual
theorem lj(Af:Cr P w H h)(KX:K.In h): ∀(d:WData)(v:V)(u:Value),Dw K H v d->RelV v u-> ∃as,ReadsW R cl h u d as
 |.none,_,_,x,r=>by
  cases x;cases r;exact⟨_,ReadsW.none⟩
 |.bool b,_,_,x,r=>by
  cases x;cases r;exact⟨_,ReadsW.bool b⟩
 |.int i,_,_,x,r=>by
  cases x;obtain⟨t,rfl⟩:=r;exact⟨_,ReadsW.int i t⟩
 |.str s,_,_,x,r=>by
  cases x;obtain⟨t,rfl⟩:=r;exact⟨_,ReadsW.str s t⟩
 |.bytes b,_,_,x,r=>by
  cases x;obtain⟨t,rfl⟩:=r;exact⟨_,ReadsW.bytes _ t⟩
 |.list ds,_,_,x,r=>by
  cases x with
  |lst hs ha=>
   cases r;obtain⟨AV,o,n,rv,ho,hc,hd⟩:=tZ Af KX hs;obtain⟨as,hr⟩:=ZA Af KX ds _ AV ha rv;exact⟨_,ReadsW.list ho hc hd hr⟩
 |.tuple ds,_,_,x,r=>by
  cases x with
  |tup hs ha=>
   cases r;obtain⟨AV,o,n,rv,ho,hc,hd⟩:=tf Af KX hs;obtain⟨as,hr⟩:=ZA Af KX ds _ AV ha rv;exact⟨_,ReadsW.tuple ho hc hd hr⟩
 |.float _,_,_,x,_=>by cases x
 |.dict _,_,_,x,_=>by cases x
 |.bytearray _,_,_,x,_=>by cases x
 |.set _,_,_,x,_=>by cases x
 |.frozenset _,_,_,x,_=>by cases x
 |.obj _ _,_,_,x,_=>by cases x
theorem ZA(Af:Cr P w H h)(KX:K.In h): ∀(ds:List WData)(vs:List V)(us:List Value),HS K H vs ds->BM vs us-> ∃as,ReadsAllW R cl h us ds as
 | [],_,_,x,r=>by
  cases x;cases r;exact⟨_,ReadsAllW.nil⟩
 |d::ds,_,_,x,r=>by
  cases x with
  |cons h1 h2=>
   cases r with
   |cons r1 r2=>
    obtain⟨as,q1⟩:=lj Af KX d _ _ h1 r1;obtain⟨bs,q2⟩:=ZA Af KX ds _ _ h2 r2;exact⟨_,ReadsAllW.cons q1 q2⟩
end
end
mutual
def Gd:WData->Bool
 |.none=>true
 |.bool _=>true
 |.int _=>true
 |.str _=>true
 |.bytes _=>true
 |.list xs=>HU xs
 |.tuple xs=>HU xs
 |_=>false
def HU:List WData->Bool
 | []=>true
 |x::r=>Gd x&&HU r
end
theorem eF{α:Type}{f:α->WData}(h: ∀a,Gd (f a)=true): ∀l:List α,HU (l.map f)=true
 | []=>rfl
 |x::r=>by
  show(Gd (f x)&&HU (r.map f))=true;rw [h x,eF h r]<;>rfl
theorem Kx: ∀(c:Codec)(a:c.denote),Gd (c.enc a)=true
 |.unit,_=>rfl
 |.bool,_=>rfl
 |.int _ _,_=>rfl
 |.nat _ _,_=>rfl
 |.u8,_=>rfl
 |.bytes _ _,_=>rfl
 |.text _ _ _ _,_=>rfl
 |.list _ _ c,a=>eF (fun x=>Kx c x) a
 |.pair c d,a=>by
  show(Gd (c.enc a.1)&&(Gd (d.enc a.2)&&true))=true;rw [Kx c a.1,Kx d a.2]<;>rfl
 |.triple c d e,a=>by
  show(Gd (c.enc a.1)&&(Gd (d.enc a.2.1)&&(Gd (e.enc a.2.2)&&true)))=true;rw [Kx c a.1,Kx d a.2.1,Kx e a.2.2]<;>rfl
 |.option c,none=>rfl
 |.option c,some x=>Kx c x
theorem eG: ∀(cs:List Codec)(a:pM cs),HU (Vb cs a)=true
 | [],_=>rfl
 |c::cs,a=>by
  show(Gd (c.enc a.1)&&HU (Vb cs a.2))=true;rw [Kx c a.1,eG cs a.2]<;>rfl
theorem W3: ∀{xs:List WData}{d:WData},d∈xs->d.weight<=bF xs
 | [],d,h=>absurd h (by simp)
 |x::r,d,h=>by
  show d.weight<=x.weight+1+bF r;rcases DL.mp h with e|m
  ·rw [e];lia
  ·have z:=W3 m;lia
def Fc:Value->V
 |.none=>.BZ
 |.bool b=>.bl b
 |.int i _=>.int i
 |.str x _=>.str x
 |.bytes b _=>.E5 b
 |.ref a=>.ref a
 |_=>.BZ
def HV(A:List Addr):Value->Prop
 |.none=>True
 |.bool _=>True
 |.int _ _=>True
 |.str _ _=>True
 |.bytes _ _=>True
 |.ref a=>a∈A
 |_=>False
theorem HV.mono(h: ∀a∈A,a∈B): ∀{u:Value},HV A u->HV B u:=fun {u} x=>by
 cases u with
 |ref a=>exact h a x
 |none=>trivial
 |bool b=>trivial
 |int i t=>trivial
 |str s t=>trivial
 |bytes b t=>trivial
 |_=>exact Dp x
theorem tj(x:HV A u):RelV (Fc u) u:=by
 cases u with
 |ref a=>rfl
 |none=>rfl
 |bool b=>rfl
 |int i t=>exact⟨t,rfl⟩
 |str s t=>exact⟨t,rfl⟩
 |bytes b t=>exact⟨t,rfl⟩
 |_=>exact Dp x
theorem Na: ∀{vs:List Value},(∀u∈vs,HV A u)->BM (vs.map Fc) vs
 | [],_=>.nil
 |u::r,h=>.cons (tj (h u (Eb ..))) (Na fun x hx=>h x (Dn _ hx))
def IE(h:Heap)(A:List Addr)(a:Addr):Prop:= ∃vs:List Value,vs.length<=sizeLine/\(∀u∈vs,HV A u)/\
 (h.get? a=some {cls:=.type "list",data:=.seq vs.toArray}\/h.get? a=some {cls:=.type "tuple",data:=.seq vs.toArray})
theorem IE.mono(k: ∀a∈A,a∈B)(x:IE h A a):IE h B a:=by
 obtain⟨vs,h1,h2,h3⟩:=x;exact⟨vs,h1,fun u hu=>(h2 u hu).mono k,h3⟩
theorem R_{P:Params}{h:Heap}: ∀{vs:List Value}{ds:List WData},WellAll P h vs ds->vs.length=ds.length
 |_,_,.nil=>rfl
 |_,_,.cons _ b=>by
  show _+1=_+1;rw [R_ b]
theorem eI{P:Params}{h:Heap}{v:Value}{ds:List WData}(x:Well P h v (.list ds)): ∃(a:Addr)(vs:List Value),v=.ref a/\h.get? a=some {cls:=.type "list",data:=.seq vs.toArray}/\WellAll P h vs ds:=by
 cases x with
 |list ho ED=>exact⟨_,_,rfl,ho,ED⟩
theorem eJ{P:Params}{h:Heap}{v:Value}{ds:List WData}(x:Well P h v (.tuple ds)): ∃(a:Addr)(vs:List Value),v=.ref a/\h.get? a=some {cls:=.type "tuple",data:=.seq vs.toArray}/\WellAll P h vs ds:=by
 cases x with
 |tuple ho ED=>exact⟨_,_,rfl,ho,ED⟩
theorem eL{P:Params}{h:Heap}{us:List Value}{d:WData}{ds:List WData}(x:WellAll P h us (d::ds)): ∃(v:Value)(vs:List Value),us=v::vs/\Well P h v d/\WellAll P h vs ds:=by
 cases x with
 |cons a b=>exact⟨_,_,rfl,a,b⟩
theorem eM(h:n<=1048576):n<=sizeLine:=A9 h (by decide)
section
variable{P:Params}{h:Heap}
mutual
theorem tu: ∀(d:WData)(v:Value),Well P h v d->Gd d=true->d.weight<=1048576-> ∃A:List Addr,HV A v/\ ∀a∈A,IE h A a
 |.none,_,x,_,_=>by
  cases x;exact⟨[],trivial,fun a m=>absurd m (by simp)⟩
 |.bool b,_,x,_,_=>by
  cases x;exact⟨[],trivial,fun a m=>absurd m (by simp)⟩
 |.int i,_,x,_,_=>by
  cases x;exact⟨[],trivial,fun a m=>absurd m (by simp)⟩
 |.str s,_,x,_,_=>by
  cases x;exact⟨[],trivial,fun a m=>absurd m (by simp)⟩
 |.bytes b,_,x,_,_=>by
  cases x;exact⟨[],trivial,fun a m=>absurd m (by simp)⟩
 |.list ds,_,x,p,z=>by
  obtain⟨a,vs,rfl,ho,ED⟩:=eI x;have z2:bF ds<=1048576:=z;obtain⟨A,h1,h2⟩:=SA ds _ ED p fun d hd=>A9 (W3 hd) z2
  have k: ∀b∈A,b∈a::A:=fun b hb=>Dn _ hb
  refine⟨a::A,Eb ..,fun b hb=>?_⟩;rcases DL.mp hb with e|m
  ·rw [e];exact⟨vs,eM (by rw [R_ ED];exact A9 (AFi ds) z2),fun u hu=>(h1 u hu).mono k,.inl ho⟩
  ·exact(h2 b m).mono k
 |.tuple ds,_,x,p,z=>by
  obtain⟨a,vs,rfl,ho,ED⟩:=eJ x;have z2:bF ds<=1048576:=z;obtain⟨A,h1,h2⟩:=SA ds _ ED p fun d hd=>A9 (W3 hd) z2
  have k: ∀b∈A,b∈a::A:=fun b hb=>Dn _ hb
  refine⟨a::A,Eb ..,fun b hb=>?_⟩;rcases DL.mp hb with e|m
  ·rw [e];exact⟨vs,eM (by rw [R_ ED];exact A9 (AFi ds) z2),fun u hu=>(h1 u hu).mono k,.inr ho⟩
  ·exact(h2 b m).mono k
 |.float _,_,_,p,_=>E9 (show false=true from p)
 |.dict _,_,_,p,_=>E9 (show false=true from p)
 |.bytearray _,_,_,p,_=>E9 (show false=true from p)
 |.set _,_,_,p,_=>E9 (show false=true from p)
 |.frozenset _,_,_,p,_=>E9 (show false=true from p)
 |.obj _ _,_,_,p,_=>E9 (show false=true from p)
theorem SA: ∀(ds:List WData)(vs:List Value),WellAll P h vs ds->HU ds=true->(∀d∈ds,d.weight<=1048576)-> ∃A:List Addr,(∀u∈vs,HV A u)/\ ∀a∈A,IE h A a
 | [],_,x,_,_=>by
  cases x;exact⟨[],fun u m=>absurd m (by simp),fun a m=>absurd m (by simp)⟩
 |d::ds,_,x,p,z=>by
  obtain⟨v,vs,rfl,x1,x2⟩:=eL x;have q:Gd d=true/\HU ds=true:=bG.mp p;obtain⟨A,a1,a2⟩:=tu d v x1 q.1 (z d (Eb ..));obtain⟨B,b1,b2⟩:=SA ds vs x2 q.2 fun e he=>z e (Dn _ he)
  have kA: ∀b∈A,b∈A++B:=fun b hb=>Hm.mpr (.inl hb)
  have kB: ∀b∈B,b∈A++B:=fun b hb=>Hm.mpr (.inr hb)
  refine⟨A++B,fun u hu=>?_,fun b hb=>?_⟩
  ·rcases DL.mp hu with e|m
   ·rw [e];exact a1.mono kA
   ·exact(b1 u m).mono kB
  ·rcases Hm.mp hb with m|m
   ·exact(a2 b m).mono kA
   ·exact(b2 b m).mono kB
end
end
def SD(o:Obj):Option HO:=match o.data with
 |.seq vs _=>if(o.cls==Oi "list")=true then some (.EZ o (.lst (vs.toList.map Fc)))else some (.EZ o (.tup (vs.toList.map Fc)))
 |_=>none
def Ew(K:Aj)(h:Heap)(A:List Addr):Hp:=fun b=>if b∈A then(if(K.lookup b).isNone=true then(h.get? b).bind SD else none)else none
def SE(H:Hp):Prop:= ∀b,H b=none\/ ∃o u,H b=some (.EZ o u)
theorem eN(vs:List Value):SD {cls:=.type "list",data:=.seq vs.toArray}=some (.EZ {cls:=.type "list",data:=.seq vs.toArray} (.lst (vs.map Fc))):=by
 show(if(Oi "list"==Oi "list")=true then some (HO.EZ {cls:=.type "list",data:=.seq vs.toArray} (.lst (vs.toArray.toList.map Fc)))else some (HO.EZ {cls:=.type "list",data:=.seq vs.toArray} (.tup (vs.toArray.toList.map Fc))))=_;rw [AG (Vc _)]
theorem eO(vs:List Value):SD {cls:=.type "tuple",data:=.seq vs.toArray}=some (.EZ {cls:=.type "tuple",data:=.seq vs.toArray} (.tup (vs.map Fc))):=by
 show(if(Oi "tuple"==Oi "list")=true then some (HO.EZ {cls:=.type "tuple",data:=.seq vs.toArray} (.lst (vs.toArray.toList.map Fc)))else some (HO.EZ {cls:=.type "tuple",data:=.seq vs.toArray} (.tup (vs.toArray.toList.map Fc))))=_;rw [AD (by decide)]
section
variable{P:Program}{w:World}{K:Aj}{h:Heap}{A:List Addr}
theorem SG(hb:b∈A)(hk:K.lookup b=none)(e:h.get? b=some o):Ew K h A b=SD o:=by
 unfold Ew;rw [AG hb,hk,AG (show(none:Option Obj).isNone=true from rfl),e]<;>rfl
theorem t5(q:Ew K h A b=some u):b∈A/\K.lookup b=none:=by
 unfold Ew at q;by_cases hb:b∈A
 ·rw [AG hb]at q;cases hk:K.lookup b with
  |none=>exact⟨hb,rfl⟩
  |some o=>
   rw [hk,AD (by simp)]at q;cases q
 ·rw [AD hb]at q;cases q
theorem SH(ar: ∀a∈A,IE h A a)(q:Ew K h A b=some u):K.lookup b=none/\ ∃vs:List Value,vs.length<=sizeLine/\(∀u∈vs,HV A u)/\
 ((h.get? b=some {cls:=.type "list",data:=.seq vs.toArray}/\u=.EZ {cls:=.type "list",data:=.seq vs.toArray} (.lst (vs.map Fc)))\/
  (h.get? b=some {cls:=.type "tuple",data:=.seq vs.toArray}/\u=.EZ {cls:=.type "tuple",data:=.seq vs.toArray} (.tup (vs.map Fc)))):=by
 obtain⟨hb,hk⟩:=t5 q;obtain⟨vs,h1,h2,h3⟩:=ar b hb;refine⟨hk,vs,h1,h2,?_⟩;rcases h3 with e|e
 ·rw [SG hb hk e,eN]at q;exact .inl ⟨e,(BQ q).symm⟩
 ·rw [SG hb hk e,eO]at q;exact .inr ⟨e,(BQ q).symm⟩
theorem t6(ar: ∀a∈A,IE h A a):SE (Ew K h A):=fun b=>by
 cases q:Ew K h A b with
 |none=>exact .inl rfl
 |some u=>
  obtain⟨_,vs,_,_,⟨_,e⟩|⟨_,e⟩⟩:=SH ar q
  ·exact .inr ⟨_,_,by rw [e]⟩
  ·exact .inr ⟨_,_,by rw [e]⟩
theorem t7(ar: ∀a∈A,IE h A a):Cr P w (Ew K h A) h:=fun b u q=>by
 obtain⟨_,vs,h1,h2,⟨e,rfl⟩|⟨e,rfl⟩⟩:=SH ar q
 ·exact⟨e,by rw [A5];exact h1,vs,_,Na h2,e⟩
 ·exact⟨e,by rw [A5];exact h1,vs,Na h2,_,e,rfl,_,rfl⟩
theorem SI{c c':Value}{vs us:List Value}(e:(some {cls:=c,data:=.seq vs.toArray}:Option Obj)=some {cls:=c',data:=.seq us.toArray}):c=c'/\vs=us:=by
 have e1:=BQ e;have e2:c=c':=congrArg Obj.cls e1;have e3:bH vs.toArray=bH us.toArray:=congrArg Obj.data e1;injection e3 with e4
 refine⟨e2,?_⟩;have e5:=congrArg VM e4;simpa using e5
theorem t8(KX:K.In h)(ar: ∀a∈A,IE h A a){a:Addr}{vs:List Value}(ha:a∈A)(e:h.get? a=some {cls:=.type "list",data:=.seq vs.toArray}):(∀u∈vs,HV A u)/\B0 K (Ew K h A) a (vs.map Fc):=by
 obtain⟨us,h1,h2,h3⟩:=ar a ha;have hu:us=vs:=by
  rcases h3 with q|q
  ·rw [e]at q;exact(SI q).2.symm
  ·rw [e]at q;exact absurd (AFj (SI q).1) (by decide)
 subst hu;refine⟨h2,?_⟩;cases hk:K.lookup a with
 |none=>exact .inl (.inr ⟨_,by rw [SG ha hk e,eN]⟩)
 |some o=>
  have e2:=KX a o hk;rw [e]at e2;obtain rfl:=BQ e2;exact .inr ⟨_,us.toArray,_,hk,rfl,rfl,rfl,by rw [D2];exact h1,by simpa using Na h2⟩
theorem t_(KX:K.In h)(ar: ∀a∈A,IE h A a){a:Addr}{vs:List Value}(ha:a∈A)(e:h.get? a=some {cls:=.type "tuple",data:=.seq vs.toArray}):(∀u∈vs,HV A u)/\B9 K (Ew K h A) a (vs.map Fc):=by
 obtain⟨us,h1,h2,h3⟩:=ar a ha;have hu:us=vs:=by
  rcases h3 with q|q
  ·rw [e]at q;exact absurd (AFj (SI q).1) (by decide)
  ·rw [e]at q;exact(SI q).2.symm
 subst hu;refine⟨h2,?_⟩;cases hk:K.lookup a with
 |none=>exact .inl (.inr ⟨_,by rw [SG ha hk e,eO]⟩)
 |some o=>
  have e2:=KX a o hk;rw [e]at e2;obtain rfl:=BQ e2;exact .inr ⟨_,us.toArray,_,hk,rfl,rfl,by rw [D2];exact h1,by simpa using Na h2⟩
mutual
theorem uA{Pm:Params}(KX:K.In h)(ar: ∀a∈A,IE h A a): ∀(d:WData)(v:Value),Well Pm h v d->Gd d=true->HV A v->Dw K (Ew K h A) (Fc v) d
 |.none,_,x,_,_=>by
  cases x;exact .BZ
 |.bool b,_,x,_,_=>by
  cases x;exact .bl b
 |.int i,_,x,_,_=>by
  cases x;exact .int i
 |.str s,_,x,_,_=>by
  cases x;exact .str s
 |.bytes b,_,x,_,_=>by
  cases x;have z:=Dw.E5 (K:=K) (H:=Ew K h A) b.toArray;exact z
 |.list ds,_,x,p,hu=>by
  obtain⟨a,vs,rfl,ho,ED⟩:=eI x;obtain⟨h2,hs⟩:=t8 KX ar hu ho;exact .lst hs (SJ KX ar ds _ ED p h2)
 |.tuple ds,_,x,p,hu=>by
  obtain⟨a,vs,rfl,ho,ED⟩:=eJ x;obtain⟨h2,hs⟩:=t_ KX ar hu ho;exact .tup hs (SJ KX ar ds _ ED p h2)
 |.float _,_,_,p,_=>E9 (show false=true from p)
 |.dict _,_,_,p,_=>E9 (show false=true from p)
 |.bytearray _,_,_,p,_=>E9 (show false=true from p)
 |.set _,_,_,p,_=>E9 (show false=true from p)
 |.frozenset _,_,_,p,_=>E9 (show false=true from p)
 |.obj _ _,_,_,p,_=>E9 (show false=true from p)
theorem SJ{Pm:Params}(KX:K.In h)(ar: ∀a∈A,IE h A a): ∀(ds:List WData)(vs:List Value),WellAll Pm h vs ds->HU ds=true->(∀u∈vs,HV A u)->HS K (Ew K h A) (vs.map Fc) ds
 | [],_,x,_,_=>by
  cases x;exact .nil
 |d::ds,_,x,p,hu=>by
  obtain⟨v,vs,rfl,x1,x2⟩:=eL x;have q:Gd d=true/\HU ds=true:=bG.mp p;exact .cons (uA KX ar d v x1 q.1 (hu _ (Eb ..))) (SJ KX ar ds vs x2 q.2 fun u m=>hu u (Dn _ m))
end
end
theorem uB
 (KX:K.In Bl.heap)(hns:Bl.heap.Ns mainGlobals mg)(hb:Bl.heap.Ns builtinsNs mb)(hbb: ∀x:Str,x≠"__name__"->mb x=bootBuiltins x)(AEv:Bl.heap.NoLimit)(AEw:Bl.heap.NoDigits)(hg:Bl.gens= #[])
 (Mr:WellAll w.params Bl.heap vals ds)(CB:HU ds=true)(hwt: ∀d∈ds,d.weight<=1048576)(hr:CU k callerA)
 (F:C_ CX k fa fd ps sp)(AEx: ∀(s:Shared)(us:List Value),us.length=ps.length->BindsTo s fd ⟨us,[]⟩ (ps.zip us))(hlen:ds.length=ps.length)
 (FI: ∀(H:Hp)(xs:List V),SE H->HS K H xs ds->sp xs H (fun v H'=>Dw K H' v d0) fun _ _ _=>False)
 (hCX: ∀H e s',CX [] H Bl (fun _ _ _=>False) e s'->False):
 codeAny (model P w) callerA (.call (.ref fa) ⟨vals,[]⟩) (fun r s'=> ∃u as,r=.ok (.ret u)/\ReadsW R cl s'.heap u d0 as/\OldK Bl.heap s'.heap/\s'.os=Bl.os/\AllBare s'.gens) Bl:=by
 obtain⟨A,ho,ar⟩:=SA ds vals Mr CB hwt;have hO:SE (Ew K Bl.heap A):=t6 ar;have Af:Cr P w (Ew K Bl.heap A) Bl.heap:=t7 ar;have hS:=SJ KX ar ds vals Mr CB ho;have hV:=Na ho;have hK: ∀b u,Ew K Bl.heap A b=some u->K.lookup b=none:=fun b u q=>(SH ar q).1
 have ON: ∀{b:Addr}{o:Obj}{es:Array DictEntry}{ep:Nat},Bl.heap.get? b=some o->o.data=.dict es ep->Ew K Bl.heap A b=none:=fun {b o es ep} e d=>by
  cases q:Ew K Bl.heap A b with
  |none=>rfl
  |some u=>
   obtain⟨_,vs,_,_,⟨e2,_⟩|⟨e2,_⟩⟩:=SH ar q
   ·rw [e2]at e;cases e;have d':bH vs.toArray _=Data.dict es ep:=d;cases d'
   ·rw [e2]at e;cases e;have d':bH vs.toArray _=Data.dict es ep:=d;cases d'
 generalize Ew K Bl.heap A=H at hO Af hS hK ON;have mi: ∀{b:Addr}{o:Obj},Bl.heap.get? b=some o->H b=none->(Js Bl.heap H).get? b=some o:=fun e n=>qm e n
 have Uz: ∀{b:Addr}{m:Str->Option Value},Bl.heap.Ns b m->(Js Bl.heap H).Ns b m:=fun {b m} ⟨o,es,ep,e,d,r⟩=>⟨o,es,ep,mi e (ON e d),d,r⟩
 have nK: ∀b o,K.lookup b=some o->H b=none:=fun b o e=>by
  cases q:H b with
  |none=>rfl
  |some u=>
   rw [hK b u q]at e;cases e
 have hKb:K.In (Js Bl.heap H):=fun b o e=>mi (KX b o e) (nK b o e)
 have hM:Mod K mg (Js Bl.heap H):=⟨hKb,Uz hns,⟨mb,Uz hb,hbb⟩,let⟨mc,h1,h2⟩:=AEv;⟨mc,Uz h1,h2⟩,let⟨mc,h1,h2⟩:=AEw;⟨mc,Uz h1,h2⟩⟩;have e0:NU P w K mg (Js Bl.heap H) callerA [] Bl H:=⟨rfl,hM,fun b o e=>qo e,Om (ql _ _),trivial,fun b hb=>absurd (show b∈([]:List Addr)from hb) (by simp),Af,.of_eq hg⟩;have hl:vals.length=ps.length:=by rw [R_ Mr];exact hlen
 refine RI (F.run _ callerA [] Bl H ⟨vals,[]⟩ vals (vals.map Fc) _ _ hr e0 (AEx Bl vals hl) hV (FI H _ hO hS)) fun r s' x=>?_
 cases r with
 |error e=>exact(hCX H e s' x).elim
 |ok fl=>
  cases fl with
  |next=>exact Dp x
  |brk=>exact Dp x
  |cont=>exact Dp x
  |ret u=>
   obtain⟨v,H',os,bare,un,mj,r',q⟩:=x;have kept: ∀b o,Bl.heap.get? b=some o->s'.heap.get? b=some o:=fun b o e=>by
    cases q2:H b with
    |none=>exact un.keep b o e q2 (by intro z;exact absurd (show b∈([]:List Addr)from z) (by simp)) (by simp)
    |some u2=>
     rcases hO b with z|⟨ob,u3,z⟩
     ·rw [q2]at z;cases z
     ·have z2:=un.GF b ob _ z;obtain⟨e1,_⟩:=Af b _ z;obtain⟨e2,_⟩:=mj b _ z2;rw [e]at e1;cases e1;exact e2
   have KX':K.In s'.heap:=fun b o e=>kept b o (KX b o e)
   obtain⟨as,mn⟩:=lj (R:=R) (cl:=cl) mj KX' d0 v u q r';exact⟨u,as,rfl,mn,OldK.of_keep kept,os,bare⟩
theorem uC(h:WData.layableAll ds=true): ∀d∈ds,d.weight<=1048576:=fun d hd=>
 (PySem.W.layableW_iff.mp (GS.mp h d hd)).2.2
theorem eP: ∀(cs:List Codec)(a:pM cs),(Vb cs a).length=cs.length
 | [],_=>rfl
 |c::cs,a=>by
  show(Vb cs a.2).length+1=cs.length+1;rw [eP cs a.2]
end L2
end
set_option backward.match.sparseCases true
namespace Q3
open PySem PySem.Spec PyProof.Rows L2
section
variable{X:Cx}{a b:Expr}{ta tb:TE}{pos:Pos}
abbrev Aq(i:Int):Nat:=pN i
def HW(i j:Int):Prop:=Aq i<=60000000/\Aq j<=60000000
def MD(i j:Int):Prop:=0<=j/\j<=60000000/\Aq i<=60000000
def Nb(i j:Int):Prop:=0<j/\HF i j=false
theorem FJ:DP X (binaryOp .Mult) (rI HW fun i j=>.int (i*j)):=PD fun _ _ _ _ _ _ _ hc q=>mul_int q (IntMulOk.of_le hc.1 hc.2 (by decide))
theorem DF:DP X (binaryOp .LShift) (rI MD fun i j=>.int (i*2^j.toNat)):=PD fun i j _ _ _ _ _ hc q=>lshift_int hc.1 (by
 have h1:=hc.2.1;have h2:Aq i<=60000000:=hc.2.2;have h3:(2:Int)^27=134217728:=by decide
 rw [h3];have h4:((Aq i:Nat):Int)<=60000000:=by lia
 show((Aq i:Nat):Int)+j<=134217728;lia) q
theorem FK:DP X (binaryOp .FloorDiv) (rI Nb fun i j=>.int (i/j)):=PD fun i j _ _ _ _ _ hc q=>by
 have h1:(0:Int) <j:=hc.1;refine floordiv_int (by lia) ?_ (.inl hc.2);rw [AFN _ (by lia:0<=j)];exact q
def eQ:V->List V->Hp->VK->Prop:=fun x xs H Q=> ∃i:Int,x=.int i/\xs=[]/\Q (.int ((Aq i:Nat):Int)) H
theorem PZ:Jx X "int.bit_length" eQ:=by
 intro pins s σ H x xs v us Q I rx rv h;obtain⟨i,rfl,rfl,q⟩:=h;obtain⟨t,rfl⟩:=rx;cases rv;exact call_int_bit_length ⟨.int _,H,I.tok _,⟨_,rfl⟩,q⟩
def B_(mg:Str->Option Value)(x:Str)(i:Int):Prop:= ∃t,mg x=some (.int i t)
theorem uD(hg:Gl X x)(h:B_ L2.mg x i)(hd:(x==("__debug__":Str))=false:=by decide):PE X (.Name x pos) (tC (.int i)):=by
 obtain⟨t,h⟩:=h;exact WI hg h ⟨t,rfl⟩ hd
theorem F6{x:Str}{a:Addr}{pos:Pos}(hg:Gl X x)(h:L2.mg x=some (.ref a))(hd:(x==("__debug__":Str))=false:=by decide):PE X (.Name x pos) (tC (.ref a)):=
 WI (v:=.ref a) hg h (show RelV (.ref a) (DC a)from rfl) hd
end
section
variable{X:Cx}{e:Expr}{f:Str}{pos:Pos}{ta:TE}{K:Aj}
theorem uE(hK:L2.K=K)(he:PE X e ta)(hb:attributeBase e f X.env (eval e X.env)=eval e X.env):PE X (.Attribute e f pos) (BJ K ta f):=hK▸AR he hb
theorem uF(hK:L2.K=K):GY X (.builtin "len") (fun xs H Q=> ∃p ys,xs=[.ref p]/\(B0 K H p ys\/B9 K H p ys)/\Q (.int ys.length) H):=hK▸H_
end
structure Df(x:Str)(k:Nat)(ps:List Str)(sp:Sp):Prop where
 ex: ∃(f:Addr)(fd:FuncData),C_ Fq k f fd ps sp/\mg x=some (.ref f)/\Ij K (.ref f)=true/\Binds K fd ps []
structure Pa(K:Aj)(mg:Str->Option Value)(x:Str)(st:Stmt)(ps:List Str):Prop where
 ex: ∃(f:Addr)(fd:FuncData),IC K x x st f fd/\mg x=some (.ref f)/\Binds K fd ps []
section
theorem Pa.ok{st:Stmt}(F:Pa K mg x st ps)(S:Bj N ps (Cw st))(len: ∀vs H Q E,sp vs H Q E->vs.length=ps.length)
 (Ie: ∀(base:Heap)(f:Addr)(By:Value)(A:Around)(outer:List Env)(s:Shared)(H:Hp)(vs:List V)(Q:VK)(E:XK),CU k (A.deeper (envOfC x (Cw st) s.heap.objs.size f By))->sp vs H Q E->
  ∃t,Ee (Ga Fq base N x (Cw st) f By A outer s H E).OK (L3 st) t/\t {nx:=fun _ H'=>Q .BZ H',rt:=Q} (start N vs) H):Df x (k+1) ps sp:=by
 obtain⟨f,fd,F,hm,hb⟩:=F.ex;exact⟨f,fd,F.ok S len (fun b=>Ie b f),hm,F.kp,hb⟩
theorem W4(D:Df x k ps sp)(hr:CU k X.A)(hg:Gl X x)(ha:PA X (e::es) t)
 (Co:(x==("__debug__":Str))=false:=by decide)(he:starEach (e::es) X.env=(false,eval e X.env)::starEach es X.env:=by rfl)(CB:(backTo pos (starEach es X.env)).any (·.1)=false:=by rfl):
 PE X (.Call (.Name x p) (e::es) [] pos) (DE sp [] E0 t):=by
 obtain⟨f,fd,F,hm,hk,hb⟩:=D.ex;exact c_ F hr hg hm hk hb .nil PY ha Co he CB
theorem uG(D:Df x k ps sp)(hr:CU k X.A)(hg:Gl X x)
 (Co:(x==("__debug__":Str))=false:=by decide):PE X (.Call (.Name x p) [] [] pos) (DE sp [] E0 B3):=by
 obtain⟨f,fd,F,hm,hk,hb⟩:=D.ex;exact rh F hr hg hm hk hb .nil PY Co
structure Cl(x:Str)(C:Addr)(k:Nat)(ps:List Str)(sp:Sp):Prop where
 nm:mg x=some (.ref C)
 ex: ∃(f:Addr)(fd:FuncData),Mk K C f/\C_ Fq k f fd ps sp/\Binds K fd ps []
theorem uH(D:Cl x C k ps sp)(hr:CU (k+1) X.A)(hg:Gl X x)(ha:PA X (e::es) t)
 (Co:(x==("__debug__":Str))=false:=by decide)(he:starEach (e::es) X.env=(false,eval e X.env)::starEach es X.env:=by rfl)(CB:(backTo pos (starEach es X.env)).any (·.1)=false:=by rfl):
 PE X (.Call (.Name x p) (e::es) [] pos) (PL C sp [] E0 t):=by
 obtain⟨f,fd,M,F,hb⟩:=D.ex;exact rk M F hr hg D.nm hb .nil PY ha Co he CB
end
theorem Cg{n k:Nat}(h:n<2^k):Aq (n:Int)<=k:=by
 refine(Vd).mpr ?_;simpa using h
theorem ME(x n:Nat):D0 (x:Int) (1*2^n-1)=((x%2^n:Nat):Int):=by
 have e:(1*2^n-1:Int)=((2^n-1:Nat):Int):=by
  have :=BR n;rw [Hq,Ve (by lia),Gu];rfl
 rw [e,bitAnd_pp (CI _) (CI _),Am,Am,AFk]
theorem IF(x n:Nat):(x:Int)/2^n=((x/2^n:Nat):Int):=by
 rw [Ji,Gu];rfl
theorem Ge(x n:Nat):(x:Int)*2^n=((x*2^n:Nat):Int):=by
 rw [Fl,Gu];rfl
structure IG(P:Program)(w:World)(K:Aj)(a:Addr)(AS:List (A8×V)):Prop where
 ns:(a==sysModules)=false
 ex: ∃(o:Obj)(es:Array DictEntry)(ep:Nat)(vs:List (A8×Value)),K.lookup a=some o/\o.ExactDict/\o.data=.dict es ep/\KeysOf (Di P w) es/\Pairs (Di P w) es.toList vs/\(vs.map (·.1)).Nodup/\KV AS vs
section
variable{X:Cx}{pins:List (Addr×Obj)}{σ:L2.St}{H:Hp}{s:Shared}{a:Addr}{AS:List (A8×V)}
theorem IG.at(D:IG L2.P L2.w L2.K a AS)(I:Inv X pins σ H s): ∃vs,KV AS vs/\s.heap.DictOf (Di L2.P L2.w) a vs:=by
 obtain⟨o,es,ep,vs,h1,h2,h3,h4,h5,h6,h7⟩:=D.ex;exact⟨vs,h7,o,es,ep,I.Ea a o h1,h2,h3,h4,h5,h6⟩
end
section
variable{X:Cx}{o i e f:Expr}{pos apos EC:Pos}{td ty tx:TE}{a:Addr}{AS:List (A8×V)}
def W5(a:Addr)(AS:List (A8×V))(td ty:TE):TE:=fun σ H Q=>td σ H fun x H1=>ty σ H1 fun y H2=> ∃k v,x=.ref a/\y=kV k/\Az AS k=some v/\Q v H2
theorem Nc(D:IG L2.P L2.w L2.K a AS)(ho:PE X o td)(hi:PE X i ty)(hs:dj i):PE X (.Subscript o i pos) (W5 a AS td ty):=by
 intro pins s σ H Q I h;refine sv PySem.F.slot_dict_getitem.lookup hs (As (ho pins s σ H _ I h) fun u s1 ⟨x,H1,I1,rx,q1⟩=>As (hi pins s1 σ H1 _ I1 q1) fun iv s2 ⟨y,H2,I2,ry,k,v,ex,ey,hv,q2⟩=>?_);subst ex ey;obtain rfl:u=DC a:=rx;obtain⟨vs,rel,dd⟩:=D.at I2;obtain⟨w',hw,Mp⟩:=lY (v:=v) (o:=valueAt vs k) (by rw [<-hv];exact rel.val k);exact⟨dd.typeIs,wpAny_getItem_of (NZ ry) dd.mapOf hw ⟨v,H2,I2.tok _,Mp,q2⟩⟩
def uI(a:Addr)(AS:List (A8×V))(td ty tx:TE):TE:=fun σ H Q=>td σ H fun x H1=>x=.ref a/\ty σ H1 fun y H2=>tx σ H2 fun z H3=> ∃k,y=kV k/\Q ((Az AS k).getD z) H3
theorem eR(D:IG L2.P L2.w L2.K a AS)(ho:PE X o td)(he:PE X e ty)(hf:PE X f tx)(m:M2 X o "get" apos e f EC):PE X (.Call (.Attribute o "get" apos) [e,f] [] EC) (uI a AS td ty tx):=by
 intro pins s σ H Q I h;refine wpAny_Call_method m.base m.ma m.line AFb Va AFc (As (ho pins s σ H _ I h) fun u s1 ⟨x,H1,I1,rx,ex,q1⟩=>?_);subst ex;obtain rfl:u=DC a:=rx;obtain⟨vs1,_,mq⟩:=D.at I1;refine⟨mq.typeIs,fun b q=>?_,?_⟩
 ·cases q;obtain⟨ob,_,_,h1,h2,_⟩:=mq;exact⟨ob,h1,h2.2.1⟩
 rw [m.trees];refine ag rfl (o6 (VR (As (he pins s1 σ H1 _ I1 q1) fun iv s2 ⟨y,H2,I2,ry,q2⟩=>
  VR (As (hf pins s2 σ H2 _ I2 q2) fun fv s3 ⟨z,H3,I3,rz,k,ey,q3⟩=>ot ?_))))
 subst ey;obtain⟨vs,rel,dd⟩:=D.at I3;exact pE Va dd.typeIs pH (pI _ _ _) (AFa (Di L2.P L2.w) a (NZ ry) D.ns fv) ⟨_,dd.mapOf,⟨_,H3,I3.tok _,(rel.val k).getD rz,q3⟩⟩
end
section
variable{X:Cx}{x:Str}{e:Expr}{es:List Expr}{p pos:Pos}{t:TA}{i:Nat}
def uJ(i:Nat)(sps:Addr->Sp->Prop)(E:XK)(t:TA):TE:=fun σ H Q=> ∃f sp,σ[i]? =some (some (.ref f))/\sps f sp/\t σ H fun vs H1=>sp vs H1 Q E
theorem W6(hN:X.N[i]? =some x)(hv:Kn X.env.scope x)
 (hF: ∀f sp,sps f sp-> ∃k fd ps,C_ CX k f fd ps sp/\CU k X.A/\Ij L2.K (.ref f)=true/\Binds L2.K fd ps [])(hx:G2 CX X E)
 (ha:PA X (e::es) t)(Co:(x==("__debug__":Str))=false:=by decide)(Fx:(x==("__classdict__":Str))=false:=by decide)
 (he:starEach (e::es) X.env=(false,eval e X.env)::starEach es X.env:=by rfl)(CB:(backTo pos (starEach es X.env)).any (·.1)=false:=by rfl):
 PE X (.Call (.Name x p) (e::es) [] pos) (uJ i sps E t):=by
 intro pins s σ H Q I h;obtain⟨f,sp,hs,hq,h⟩:=h;obtain⟨k,fd,ps,F,hr,hk,hb⟩:=hF f sp hq;have AEy:wpAny (model L2.P L2.w) X.A (eval (.Name x p) X.env) (EP X pins σ fun v H'=>v=.ref f/\H'=H) X.xe s:=cQ (X:=X) (pos:=p) hN hv Co Fx pins s σ H _ I ⟨_,hs,rfl,rfl⟩;refine Oo (As AEy fun u s1 ⟨v,H1,I1,rv,ev,eH⟩=>?_);subst ev eH;obtain rfl:u=DC f:=rv;refine aY (h₀:=X.base) I.ok.mod.kin hk (As (ha pos pins s1 σ _ _ I1 h) fun us s2 ⟨vs,H2,I2,r,q⟩=>⟨I2.Ea,?_⟩) he CB;exact R1 (dvs:=[]) F hr hb .nil hx I2 r (by rw [VS];exact q)
end
structure Pb(K:Aj)(C:Addr)(B HX Ky:String)(HY:List Value):Prop where
 has:pP K C HY HX=true
 facts:ExcBaseFacts B HX Ky HY
theorem W7{K:Aj}{mg:Str->Option Value}(X:K.In h)(hm:mg x=some (.ref C))(q:pP K C HY HX=true):OwnCls x C HY HX mg h:=by
 refine⟨hm,SX fun ng=>?_⟩;unfold pP at q;cases look:M0 C K with
 |none=>
  rw [look]at q;exact E9 q
 |some o=>
  rw [look]at q;obtain⟨v,d,t,⟨l⟩⟩:=o;cases v with
  |type s=>
   by_cases hs:s="type"
   ·subst hs;cases t with
    |cls c0=>
     obtain⟨z1,z2,tm,z4,z5,z6,z7,z8,z9,z10,z11⟩:=c0;cases tm with
     |cons v tl=>
      cases v with
      |ref C'=>
       rcases l with _|⟨a0,_|⟨a1,_|⟨a2,_|⟨a3,_|⟨a4,l⟩⟩⟩⟩⟩
       iterate 5 exact E9 q
       cases a4 with
       |some v=>
        cases v with
        |builtin n=>
         rcases l with _|⟨a5,_|⟨a6,l⟩⟩
         ·exact E9 q
         ·replace q:(_&&_)=true:=q
          simp only [BK,GP,pQ]at q;obtain⟨⟨⟨⟨⟨e1,e2⟩,e3⟩,e4⟩,e5⟩,e6⟩:=q;subst e1 e2 e3;exact ng ⟨tl,_,_,_,_,_,_,_,_,_,_,_,_,_,_,_,_,X _ _ look,.of_isNs (PySem.W.isNs_of_in X e5),PySem.W.nsMap_none_of_in X e5 e6,PySem.W.tail_of_in X e4⟩
         ·exact E9 q
        |_=>exact E9 q
       |_=>exact E9 q
      |_=>exact E9 q
     |_=>exact E9 q
    |_=>exact E9 q
   ·delta PySem.W.excIn.match_6 at q;exact E9 ((dif_neg hs).symm.trans q)
  |_=>exact E9 q
theorem SW{os:OsState}{mg:Str->Option Value}(O:OwnCls x C HY HX mg h)(hb:HY.contains (.type "BaseException")=true)(he:h.get? e=some oe)(hc:oe.cls=.ref C)(q:Q true ⟨h,g,d,t,os⟩):wpAny M A (excMatches (.ref e) (.ref C)) Q E ⟨h,g,d,t,os⟩:=by
 obtain⟨tl,Nn,nm,q',bs,hdct,sn,sub,ab,col,dd,k0,k1,k2,k3,k5,mN,hC,hN,ZX,TL⟩:=O.obj;exact wpAny_excMatches_sub_self hC he hc (TL.hasType hb) q
structure Kz(P:Program)(w:World)(l:List Env)(H:Hp)(h B:Heap)(H':Hp)(h':Heap):Prop where
 st:B.StaysIn h'
 Af:Cr P w H' B
 keep: ∀b o,h.get? b=some o->H b=none->b∉DO l->B.get? b=some o
 there: ∀b o,h.get? b=some o->b∉DO l-> ∃o',B.get? b=some o'
 slot: ∀b o,h.get? b=some o->b∈DO l-> ∃sl,h'.get? b=some {o with slots:=sl}
 free: ∀b o,h.get? b=some o->H b=none->H' b=none
 Gq: ∀b xs,H b=some (.tup xs)->H' b=some (.tup xs)
 GF: ∀b o u,H b=some (.EZ o u)->H' b=some (.EZ o u)
 Gr: ∀b ps,H b=some (.KO ps)-> ∃more,H' b=some (.KO (ps++more))
section
variable{P:Program}{w:World}{l:List Env}{H H':Hp}{h B h' h2:Heap}
theorem Kz.un(x:Kz P w l H h B H' h'):Un (DO l) [] H H' h h' where
 keep:=fun b o e n hb _=>x.st b o (x.keep b o e n hb)
 slot:=fun b o e _ hb _=>x.slot b o e hb
 free:=fun b o e n _=>x.free b o e n
 there:=fun b o e _=>by
  by_cases hb:b∈DO l
  ·obtain⟨sl,q⟩:=x.slot b o e hb;exact⟨_,q⟩
  ·obtain⟨o',q⟩:=x.there b o e hb;exact⟨o',x.st b o' q⟩
 Gq:=x.Gq
 GF:=x.GF
 Gr:=x.Gr
theorem Kz.ok(x:Kz P w l H h B H' h'):Cr P w H' h':=x.Af.kept x.st
theorem Kz.more(x:Kz P w l H h B H' h')(st:B.StaysIn h2)(up:h'.UpToSlots h2)(fr: ∀b∈DO l,∃o,h'.get? b=some o/\ ∀vs,o.data≠ .fields vs):Kz P w l H h B H' h2:=
 ⟨st,x.Af,x.keep,x.there,fun b o e hb=>by
  obtain⟨sl,q⟩:=x.slot b o e hb;obtain⟨o',q',nf⟩:=fr b hb;rw [q]at q';cases q';obtain⟨U0,q2⟩:=up b _ q nf;exact⟨U0,q2⟩,x.free,x.Gq,x.GF,x.Gr⟩
end
def FL(P:Program)(w:World):G1:=fun outer H s E e s'=> ∃a C a0 B H',e=.ref a/\s'.os=s.os/\AllBare s'.gens/\pT B outer a (.ref C) a0 s'.heap/\Kz P w outer H s.heap B H' s'.heap/\E (.ref C) none H'
theorem SK(x:pT B l a c a0 h): ∀b∈DO l,∃o,h.get? b=some o/\ ∀vs,o.data≠ .fields vs:=fun b hb=>(x.2.2.1.mem hb).2
section
variable{X:Cx}{pins:List (Addr×Obj)}{σ:L2.St}{H H':Hp}{s:Shared}{B h1 h2:Heap}
theorem Kz.out(I:Inv X pins σ H s)(El:X.stack=X.env::X.outer)(hf:X.env.frame=some X.env.locals)(hex:X.ex=[])(x:Kz L2.P L2.w X.stack H s.heap B H' h1)(st:B.StaysIn h2)(up:h1.UpToSlots h2)
 (fr: ∀b∈DO X.stack,∃o,h1.get? b=some o/\ ∀vs,o.data≠ .fields vs):Kz L2.P L2.w X.outer X.H_0 X.EA.heap B H' h2:=by
 have y:=x.more st up fr;have OT: ∀b:Addr,b∉X.ex:=fun b z=>by rw [hex]at z;exact absurd z (by simp)
 have sub: ∀b,b∈DO X.outer->b∈DO X.stack:=fun b hb=>by
  rw [El];unfold DO;rw [RE,hf];exact Dn _ hb
 have old: ∀b o,X.EA.heap.get? b=some o->b∉DO X.outer->b∉DO X.stack:=fun b o e hb z=>by
  rcases DL.mp (I.Ui b z)with q|q
  ·exact absurd (Bs (B6 e) I.ok.above) (by rw [q];exact Hk _)
  ·exact hb q
 refine⟨st,y.Af,fun b o e n hb=>y.keep b o (I.base.keep b o e n hb (OT b)) (I.base.free b o e n (OT b)) (old b o e hb),fun b o e hb=>?_,fun b o e hb=>?_,fun b o e n=>?_,
  fun b xs e=>y.Gq b xs (I.base.Gq b xs e),fun b o u e=>y.GF b o u (I.base.GF b o u e),fun b ps e=>?_⟩
 ·obtain⟨o',e'⟩:=I.base.there b o e (OT b);exact y.there b o' e' (old b o e hb)
 ·obtain⟨sl,e'⟩:=I.base.slot b o e (I.ok.IZ b hb) hb (OT b);obtain⟨U0,e2⟩:=y.slot b _ e' (sub b hb);exact⟨U0,e2⟩
 ·obtain⟨o',e'⟩:=I.base.there b o e (OT b);exact y.free b o' e' (I.base.free b o e n (OT b))
 ·obtain⟨m1,e1⟩:=I.base.Gr b ps e;obtain⟨m2,e2⟩:=y.Gr b _ e1;exact⟨m1++m2,by rw [e2,AFI]⟩
theorem AEV(I:Inv X pins σ H s)(k: ∀b o,s.heap.get? b=some o->h1.get? b=some o):Kz L2.P L2.w X.stack H s.heap (oU s.heap (DO X.stack)) H h1:=by
 refine⟨fun b o e=>k b o (oV _ e),fun b u e=>?_,fun b o e _ hb=>aU _ e hb,fun b o e hb=>⟨o,aU _ e hb⟩,fun b o e _=>⟨o.slots,k b o e⟩,fun _ _ _ n=>n,fun _ _ e=>e,fun _ _ _ e=>e,fun b ps e=>⟨#[],by rw [e];simp⟩⟩;refine(I.Af b u e).LP (fun c v hc q=>aU _ q fun z=>?_) (fun _ q=>q) fun _ _ q=>q
 have n:=I.ZG c z;rcases hc with q2|q2
 ·rw [q2,e]at n;cases n
 ·rw [q2]at n;cases n
end
section
variable{base:Heap}{N:List Str}{qual:Str}{scope:Scope}{f:Addr}{By:Value}{A:Around}{outer:List Env}{s0:Shared}{H0:Hp}{E:XK}
theorem MF:G2 (FL P w) (Ga (FL P w) base N qual scope f By A outer s0 H0 E) E:=by
 rintro pins σ H s e s' I ⟨a,C,a0,B,H',rfl,os,bare,fl,fb,hE⟩;refine wpAny_leaves_onW (base:=B) I.ok.frames rfl fl fun h2 mr up=>⟨a,C,a0,B,H',rfl,os.trans I.os,bare,mr,?_,hE⟩
 exact fb.out I rfl rfl rfl mr.1 up (SK fl)
theorem W8(T:Pb K C Bn HX Ky HY)(hm:mg x=some (.ref C))(hg:Gl (Ga (FL P w) base N qual scope f By A outer s0 H0 E) x)
 (Co:(x==("__debug__":Str))=false:=by decide):
 PS (Ga (FL P w) base N qual scope f By A outer s0 H0 E) (.Raise (some (.Call (.Name x np) [] [] EC)) none pos) (fun _ _ H=>E (.ref C) none H):=by
 intro pins s σ H D I h;obtain⟨tl,Nn,nm,q,bs,hdct,sn,sub,ab,col,dd,k0,k1,k2,k3,k5,mN,hC,hN,ZX,TL⟩:=(W7 (x:=x) I.Ea hm T.has).obj;refine wpAny_Raise_call_subT (C:=C) (nm:=nm) (q:=q) (N:=Nn) (bs:=bs) (bm:=tl) (hdct:=hdct) (sn:=sn) (sub:=sub) (ab:=ab) (col:=col) (dd:=dd) (k0:=k0) (k1:=k1) (k2:=k2) (k3:=k3) (k5:=k5)
  T.facts (mN:=mN) (TL.hasType T.facts.hasBase) (I.ok.hd rfl) rfl ZX (Ko I hg hm ⟨rfl,evalArgs_empty ⟨rfl,DM _,hC,hN,TL,fun h1 e hx=>?_⟩⟩ Co)
 refine wpAny_leaves_madeW (base:=oU s.heap (DO (Ga (FL P w) base N qual scope f By A outer s0 H0 E).stack)) I.ok.frames rfl (fun b o q=>oV _ q)
  (PySem.W.funFrames_hide I.stack fun env he a hf=>oZ.mpr ⟨env,he,hf⟩) hx fun h2 t fl tup ht up=>⟨e,C,.ref t,_,H,rfl,I.os,I.bare,fl,?_,h⟩
 refine(AEV I hx.keeps).out I rfl rfl rfl fl.1 up fun b hb=>?_
 obtain⟨_,o,ho,nf⟩:=I.stack.mem hb;exact⟨o,hx.keeps b o ho,nf⟩
end
section
variable{X:Cx}
theorem uK(I:Inv X pins σ H s)(xe:Value->Shared->Prop):Inv {X with pn:=X.pn++pins,xe:=xe} [] σ H s:=
 ⟨⟨I.ok.mod,I.ok.kind,I.ok.glob,I.ok.blt,I.ok.above,I.ok.inj,I.ok.has,I.ok.LR,I.ok.hd,I.ok.frames,I.ok.Mj,I.ok.Ml,I.ok.bs,I.ok.HB,I.ok.LS,I.ok.LU,I.ok.GG,I.ok.IZ⟩,
  I.os,I.bare,I.base,I.loc,I.cell,I.free,I.GH,fun p hp=>I.pin p (by simpa using hp),I.Af,I.len⟩
theorem Pd(I:Inv {X with pn:=X.pn++pins,xe:=xe} mv σ H s):Inv X pins σ H s:=
 ⟨⟨I.ok.mod,I.ok.kind,I.ok.glob,I.ok.blt,I.ok.above,I.ok.inj,I.ok.has,I.ok.LR,I.ok.hd,I.ok.frames,I.ok.Mj,I.ok.Ml,I.ok.bs,I.ok.HB,I.ok.LS,I.ok.LU,I.ok.GG,I.ok.IZ⟩,
  I.os,I.bare,I.base,I.loc,I.cell,I.free,I.GH,fun p hp=>I.pin p (aV _ hp),I.Af,I.len⟩
theorem W9(I:Inv X pins σ H s)(A:Around)(hA:A.frames=X.A.frames)(xe:Value->Shared->Prop):Inv {X with A:=A,calm:=false,pn:=X.pn++pins,xe:=xe} [] σ H s:=
 ⟨⟨I.ok.mod,I.ok.kind,I.ok.glob,I.ok.blt,I.ok.above,I.ok.inj,I.ok.has,I.ok.LR,fun z=>E9 z,hA.trans I.ok.frames,I.ok.Mj,I.ok.Ml,I.ok.bs,I.ok.HB,I.ok.LS,I.ok.LU,I.ok.GG,I.ok.IZ⟩,
  I.os,I.bare,I.base,I.loc,I.cell,I.free,I.GH,fun p hp=>I.pin p (by simpa using hp),I.Af,I.len⟩
theorem K0(ok:X.Ok)(I:Inv {X with A:=A,calm:=false,pn:=X.pn++pins,xe:=xe} [] σ H s):Inv X pins σ H s:=
 ⟨ok,I.os,I.bare,I.base,I.loc,I.cell,I.free,I.GH,fun p hp=>I.pin p (by simpa using hp),I.Af,I.len⟩
end
section
variable{prog:Program}{w:World}{A:Around}{E:Value->Shared->Prop}{s:Shared}
theorem uL(hit:s.heap.IsTupleIter it t i)(ht:s.heap.IsTuple t items)(hx:items[i]? =some x)
 (hQ: ∀h',h'.IsTupleIter it t (i+1)->VJ it s.heap h'->Q x {s with heap:=h'}):wpAny (model prog w) A (Vf (.ref it)) Q E s:=by
 have⟨o,ho,hc,hd⟩:=hit;have⟨ol,hol,_,nl,hdl⟩:=ht;unfold Vf;refine A4 (pU (name:=RP "__next__") hit.typeIs AFl (pV AFl hit.typeIs F.entry_tuple_iterator_next ?_ (F.args_tuple_iterator_next_1 _)));refine(A4 (Kc ho hd (x:=.ref t) rfl ?_):wpAny _ _ (field (.ref it) 0>>=_) _ _ s);show wpAny _ _ (if(DC t==RB)=true then _ else _) _ _ s;rw [AD (fun z:(DC t==RB)=true=>absurd z F0)];refine(A4 (Kc ho hd (x:=.int i 0) rfl ?_):wpAny _ _ (field (.ref it) 1>>=_) _ _ s);refine(A4 (RQ hol hdl ?_):wpAny _ _ (seqItems? (.ref t) >>=_) _ _ s);simp only [Am,hx];refine A4 (wpAny_setField ho hd (by simp) (DD ⟨x,rfl,DD (hQ _ ⟨_,AFU _ ho (Obj.isFreed_of_fields (AFm hd _)),(Obj.cls_mapFields ..).trans hc,?_⟩ (Heap.SameBut.update ..))⟩));rw [AFm hd];simp [rawInt]
theorem uM{z TI TO i1 i2 l1 l2:Addr}{k:Nat}{xs ys:Array Value}{x y a b:Value}{Q:Value->Shared->Prop}(D:ZipApart z TI TO i1 i2 l1 l2)(hz:IsZip s.heap z TI TO .none)(C5:IsPair s.heap TI (.ref i1) (.ref i2))(DH:IsPair s.heap TO a b)
 (h1:s.heap.IsListIter i1 l1 k)(h2:s.heap.IsTupleIter i2 l2 k)(Fg:s.heap.IsList l1 xs)(Bp:s.heap.IsTuple l2 ys)(hx:xs[k]? =some x)(hy:ys[k]? =some y)
 (hQ: ∀h',IsZip h' z TI TO (rawInt s.heap.objs.size)->IsPair h' TO x y->h'.IsListIter i1 l1 (k+1)->h'.IsTupleIter i2 l2 (k+1)->IsPair h' s.heap.objs.size x y->h'.objs.size=s.heap.objs.size+1->(∀c o,c≠z->c≠TO->c≠i1->c≠i2->s.heap.get? c=some o->h'.get? c=some o)->Q (.ref s.heap.objs.size) {s with heap:=h'}):
 wpAny (model prog w) A (Builtin.«zip.__next__» ⟨[.ref z],[]⟩) (fun fin s'=> ∃v,fin=.done (.ret v)/\Q v s') E s:=by
 refine(A4 (Kc hz rfl (x:=.bool false) rfl ?_):wpAny _ _ (field (.ref z) 2>>=_) _ _ _);refine(A4 (Kc hz rfl (x:=.ref TI) rfl ?_):wpAny _ _ (field (.ref z) 3>>=_) _ _ _);refine A4 (RQ C5 rfl ?_);refine(A4 ?_:wpAny _ _ (bI (.ref z) >>=_) _ _ _);unfold bI;refine A4 (Kc hz rfl (x:=.none) rfl (DD ?_));simp only [E8];refine A4 (wpAny_rule ?_);refine A4 (Kc hz rfl (x:=.ref TO) rfl ?_);refine A4 (Vg hz (by simp) fun hA zA sA=>?_)
 replace zA:IsZip hA z TI TO .ellipsis:=zA
 refine A4 ?_;simp only [AFn,List.zipIdx_nil,o9,VZ];refine A4 (A4 (pX ?_));show wpAny _ _ (Vf (.ref i1) >>=_) _ _ _;refine A4 (wpAny_nextOf_list_item (h1.extBut sA.extBut D.i1z) (Fg.extBut sA.extBut D.l1z) hx fun hB iB sB=>DD ?_);have tB:IsPair hB TO a b:=sB.extBut _ _ D.TOi1 (sA.extBut _ _ D.TOz DH);refine A4 (RQ tB rfl ?_);refine A4 (wpAny_updateSeq_pair tB fun hC tC sC=>?_)
 replace tC:IsPair hC TO x b:=tC
 refine A4 (wpAny_letGo (DD ?_));refine A4 (A4 (pX ?_));show wpAny _ _ (Vf (.ref i2) >>=_) _ _ _;refine A4 (uL (items:=ys) (((h2.extBut sA.extBut D.i2z).extBut sB.extBut D.i12.symm).extBut sC.extBut D.TOi2.symm) (((Bp.extBut sA.extBut D.l2z).extBut sB.extBut D.l2i1).extBut sC.extBut D.l2TO) hy fun hD iD sD=>DD ?_);have tD:IsPair hD TO x b:=sD.extBut _ _ D.TOi2 tC;refine A4 (RQ tD rfl ?_);refine A4 (wpAny_updateSeq_pair tD fun hF tF sF=>?_)
 replace tF:IsPair hF TO x y:=tF
 refine A4 (wpAny_letGo (DD (DD ?_)));refine A4 (RQ tF rfl ?_);refine A4 (wpAny_newTuple ?_);have size:hF.objs.size=s.heap.objs.size:=by rw [sF.1,sD.1,sC.1,sB.1,sA.1]
 have zF:IsZip hF z TI TO .ellipsis:=sF.extBut _ _ D.TOz.symm (sD.extBut _ _ D.i2z.symm (sC.extBut _ _ D.TOz.symm (sB.extBut _ _ D.i1z.symm zA)));have kF: ∀c o,c≠z->c≠TO->c≠i1->c≠i2->s.heap.get? c=some o->hF.get? c=some o:=fun c o c1 c2 c3 c4 e=>sF.extBut _ _ c2 (sD.extBut _ _ c4 (sC.extBut _ _ c2 (sB.extBut _ _ c3 (sA.extBut _ _ c1 e))))
 have iF:hF.IsListIter i1 l1 (k+1):=((iB.extBut sC.extBut D.TOi1.symm).extBut sD.extBut D.i12).extBut sF.extBut D.TOi1.symm;have jF:hF.IsTupleIter i2 l2 (k+1):=iD.extBut sF.extBut D.TOi2.symm;have mw:z<hF.objs.size:=B6 zF;refine(A4 ?_:wpAny _ _ (AFo (.ref z) (.ref hF.objs.size) >>=_) _ _ _);unfold AFo;have zG:IsZip (hF.push {cls:=.type "tuple",data:=.seq #[x,y]}) z TI TO .ellipsis:=Ca _ zF;refine A4 (Vg zG (by simp) fun hJ zJ sJ=>?_)
 replace zJ:IsZip hJ z TI TO (rawInt hF.objs.size):=zJ
 refine Vg zJ (by simp) fun hL zL sL=>?_
 replace zL:IsZip hL z TI TO (rawInt hF.objs.size):=zL
 have up: ∀c o,c≠z->hF.get? c=some o->hL.get? c=some o:=fun c o c1 e=>sL.extBut _ _ c1 (sJ.extBut _ _ c1 (Ca _ e))
 have tL:IsPair hL hF.objs.size x y:=sL.extBut _ _ (Ol mw) (sJ.extBut _ _ (Ol mw) (Er _ rfl));have mx:hL.objs.size=hF.objs.size+1:=by rw [sL.1,sJ.1,F1]
 rw [size]at zL tL mx;refine DD ⟨_,rfl,(?_:Q (.ref hF.objs.size) _)⟩;rw [size];exact hQ hL zL (up _ _ D.TOz tF) (iF.at fun o e=>up _ o D.i1z e) (jF.at fun o e=>up _ o D.i2z e) tL mx fun c o c1 c2 c3 c4 e=>up c o c1 (kF c o c1 c2 c3 c4 e)
theorem uN{z TI TO i1 i2 l1 l2:Addr}{k:Nat}{xs ys:Array Value}{x y a b:Value}{Q:Option Value->Shared->Prop}(D:ZipApart z TI TO i1 i2 l1 l2)(hz:IsZip s.heap z TI TO .none)(C5:IsPair s.heap TI (.ref i1) (.ref i2))(DH:IsPair s.heap TO a b)
 (h1:s.heap.IsListIter i1 l1 k)(h2:s.heap.IsTupleIter i2 l2 k)(Fg:s.heap.IsList l1 xs)(Bp:s.heap.IsTuple l2 ys)(hx:xs[k]? =some x)(hy:ys[k]? =some y)
 (hQ: ∀h',IsZip h' z TI TO (rawInt s.heap.objs.size)->IsPair h' TO x y->h'.IsListIter i1 l1 (k+1)->h'.IsTupleIter i2 l2 (k+1)->IsPair h' s.heap.objs.size x y->h'.objs.size=s.heap.objs.size+1->(∀c o,c≠z->c≠TO->c≠i1->c≠i2->s.heap.get? c=some o->h'.get? c=some o)->Q (some (.ref s.heap.objs.size)) {s with heap:=h'}):
 wpAny (model prog w) A (pyNext (.ref z)) Q E s:=by
 have ty:s.TypeIs (.ref z) "zip":=⟨_,hz,rfl⟩;unfold pyNext;exact A4 (wpAny_attempt (pU (name:=RP "__next__") ty bJ (pV bJ ty F.entry_zip_next (uM D hz C5 DH h1 h2 Fg Bp hx hy fun h' a1 a2 a3 a4 a5 a6 a7=>DD (hQ h' a1 a2 a3 a4 a5 a6 a7)) (F.args_zip_next_1 _))))
theorem uO{z TI TO i1 i2 l1:Addr}{k:Nat}{xs:Array Value}{a b:Value}{Q:Fin->Shared->Prop}(hh:A.handled=none)(iz:i1≠z)(lz:l1≠z)(hz:IsZip s.heap z TI TO .none)(C5:IsPair s.heap TI (.ref i1) (.ref i2))(DH:IsPair s.heap TO a b)
 (h1:s.heap.IsListIter i1 l1 k)(Fg:s.heap.IsList l1 xs)(hx:xs[k]? =none)
 (hE: ∀h' e,(∀c o,c≠z->c≠i1->s.heap.get? c=some o->h'.get? c=some o)->(∃o,h'.get? e=some o/\o.cls=.type "StopIteration")->E (.ref e) {s with heap:=h'}):
 wpAny (model prog w) A (Builtin.«zip.__next__» ⟨[.ref z],[]⟩) Q E s:=by
 refine(A4 (Kc hz rfl (x:=.bool false) rfl ?_):wpAny _ _ (field (.ref z) 2>>=_) _ _ _);refine(A4 (Kc hz rfl (x:=.ref TI) rfl ?_):wpAny _ _ (field (.ref z) 3>>=_) _ _ _);refine A4 (RQ C5 rfl ?_);refine(A4 ?_:wpAny _ _ (bI (.ref z) >>=_) _ _ _);unfold bI;refine A4 (Kc hz rfl (x:=.none) rfl (DD ?_));simp only [E8];refine A4 (wpAny_rule ?_);refine A4 (Kc hz rfl (x:=.ref TO) rfl ?_);refine A4 (Vg hz (by simp) fun hA zA sA=>?_)
 replace zA:IsZip hA z TI TO .ellipsis:=zA
 refine A4 ?_;simp only [AFn,List.zipIdx_nil,o9,VZ];refine A4 (A4 (pX ?_));show wpAny _ _ (Vf (.ref i1) >>=_) _ _ _;refine A4 (wpAny_nextOf_list_end hh (h1.extBut sA.extBut iz) (Fg.extBut sA.extBut lz) hx fun hB e sB he=>?_);obtain⟨oe,ZY,Uv⟩:=he;have zB:IsZip hB z TI TO .ellipsis:=sB _ _ iz.symm zA;have hez:e≠z:=fun q=>by subst q;rw [zB]at ZY;cases ZY;simp at Uv
 exact Vg zB (by simp) fun hC _ sC=>hE hC e (fun c o c1 c3 q=>sC.extBut _ _ c1 (sB _ _ c3 (sA.extBut _ _ c1 q))) ⟨oe,sC.extBut _ _ hez ZY,Uv⟩
theorem uP{z TI TO i1 i2 l1:Addr}{k:Nat}{xs:Array Value}{a b:Value}{Q:Option Value->Shared->Prop}(hh:A.handled=none)(iz:i1≠z)(lz:l1≠z)(hz:IsZip s.heap z TI TO .none)(C5:IsPair s.heap TI (.ref i1) (.ref i2))(DH:IsPair s.heap TO a b)
 (h1:s.heap.IsListIter i1 l1 k)(Fg:s.heap.IsList l1 xs)(hx:xs[k]? =none)(hQ: ∀h',(∀c o,c≠z->c≠i1->s.heap.get? c=some o->h'.get? c=some o)->Q none {s with heap:=h'}):wpAny (model prog w) A (pyNext (.ref z)) Q E s:=by
 have ty:s.TypeIs (.ref z) "zip":=⟨_,hz,rfl⟩;unfold pyNext;refine A4 (wpAny_attempt (pU (name:=RP "__next__") ty bJ (pV bJ ty F.entry_zip_next (uO hh iz lz hz C5 DH h1 Fg hx fun h' e hk he=>?_) (F.args_zip_next_1 _))));obtain⟨o,ho,hc⟩:=he;exact A4 (wpAny_isInstance (T:="StopIteration") (b:=true) ⟨o,ho,hc⟩ isSubtype_stop (DD (hQ _ hk)))
end
abbrev SM(h:Heap)(l1:Addr):Heap:=h.push {cls:=.type "list_iterator",data:=.fields #[.ref l1,.int 0 0]}
abbrev SN(h:Heap)(l1 l2:Addr):Heap:=(SM h l1).push {cls:=.type "tuple_iterator",data:=.fields #[.ref l2,.int 0 0]}
abbrev SO(h:Heap)(l1 l2:Addr):Heap:=(SN h l1 l2).push {cls:=.type "tuple",data:=.seq #[.ref h.objs.size,.ref (SM h l1).objs.size]}
abbrev SQ(h:Heap)(l1 l2:Addr):Heap:=(SO h l1 l2).push {cls:=.type "tuple",data:=.seq #[.none,.none]}
abbrev Nd(h:Heap)(l1 l2:Addr):Heap:=(SQ h l1 l2).push {cls:=.type "zip",data:=.fields #[.none,.bool false,.bool false,.ref (SN h l1 l2).objs.size,.ref (SO h l1 l2).objs.size]}
theorem uQ(l1 l2:Addr)(xs ys:Array Value):Meets (Builtin.«zip.__new__» ⟨[.type "zip",.ref l1,.ref l2],[]⟩) (fun _ R s=>s.heap.IsList l1 xs/\s.heap.IsTuple l2 ys/\R (.ok (.ret (.ref (SQ s.heap l1 l2).objs.size))) {s with heap:=Nd s.heap l1 l2}):=
 .of_wp fun prog w A R s h=>by
  obtain⟨hp,g,d,tk,os⟩:=s;obtain⟨Fg,Bp,h⟩:=h;have sub:=sub_zip;have L1:Heap.IsList (pY ⟨hp,g,d,tk,os⟩) l1 xs:=Fg;have L2:Heap.IsTuple (pY ⟨hp.push {cls:=.type "list_iterator",data:=.fields #[.ref l1,.int 0 0]},g,d,tk,os⟩) l2 ys:=Heap.IsTuple.push Bp _
  wp_walk using oY L1,wpAny_pyIter_tuple L2
  exact⟨_,rfl,h⟩
section
variable{prog:Program}{w:World}{A:Around}{E:Value->Shared->Prop}{s:Shared}
theorem uR{l1 l2:Addr}{xs ys:Array Value}{Q:Value->Shared->Prop}(Fg:s.heap.IsList l1 xs)(Bp:s.heap.IsTuple l2 ys)
 (h: ∀h',IsZip h' (s.heap.objs.size+4) (s.heap.objs.size+2) (s.heap.objs.size+3) .none->IsPair h' (s.heap.objs.size+2) (.ref s.heap.objs.size) (.ref (s.heap.objs.size+1))->IsPair h' (s.heap.objs.size+3) .none .none->h'.IsListIter s.heap.objs.size l1 0->h'.IsTupleIter (s.heap.objs.size+1) l2 0->
   (∀c o,s.heap.get? c=some o->h'.get? c=some o)->Q (.ref (s.heap.objs.size+4)) {s with heap:=h'}):wpAny (model prog w) A (call (.type "zip") [.ref l1,.ref l2]) Q E s:=by
 refine callType_new F.called_zip (by decide) (F.typeCall_zip_2 _ _) (F.newCall_zip_2 _ _) (fun obj=>AFp obj _ _) F.entry_zip_new (uQ l1 l2 xs ys) ⟨Fg,Bp,?_⟩;have y1:(SM s.heap l1).objs.size=s.heap.objs.size+1:=F1 ..;have y2:(SN s.heap l1 l2).objs.size=s.heap.objs.size+2:=by rw [F1,y1]
 have y3:(SO s.heap l1 l2).objs.size=s.heap.objs.size+3:=by rw [F1,y2]
 have y4:(SQ s.heap l1 l2).objs.size=s.heap.objs.size+4:=by rw [F1,y3]
 have u5:(Nd s.heap l1 l2).get? (SQ s.heap l1 l2).objs.size=some _:=Er _ rfl;have u4:(Nd s.heap l1 l2).get? (SO s.heap l1 l2).objs.size=some _:=Ca _ (Er _ rfl);have u3:(Nd s.heap l1 l2).get? (SN s.heap l1 l2).objs.size=some _:=Ca _ (Ca _ (Er _ rfl));have u2:(Nd s.heap l1 l2).get? (SM s.heap l1).objs.size=some _:=Ca _ (Ca _ (Ca _ (Er _ rfl)));have u1:(Nd s.heap l1 l2).get? s.heap.objs.size=some _:=Ca _ (Ca _ (Ca _ (Ca _ (Er _ rfl))));show _/\_;rw [y2,y3,y4]at u5;rw [y1,y2]at u3;rw [y3]at u4;rw [y1]at u2;rw [y4];exact⟨⟨_,u5,rfl⟩,h _ u5 u3 u4 ⟨_,u1,rfl,rfl⟩ ⟨_,u2,rfl,rfl⟩ fun c o q=>Ca _ (Ca _ (Ca _ (Ca _ (Ca _ q))))⟩
end
def Pe(K:Aj)(a b:Addr):It:=
 ⟨fun i H=> ∃(xs ys:List V)(x y:V),B0 K H a xs/\B9 K H b ys/\xs[i]? =some x/\ys[i]? =some y,
  fun i H v H'=> ∃T x y,v=.ref T/\H T=none/\H'=upd H T (.tup [x,y])/\(∀xs,B0 K H a xs->xs[i]? =some x)/\ ∀ys,B9 K H b ys->ys[i]? =some y,
  fun i H=> ∃xs:List V,B0 K H a xs/\xs.length<=i⟩
theorem uS{P:Program}{w:World}{K:Aj}{HL:List Expr}{kk:Nat}{KP:Pos}{a b z TI TO i1 i2:Addr}(D:ZipApart z TI TO i1 i2 a b):
 Ju P w K (.Tuple HL kk KP) (Pe K a b) [z,TI,TO,i1,i2] z (fun i h=>IsZip h z TI TO .none/\IsPair h TI (.ref i1) (.ref i2)/\(∃x y,IsPair h TO x y)/\h.IsListIter i1 a i/\h.IsTupleIter i2 b i) where
 mem:=by simp
 obj:=fun i h st c hc=>by
  obtain⟨hz,C5,⟨x,y,DH⟩,⟨o1,e1,_,d1⟩,⟨o2,e2,_,d2⟩⟩:=st;have e':c=z\/c=TI\/c=TO\/c=i1\/c=i2:=by simpa using hc
  rcases e' with q|q|q|q|q
  ·rw [q];exact⟨_,hz,fun v q=>nomatch q⟩
  ·rw [q];exact⟨_,C5,fun v q=>nomatch q⟩
  ·rw [q];exact⟨_,DH,fun v q=>nomatch q⟩
  ·rw [q];exact⟨o1,e1,fun v q=>by rw [d1]at q;cases q⟩
  ·rw [q];exact⟨o2,e2,fun v q=>by rw [d2]at q;cases q⟩
 keep:=fun i h h' st k=>by
  obtain⟨hz,C5,⟨x,y,DH⟩,h1,h2⟩:=st;exact⟨k z (by simp) _ hz,k TI (by simp) _ C5,⟨x,y,k TO (by simp) _ DH⟩,h1.at fun o q=>k i1 (by simp) o q,h2.at fun o q=>k i2 (by simp) o q⟩
 item:=by
  intro X hP hw hK hc i pins s σ H E I hf st hg;subst hP hw hK;obtain⟨hz,C5,⟨x0,y0,DH⟩,h1,h2⟩:=st;obtain⟨xs,ys,x,y,HC,Ig,hx,hy⟩:=hg;obtain⟨AV,rv,p,_⟩:=I.list HC;obtain⟨GJ,Mq,p2,_⟩:=I.tuple Ig;obtain⟨u,hu,ru⟩:=rv.get hx;obtain⟨u2,ZT,ZU⟩:=Mq.get hy;have Qn:z<s.heap.objs.size:=B6 hz;refine uN D hz C5 DH h1 h2 p.isList (show s.heap.IsTuple b GJ.toArray from p2) (x:=u) (y:=u2) (by simpa using hu) (by simpa using ZT) fun h' z' ZV GK Fy hT hsz hk=>?_
  refine⟨_,rfl,AFe (s:={s with heap:=h'}) z' fun LZ ZW sb=>?_⟩;have OR:LZ.get? s.heap.objs.size=some {cls:=.type "tuple",data:=.seq #[u,u2]}:=(sb.2 _ (Ol Qn)).trans hT;have new:Du L2.P L2.w (upd H s.heap.objs.size (.tup [x,y])) LZ s.heap.objs.size (.tup [x,y]):=
   ⟨by show 2<=sizeLine;decide,[u,u2],.cons ru (.cons ZU .nil),⟨_,OR,rfl,_,rfl⟩⟩
  have I1:Inv X pins σ (upd H s.heap.objs.size (.tup [x,y])) {s with heap:=LZ}:=
   I.mf (t':=s.toks) (ch:=[z,TI,TO,i1,i2]) (fun c o hb q=>(sb.2 c (fun q'=>hb (by simp [q']))).trans (hk c o (fun q'=>hb (by simp [q'])) (fun q'=>hb (by simp [q'])) (fun q'=>hb (by simp [q'])) (fun q'=>hb (by simp [q'])) q)) hf (BO _) new
  refine⟨.ref s.heap.objs.size,_,I1,rfl,⟨_,x,y,rfl,I.Af.fresh (BO _),rfl,fun l hl=>by rw [I.Um hl HC];exact hx,fun l hl=>by rw [I.mI hl Ig];exact hy⟩,⟨ZW,?_,⟨u,u2,?_⟩,?_,?_⟩,fun c KQ=>?_⟩
  ·exact(sb.2 _ D.TIz).trans (hk _ _ D.TIz D.TITO D.TIi1 D.TIi2 C5)
  ·exact(sb.2 _ D.TOz).trans ZV
  ·exact GK.at fun o q=>(sb.2 _ D.i1z).trans q
  ·exact Fy.at fun o q=>(sb.2 _ D.i2z).trans q
  ·have Bk:c<s.heap.objs.size:=by
    have e':c=z\/c=TI\/c=TO\/c=i1\/c=i2:=by simpa using KQ
    rcases e' with q|q|q|q|q
    ·rw [q];exact Qn
    ·rw [q];exact B6 C5
    ·rw [q];exact B6 DH
    ·rw [q];obtain⟨_,e1,_⟩:=h1;exact B6 e1
    ·rw [q];obtain⟨_,e2,_⟩:=h2;exact B6 e2
   rw [BC (Fh Bk)];exact(hf c KQ).1
 done:=by
  intro X hP hw hK hc i pins s σ H E I hf st hg;subst hP hw hK;obtain⟨hz,C5,⟨x0,y0,DH⟩,h1,h2⟩:=st;obtain⟨xs,HC,mh⟩:=hg;obtain⟨AV,rv,p,_⟩:=I.list HC;have l1:=rv.length;have he:AV.toArray[i]? =none:=by simp;lia
  exact uP (I.ok.hd hc) D.i1z D.l1z hz C5 DH h1 p.isList he fun h' hk=>⟨rfl,I.me (t':=s.toks) (ch:=[z,TI,TO,i1,i2]) (fun c o hb q=>hk c o (fun q'=>hb (by simp [q'])) (fun q'=>hb (by simp [q'])) q) hf⟩
 self:=fun A i s Q E st h=>a_ st.1 h
def uT(K:Aj)(ta:TA):TI:=fun σ H R=>ta σ H fun vs H1=> ∃a b xs ys,vs=[.ref a,.ref b]/\B0 K H1 a xs/\B9 K H1 b ys/\R (Pe K a b) H1
theorem uU(p:IsTup h a xs):a<h.objs.size:=by
 obtain⟨o,e,_⟩:=p;exact B6 e
theorem eS{X:Cx}{e e2:Expr}{ta:TA}{p pos KP:Pos}{HL:List Expr}{kk:Nat}(hg:Gl X "zip")(hm:L2.mg "zip"=none)(ha:PA X [e,e2] ta)
 (hs:starEach [e,e2] X.env=(false,eval e X.env)::starEach [e2] X.env:=by rfl)(CB:(backTo pos (starEach [e2] X.env)).any (·.1)=false:=by rfl):
 PI X (.Tuple HL kk KP) (.Call (.Name "zip" p) [e,e2] [] pos) (uT L2.K ta):=by
 intro pins s σ H R I h;refine Call_ (O5 I hg hm dv (aa (As (ha pos pins s σ H _ I h) fun us s1 ⟨vs,H1,I1,r1,q1⟩=>?_) hs CB));obtain⟨a,b,xs,ys,ex,HC,Ig,q⟩:=q1;subst ex;cases r1 with
 |cons r rr=>
  cases rr with
  |cons r' rr=>
   cases rr;cases r;cases r';obtain⟨AV,rv,p1,_⟩:=I1.list HC;obtain⟨GJ,Mq,p2,_⟩:=I1.tuple Ig;have la:a<s1.heap.objs.size:=p1.lt;have lb:b<s1.heap.objs.size:=uU p2;refine uR p1.isList (show s1.heap.IsTuple b GJ.toArray from p2) fun h' hz C5 DH h1 h2 hk=>a_ hz ?_
   have I2:Inv X pins σ H1 {s1 with heap:=h'}:=I1.kept (t':=s1.toks) hk;refine⟨s1.heap.objs.size+4,[s1.heap.objs.size+4,s1.heap.objs.size+2,s1.heap.objs.size+3,s1.heap.objs.size,s1.heap.objs.size+1],_,_,H1,rfl,I2,uS (AFf s1.heap.objs.size a b la lb),⟨hz,C5,⟨_,_,DH⟩,h1,h2⟩,fun c KQ=>?_,q⟩;have e':c=s1.heap.objs.size+4\/c=s1.heap.objs.size+2\/c=s1.heap.objs.size+3\/c=s1.heap.objs.size\/c=s1.heap.objs.size+1:=by simpa using KQ
   have hle:s1.heap.objs.size<=c:=by
    rcases e' with z|z|z|z|z
    ·rw [z];exact Ll _ _
    ·rw [z];exact Ll _ _
    ·rw [z];exact Ll _ _
    ·rw [z];exact BO _
    ·rw [z];exact Ll _ _
   exact I1.OL hle (I1.Af.fresh hle)
section
theorem ll{st:Stmt}(F:IC K x qual st f fd)(S:Bj N ps (Cw st))(len: ∀vs H Q E,sp vs H Q E->vs.length=ps.length)
 (Ie: ∀(base:Heap)(By:Value)(A:Around)(outer:List Env)(s:Shared)(H:Hp)(vs:List V)(Q:VK)(E:XK),CU k (A.deeper (envOfC qual (Cw st) s.heap.objs.size f By))->sp vs H Q E->
  ∃t,Ee (Ga (FL P w) base N qual (Cw st) f By A outer s H E) (L3 st) t/\t {nx:=fun _ H'=>Q .BZ H',rt:=Q} (start N vs) H):C_ (FL P w) (k+1) f fd ps sp:=by
 obtain⟨oc,od,kV,doc,pm,an,By,ct,Qi,rfl,lk,Fx⟩:=F.ex;exact dG lk Fx S len fun b A outer s H vs Q E hr FI=>Ie b By A outer s H vs Q E hr FI
theorem C_.calm(F:C_ (FL P w) k f fd ps sp):C_ Fq k f fd ps (fun vs H Q _=>sp vs H Q E0):=by
 refine⟨fun vs H Q E q=>F.len vs H Q E0 q,fun b A outer s H args us vs Q E hr he hb hv hs=>RI (F.run b A outer s H args us vs Q E0 hr he hb hv hs) fun r s' hq=>?_⟩;cases r with
 |error e=>
  obtain⟨a,C,a0,B,H',_,_,_,_,_,z⟩:=hq;exact Dp z
 |ok fl=>
  cases fl with
  |ret u=>exact hq
  |next=>exact Dp hq
  |brk=>exact Dp hq
  |cont=>exact Dp hq
structure IH(x:Str)(k:Nat)(ps:List Str)(sp:Sp):Prop where
 ex: ∃(f:Addr)(fd:FuncData),C_ (FL P w) k f fd ps sp/\mg x=some (.ref f)/\Ij K (.ref f)=true/\Binds K fd ps []
theorem IH.df(D:IH x k ps sp):Df x k ps (fun vs H Q _=>sp vs H Q E0):=by
 obtain⟨f,fd,F,hm,hk,hb⟩:=D.ex;exact⟨f,fd,C_.calm F,hm,hk,hb⟩
theorem OC{st:Stmt}(F:Pa K mg x st ps)(S:Bj N ps (Cw st))(len: ∀vs H Q E,sp vs H Q E->vs.length=ps.length)
 (Ie: ∀(base:Heap)(f:Addr)(By:Value)(A:Around)(outer:List Env)(s:Shared)(H:Hp)(vs:List V)(Q:VK)(E:XK),CU k (A.deeper (envOfC x (Cw st) s.heap.objs.size f By))->sp vs H Q E->
  ∃t,Ee (Ga (FL P w) base N x (Cw st) f By A outer s H E) (L3 st) t/\t {nx:=fun _ H'=>Q .BZ H',rt:=Q} (start N vs) H):IH x (k+1) ps sp:=by
 obtain⟨f,fd,F,hm,hb⟩:=F.ex;exact⟨f,fd,ll F S len (fun b=>Ie b f),hm,F.kp,hb⟩
end
theorem eT(D:IH x k ps sp)(hx:G2 (FL L2.P L2.w) X E)(hr:CU k X.A)(hg:Gl X x)(ha:PA X (e::es) t)
 (Co:(x==("__debug__":Str))=false:=by decide)(he:starEach (e::es) X.env=(false,eval e X.env)::starEach es X.env:=by rfl)(CB:(backTo pos (starEach es X.env)).any (·.1)=false:=by rfl):
 PE X (.Call (.Name x p) (e::es) [] pos) (DE sp [] E t):=by
 obtain⟨f,fd,F,hm,hk,hb⟩:=D.ex;exact c_ F hr hg hm hk hb .nil hx ha Co he CB
structure Mt(CX:G1)(C:Addr)(m:Str)(k:Nat)(ps:List Str)(sp:Sp):Prop where
 ex: ∃(f:Addr)(fd:FuncData),L9 K C m f/\C_ CX k f fd ps sp/\Binds K fd ps []
section
variable{X:Cx}
theorem Nf:Jx X "str.startswith" (fun x xs H Q=> ∃a b i,x=.str a/\xs=[.str b,.int i]/\Q (.bl (fromIndex a.length i+b.length<=a.length&&M1 a b (fromIndex a.length i))) H):=by
 intro pins s σ H x xs v us Q I rx rs h;obtain⟨a,b,i,rfl,rfl,h⟩:=h;obtain⟨t,rfl⟩:=rx;cases rs with
 |cons r1 rs=>
  cases rs with
  |cons r2 rs=>
   cases rs;obtain⟨u,rfl⟩:=r1;obtain⟨u2,rfl⟩:=r2;exact VY M3 (RK _ _ _) F.entry_str_startswith (F.args_str_startswith_3 _ _ _) (gives_str_startswith_from a b i t u u2).meets ⟨.bl _,H,I,rfl,h⟩
theorem eU:Jx X "str.rstrip" (fun x xs H Q=> ∃a b,x=.str a/\xs=[.str b]/\a.length<=sizeLine/\Q (.str (pZ a b)) H):=by
 intro pins s σ H x xs v us Q I rx rs h;obtain⟨a,b,rfl,rfl,hz,h⟩:=h;obtain⟨t,rfl⟩:=rx;cases rs with
 |cons r1 rs=>
  cases rs;obtain⟨u,rfl⟩:=r1;refine VY pf (RK _ _ _) F.entry_str_rstrip (F.args_str_rstrip_2 _ _) (gives_str_rstrip_chars a b t u).meets ?_;exact post_val_or_made (fun _=>fits_stripped _ _ _ hz) fun t' k=>⟨.str _,H,I.tok k,⟨t',rfl⟩,h⟩
theorem SR(hc:X.calm=true):GY X (.type "str") (fun xs H Q=> ∃(i:Int)(k:Nat),xs=[.int i]/\k<=4300/\i.natAbs<10^k/\Q (.str (toString i)) H):=by
 intro pins s σ H xs us Q I r h;obtain⟨i,k,rfl,hk,hz,q⟩:=h;obtain⟨u,rfl,t,rfl⟩:=vals1 r;exact PyProof.Rows.str_of_int_or (I.ok.hd hc) I.nodigits (fun _=>⟨.str _,H,I.tok _,⟨_,rfl⟩,q⟩) fun z=>absurd (Bs hz (pj (by decide) hk)) (Nat.not_lt.mpr z)
def Pf(mg:Str->Option Value)(x:Str)(z:Str):Prop:= ∃t,mg x=some (.str z t)
theorem Pg(hg:Gl X x)(h:Pf L2.mg x z)(hd:(x==("__debug__":Str))=false:=by decide):PE X (.Name x pos) (tC (.str z)):=by
 obtain⟨t,h⟩:=h;exact WI hg h ⟨t,rfl⟩ hd
end
set_option tactic.hygienic true
open PySem.NumText
noncomputable def D5(b c:Nat):Option Nat:=match digit? c with
 |some d=>if d<b then some d else none
 |none=>none
noncomputable def valN(b:Nat)(l:List Nat):Nat:=l.foldl (fun n c=>n*b+(D5 b c).getD 0) 0
theorem uV(hc:c≠95)(h:D5 b c=some d):bK b p c=some (p.1.push d,true):=by
 unfold bK;unfold D5 at h;rw [AD (by simpa using hc)];cases hd:digit? c with
 |none=>rw [hd]at h;cases h
 |some e=>
  rw [hd]at h;dsimp only at h⊢;split at h
  ·next g=>rw [AG g];injection h with h;rw [h]
  ·cases h
theorem eV: ∀(l:List Nat)(p:Array Nat×Bool),(∀c∈l,c≠95/\(D5 b c).isSome=true)->l.foldlM (bK b) p=some (p.1++(l.map fun c=>(D5 b c).getD 0).toArray,if l=[]then p.2 else true)
 | [],p,_=>by simp
 |c::r,p,h=>by
  obtain⟨h1,h2⟩:=h c (Eb ..);obtain⟨d,hd⟩:=aZ.mp h2;rw [List.foldlM_cons,uV h1 hd];show r.foldlM (bK b) (p.1.push d,true)=_;rw [eV r _ fun x hx=>h x (Dn _ hx)];have e:(p.1.push d)++(r.map fun c=>(D5 b c).getD 0).toArray=p.1++((c::r).map fun c=>(D5 b c).getD 0).toArray:=by
   apply Array.ext';simp [hd]
  have e2:(if r=[]then((p.1.push d,true):Array Nat×Bool).2 else true)=true:=by split<;>rfl
  rw [e,e2,AD (List.cons_ne_nil c r)]
theorem eW(hn:l≠[])(h: ∀c∈l,c≠95/\(D5 b c).isSome=true):digits? b l=some (l.map fun c=>(D5 b c).getD 0).toArray:=by
 unfold digits?;rw [eV l _ h,AD hn];simp
theorem eX(b:Nat)(l:List Nat):(l.map fun c=>(D5 b c).getD 0).toArray.foldl (fun acc d=>acc*b+d) 0=valN b l:=by
 unfold valN;rw [List.foldl_toArray,List.foldl_map]
theorem eY: ∀{l:List Nat},(∀c∈l,p c=true)->l.takeWhile p=l
 | [],_=>rfl
 |c::r,h=>by rw [M4,h c (Eb ..),eY fun x hx=>h x (Dn _ hx)];rfl
theorem eZ(h: ∀c∈l,c<128/\c≠0):numTextOf (⟨l.toArray⟩:Str)=l/\numSeenOf (⟨l.toArray⟩:Str)=l:=by
 have e1:numTextOf (⟨l.toArray⟩:Str)=l:=by
  unfold numTextOf;rw [AG (by rw [List.all_toArray,GS];exact fun c hc=>Bi (h c hc).1)]
 refine⟨e1,?_⟩;unfold numSeenOf;rw [e1];exact eY fun c hc=>bne_iff_ne.mpr (h c hc).2
theorem uW:(D5 10 c).isSome=true↔(48<=c/\c<=57):=by
 unfold D5 digit?;by_cases h1:48<=c/\c<=57
 ·rw [AG (by simp [h1.1,h1.2])];dsimp only;rw [AG (by lia)];simp [h1]
 ·rw [AD (by simp;lia)];constructor
  ·intro h;split at h
   ·next d hd=>
    split at hd
    ·injection hd with hd
     split at h
     ·simp only [BK,Bw]at *;lia
     ·cases h
    ·split at hd
     ·injection hd with hd
      split at h
      ·simp only [BK,Bw]at *;lia
      ·cases h
     ·cases hd
   ·cases h
  ·intro h;exact absurd h h1
theorem uX(h:33<=c):blank c=false:=by
 unfold blank;rw [Gv];exact⟨by rw [KY];lia,by rw [Vh];right;exact Bh (by lia)⟩
theorem Ph{l:List Nat}(h: ∀c∈l,33<=c):l.dropWhile blank=l:=by
 cases l with
 |nil=>rfl
 |cons c r=>rw [Ln,uX (h c (Eb ..))];rfl
theorem eg{s l:List Nat}(hs:s=[]\/s=[43]\/s=[45])(hn:l≠[])(h: ∀c∈l,48<=c/\c<=57)(hl:l.length<=4000):
 pL (⟨(s++l).toArray⟩:Str)=some (if s=[45]then -(valN 10 l:Int)else(valN 10 l:Int)):=by
 have ED: ∀c∈s++l,c<128/\c≠0:=fun c hc=>by
  rcases Hm.mp hc with q|q
  ·rcases hs with e|e|e<;>subst e<;>simp at q<;>lia
  ·have :=h c q;lia
 have OU: ∀c∈s++l,33<=c:=fun c hc=>by
  rcases Hm.mp hc with q|q
  ·rcases hs with e|e|e<;>subst e<;>simp at q<;>lia
  ·have :=h c q;lia
 obtain⟨e1,e2⟩:=eZ ED;have U2:bL (s++l)=(decide (s=[45]),l):=by
  rcases hs with e|e|e
  ·subst e;cases l with
   |nil=>exact absurd rfl hn
   |cons c r=>
    have :=h c (Eb ..);unfold bL;rw [Vi];split
    ·next q=>injection q with q1 q2;lia
    ·next q=>injection q with q1 q2;lia
    ·rfl
  ·subst e;rfl
  ·subst e;rfl
 have ec:NumText.core (s++l)=l:=by
  unfold NumText.core;rw [Ph OU,U2];show(l.reverse.dropWhile blank).reverse=l;rw [Ph (fun c hc=>OU c (Li _ (bM.mp hc))),pq]
 have hd: ∀c∈l,c≠95/\(D5 10 c).isSome=true:=fun c hc=>⟨by have :=h c hc;lia,uW.mpr (h c hc)⟩
 unfold pL;rw [e2,e1,AG (Vc _),ec,eW hn hd,Ph OU,U2];dsimp only;rw [AG (by simp;lia)];unfold NumText.worth;rw [eX];congr 1;by_cases q:s=[45]
 ·simp [q]
 ·simp [q]
def Gf(c:Nat):Prop:=(48<=c/\c<=57)\/(97<=c/\c<=102)
theorem uY(h:Gf c):(D5 16 c).isSome=true:=by
 have : ∀c,c<128->((48<=c/\c<=57)\/(97<=c/\c<=102))->(D5 16 c).isSome=true:=by decide+kernel
 exact this c (by unfold Gf at h;lia) h
theorem uZ(h: ∀c∈l,Gf c):based 16 l=(16,false,l):=by
 unfold based;split
 ·next p hp=>
  have :p≠16:=by
   unfold PySem.NumText.prefix? at hp;split at hp
   ·next c r=>
    have hc:=h c (by simp);unfold Gf at hc;split at hp
    ·next q=>simp at q;lia
    ·split at hp
     ·injection hp with hp;lia
     ·split at hp
      ·injection hp with hp;lia
      ·cases hp
   ·cases hp
  rw [AD (by simp;lia)]
 ·rfl
theorem uc{l:List Nat}(hn:l≠[])(h: ∀c∈l,Gf c):(int_private%"readNumeral") 0 16 l=(int_private%"Numeral.value") ((valN 16 l:Nat):Int):=by
 have OU: ∀c∈l,33<=c:=fun c hc=>by have :=h c hc;unfold Gf at this;lia
 have hd: ∀c∈l,c≠95/\(D5 16 c).isSome=true:=fun c hc=>⟨by have :=h c hc;unfold Gf at this;lia,uY (h c hc)⟩
 have U2:bL l=(false,l):=by
  cases l with
  |nil=>exact absurd rfl hn
  |cons c r=>
   have :=h c (Eb ..);unfold Gf at this;unfold bL;split
   ·next q=>injection q with q1 q2;lia
   ·next q=>injection q with q1 q2;lia
   ·rfl
 rw [readNumeral_eq,Ph OU,U2];dsimp only;rw [uZ h];dsimp only;rw [Ph (fun c hc=>OU c (bM.mp hc)),pq,eW hn hd];unfold NumText.judge;dsimp only;rw [eX];rfl
theorem ud(a b:Value):checkTypeCall "int" ⟨[a,b],[]⟩=pure ():=by kernel_rfl
theorem ue(a b:Value):checkBuiltinCall "int.__new__" ⟨[.type "int",a,b],[]⟩=pure ():=by kernel_rfl
theorem uf
 (hs:(text.takeWhile (· !=0)).length<=640)(hr:(int_private%"readNumeral") 0 16 (text.takeWhile (· !=0))=(int_private%"Numeral.value") n)
 (ha:((text.takeWhile (· !=0)).length==text.length)=true)(h:Q (.int n s.toks) {s with toks:=s.toks+1}):
 wpAny M A ((int_private%"intFromText") v text 16) Q E s:=by
 obtain⟨hp,g,d,tk,os⟩:=s
 repeat (any_goals (first
  |assumption
  | (with_reducible refine bN (Bi hs) ?_)
  | (with_reducible refine bN (Bi ha) ?_)
  |wp_step))
 all_goals (try rw [hr])
 all_goals (try dsimp only)
 repeat (any_goals (first
  |assumption
  | (with_reducible refine bN (Bi hs) ?_)
  | (with_reducible refine bN (Bi ha) ?_)
  |wp_step))
structure ug(p:Prop):Prop where
 out:p
theorem gives_hex(hn:l≠[])(h: ∀c∈l,Gf c)(hl:l.length<=640):Gives (Builtin.«int.__new__» ⟨[.type "int",.str (⟨l.toArray⟩:Str) u,.int 16 v],[]⟩) (.int ((valN 16 l:Nat):Int)):=
 .of_wp fun M A E s Q hq=>by
  obtain⟨hp,g,d,tk,os⟩:=s;have f1:=F.conv_sub_int;have f2:=F.madeHere_int;have f6:typeOf (.str (⟨l.toArray⟩:Str) u)=pure (.type "str"):=rfl;obtain⟨e1,e2⟩:=eZ (l:=l) fun c hc=>by have :=h c hc;unfold Gf at this;lia
  have hs:(numSeenOf (⟨l.toArray⟩:Str)).length<=640:=by rw [e2];exact hl
  have hr:(int_private%"readNumeral") 0 16 (numSeenOf (⟨l.toArray⟩:Str))=(int_private%"Numeral.value") ((valN 16 l:Nat):Int)/\((numSeenOf (⟨l.toArray⟩:Str)).length==(numTextOf (⟨l.toArray⟩:Str)).length)=true:=by
   rw [e1,e2];exact⟨uc hn h,Vc _⟩
  have hk:=ug.mk (And.intro hs hr);clear hs hr hl hn h e1 e2
  repeat (any_goals (first
   |assumption
   | ((with_reducible show wpAny _ _ ((int_private%"intFromText") _ _ _) _ _ _);refine uf hk.out.1 hk.out.2.1 hk.out.2.2 ?_)
   |wp_step))
  all_goals first|exact⟨_,rfl,hq⟩|skip
theorem uh:GY X (.type "int") (fun xs H Q=> ∃l:List Nat,xs=[.str (⟨l.toArray⟩:Str),.int 16]/\l≠[]/\(∀c∈l,Gf c)/\l.length<=640/\Q (.int ((valN 16 l:Nat):Int)) H):=by
 intro pins s σ H xs us Q I rs h;obtain⟨l,rfl,hn,hh,hl,h⟩:=h;cases rs with
 |cons r1 rs=>
  cases rs with
  |cons r2 rs=>
   cases rs;obtain⟨t,rfl⟩:=r1;obtain⟨t2,rfl⟩:=r2;exact callType_new F.called_int F.newNe_int (ud _ _) (ue _ _) (fun obj=>AFp obj _ _) F.entry_int_new (gives_hex hn hh hl).meets (show(Made.int _).post _ s from⟨rfl,⟨.int _,H,I.tok _,⟨_,rfl⟩,h⟩⟩)
set_option tactic.hygienic false
section
theorem AEW(F:C_ Fq k f fd ps sp):C_ (FL P w) k f fd ps sp:=by
 refine⟨F.len,fun b A outer s H args us vs Q E hr he hb hv hs=>RI (F.run b A outer s H args us vs Q E hr he hb hv hs) fun r s' hq=>?_⟩;cases r with
 |error e=>exact Dp hq
 |ok fl=>cases fl<;>exact hq
theorem Df.x{x:Str}{k:Nat}{ps:List Str}{sp:Sp}(D:Df x k ps sp):IH x k ps sp:=by
 obtain⟨f,fd,F,hm,hk,hb⟩:=D.ex;exact⟨f,fd,AEW F,hm,hk,hb⟩
end
section
variable{X:Cx}{a:Addr}{AS:List (A8×V)}
theorem e_(D:IG L2.P L2.w L2.K a AS):DP X (compareOp .In) (fun x y H Q=> ∃k,x=kV k/\y=.ref a/\Q (.bl (Az AS k).isSome) H):=by
 intro pins s σ H x y v u Q I rx ry h;obtain⟨k,rfl,rfl,q⟩:=h;obtain rfl:u=DC a:=ry;obtain⟨vs,rel,dd⟩:=D.at I;refine wpAny_in_of (NZ rx) D.ns dd.mapOf ⟨.bl _,H,I.tok _,rfl,?_⟩;have e:(valueAt vs k).isSome=(Az AS k).isSome:=by
  have :=rel.val k;cases h1:valueAt vs k<;>cases h2:Az AS k<;>rw [h1,h2]at this
  ·rfl
  ·exact Dp this
  ·exact Dp this
  ·rfl
 rw [e];exact q
def ui(C1 C2:Addr)(tb:XK->TS)(Qo Qp:TS):TS:=fun D σ H=>tb (fun c _ H'=>(c=.ref C1/\ ∀Ak:L2.St,Qo D Ak H')\/(c=.ref C2/\ ∀Ak:L2.St,Qp D Ak H')) D σ H
theorem uj
 (T:Pb L2.K C1 Bn HX Ky HY)(T':Pb L2.K C2 Bn' AEz AE0 AE1)(MB:AFq L2.K (.ref C2) (.ref C1)=some false)(hm:L2.mg x=some (.ref C1))(m5:L2.mg y=some (.ref C2))(hg:Gl X x)(hg':Gl X y)
 (El:X.stack=X.env::X.outer)(hf:X.env.frame=some X.env.locals)(hxe:X.xe=fun _ _=>False)
 (hb: ∀(E:XK)(pn:List (Addr×Obj))(xe:Value->Shared->Prop),G2 (FL L2.P L2.w) {X with pn:=pn,xe:=xe} E->Ee {X with pn:=pn,xe:=xe} body (tb E))
 (hh: ∀(A:Around)(pn:List (Addr×Obj)),Ee {X with A:=A,calm:=false,pn:=pn,xe:=fun _ _=>False} (b1::my) Qo)
 (ZZ: ∀(A:Around)(pn:List (Addr×Obj)),Ee {X with A:=A,calm:=false,pn:=pn,xe:=fun _ _=>False} (b2::m4) Qp)
 (Co:(x==("__debug__":Str))=false:=by decide)(AE4:(y==("__debug__":Str))=false:=by decide):
 PS X (.Try body [.ExceptHandler (some (.Name x np)) none (b1::my) AE2,.ExceptHandler (some (.Name y np')) none (b2::m4) AE3] [] [] pos) (ui C1 C2 tb Qo Qp):=by
 intro pins s σ H D I h;refine wpAny_Try_except (GO (hb _ (X.pn++pins) (fun e s1=> ∃A_ H2 s2,Inv X pins A_ H2 s2/\FL L2.P L2.w X.stack H2 s2 (fun c _ H'=>(c=.ref C1/\ ∀Ak:L2.St,Qo D Ak H')\/(c=.ref C2/\ ∀Ak:L2.St,Qp D Ak H')) e s1)
  (fun mv A_ H2 s2 e s1 I2 z=>⟨A_,H2,s2,Pd I2,z⟩) [] s σ H D (uK I _) h) (fun fl s1 q=>?_) fun e s1 q=>?_)
 ·cases fl with
  |next=>
   obtain⟨C8,H1,I1,q⟩:=q;exact VN ⟨C8,H1,Pd I1,q⟩
  |brk=>obtain⟨C8,H1,I1,q⟩:=q;exact⟨C8,H1,Pd I1,q⟩
  |cont=>obtain⟨C8,H1,I1,q⟩:=q;exact⟨C8,H1,Pd I1,q⟩
  |ret v=>obtain⟨v1,C8,H1,I1,r,q⟩:=q;exact⟨v1,C8,H1,Pd I1,r,q⟩
 ·obtain⟨A_,H2,s2,I2,a,C',a0,B,H',rfl,os,bare,fl,fb,hE⟩:=q;have frames:X.A.frames=some (X.env::X.outer):=by rw [<-El];exact I.ok.frames
  have fl':pT B (X.env::X.outer) a (.ref C') a0 s1.heap:=by rw [<-El];exact fl
  refine wpAny_looks_onW frames hf fl' fun h4 held U3=>wpAny_landsW held fun h5 OV up5=>?_
  have U4:=fb.more (h2:=h5) OV.1 (U3.trans up5) (SK fl);have I5:Inv X pins A_ H' {s1 with heap:=h5}:=Inv.Uk (ch:=[]) I2 os U4.un U4.ok bare fun _ z=>absurd z (by simp)
  have hA:(X.A.mark (some (.ref a))).frames=X.A.frames:=rfl;have J5:=W9 I5 (X.A.mark (some (.ref a))) hA (fun _ _=>False);obtain⟨ob,Za,Zb⟩:=OV.there;refine wpAny_handleBy_cons (AFr ?_) (by intro z;cases z);refine Ko J5 hg hm ?_ Co;rcases hE with⟨eC,hE⟩|⟨eC,hE⟩
  ·cases eC;refine SW (W7 (x:=x) J5.Ea hm T.has) T.facts.hasBase Za Zb (AFt ?_);refine lands_againW OV fun h6 Zc Zd=>?_
   have Qq:=U4.more (h2:=h6) Zc.1 Zd (by rw [El];exact SK OV);have I6:Inv X pins A_ H' {s1 with heap:=h6}:=Inv.Uk (ch:=[]) I2 os Qq.un Qq.ok bare fun _ z=>absurd z (by simp)
   have J6:=W9 I6 (X.A.mark (some (.ref a))) hA (fun _ _=>False);refine GO (hh (X.A.mark (some (.ref a))) (X.pn++pins) [] _ A_ H' D J6 (hE A_)) (fun f s7 q=>?_) fun _ _ z=>Dp z
   cases f with
   |next=>obtain⟨C8,H1,I1,q⟩:=q;exact⟨C8,H1,K0 I.ok I1,q⟩
   |brk=>obtain⟨C8,H1,I1,q⟩:=q;exact⟨C8,H1,K0 I.ok I1,q⟩
   |cont=>obtain⟨C8,H1,I1,q⟩:=q;exact⟨C8,H1,K0 I.ok I1,q⟩
   |ret v=>obtain⟨v1,C8,H1,I1,r,q⟩:=q;exact⟨v1,C8,H1,K0 I.ok I1,r,q⟩
  ·cases eC;have LT:AFu (model L2.P L2.w) h5 (typeOf (.ref a)) (.ref C2):=by
    have :AFu (model L2.P L2.w) h5 (typeOf (.ref a)) ob.cls:=(PySem.W.Looks.ld Za).andThen .now;rw [Zb]at this;exact this
   refine(PySem.W.exm_one J5.Ea LT MB).at ?_;refine wpAny_handleBy_cons (AFr ?_) (by intro z;cases z);refine Ko J5 hg' m5 ?_ AE4;refine SW (W7 (x:=y) J5.Ea m5 T'.has) T'.facts.hasBase Za Zb (AFt ?_);refine lands_againW OV fun h6 Zc Zd=>?_
   have Qq:=U4.more (h2:=h6) Zc.1 Zd (by rw [El];exact SK OV);have I6:Inv X pins A_ H' {s1 with heap:=h6}:=Inv.Uk (ch:=[]) I2 os Qq.un Qq.ok bare fun _ z=>absurd z (by simp)
   have J6:=W9 I6 (X.A.mark (some (.ref a))) hA (fun _ _=>False);refine GO (ZZ (X.A.mark (some (.ref a))) (X.pn++pins) [] _ A_ H' D J6 (hE A_)) (fun f s7 q=>?_) fun _ _ z=>Dp z
   cases f with
   |next=>obtain⟨C8,H1,I1,q⟩:=q;exact⟨C8,H1,K0 I.ok I1,q⟩
   |brk=>obtain⟨C8,H1,I1,q⟩:=q;exact⟨C8,H1,K0 I.ok I1,q⟩
   |cont=>obtain⟨C8,H1,I1,q⟩:=q;exact⟨C8,H1,K0 I.ok I1,q⟩
   |ret v=>obtain⟨v1,C8,H1,I1,r,q⟩:=q;exact⟨v1,C8,H1,K0 I.ok I1,r,q⟩
end
end Q3
set_option tactic.hygienic true
section
namespace Q3
open PySem PySem.Spec PyProof.Rows L2
theorem fA: ∀{ps:List Str}{us:List Value},us.length=ps.length->ps.Nodup->(∀n∈ps,((ps.zip us).lookup n).isSome=true)/\(ps.filterMap fun n=>((ps.zip us).lookup n).map fun v=>(n,v))=ps.zip us
 | [],_,_,_=>⟨fun _ h=>(Vj h).elim,rfl⟩
 |p::ps,[],h,_=>by cases h
 |p::ps,u::us,h,hd=>by
  obtain⟨h1,h2⟩:=VT.mp hd;obtain⟨i1,i2⟩:=fA (ps:=ps) (us:=us) (Nat.succ.inj h) h2;have hl: ∀n∈ps,(((p,u)::ps.zip us).lookup n)=(ps.zip us).lookup n:=fun n hn=>by
   rw [Jg,beq_false_of_ne (fun e:n=p=>h1 (e▸hn))]
  refine⟨fun n hn=>?_,?_⟩
  ·rcases DL.mp hn with e|hn
   ·subst e;rw [bO,Jg,Vc];rfl
   ·rw [bO,hl n hn];exact i1 n hn
  ·rw [bO,List.filterMap_cons_some (b:=(p,u)) (by rw [Jg,Vc];rfl)];congr 1;have : ∀l:List Str,(∀n∈l,n∈ps)->(l.filterMap fun n=>(((p,u)::ps.zip us).lookup n).map fun v=>(n,v))=l.filterMap fun n=>((ps.zip us).lookup n).map fun v=>(n,v):=by
    intro l
    induction l with
    |nil=>intro _;rfl
    |cons a l ih=>intro hm;rw [RE,RE,hl a (hm a Eb),ih fun n hn=>hm n (Dn _ hn)]
   exact(this ps fun _ h=>h).trans i2
noncomputable def argsOk(a:Arguments)(ps:List Str):Bool:=a.posonlyargs.isEmpty&&decide (a.args.map (·.arg)=ps)&&a.vararg.isNone&&a.kwonlyargs.isEmpty&&a.kwarg.isNone&&decide ps.Nodup
theorem fB(ho:argsOk fd.params ps=true)(h6:fd.defaults=.none)(hl:us.length=ps.length):bindArgs fd ⟨us,[]⟩=pure (ps.zip us):=by
 simp only [argsOk,BK,List.isEmpty_iff,AFv,Bw]at ho;obtain⟨⟨⟨⟨⟨h1,h2⟩,h3⟩,h4⟩,h5⟩,hd⟩:=ho;obtain⟨z1,z2⟩:=fA hl hd;have hm:ps.filter (fun n=>((ps.zip us).lookup n).isNone)=[]:=List.filter_eq_nil_iff.mpr fun n hn=>by
  have :=z1 n hn;revert this;cases (ps.zip us).lookup n<;>simp
 obtain⟨nm,qn,⟨po,ar,va,ko,kd,kw,df⟩,bd,sc,gl,cl,df2⟩:=fd;dsimp only at h1 h2 h3 h4 h5 h6;subst h1 h3 h4 h5 h6;unfold bindArgs;dsimp only;rw [RL,Vi,h2];have g: ¬us.length>ps.length:=by lia
 have e0:((seqItems? RB:Sem _))=pure none:=rfl;simp only [VZ,pure_bind,e0,o5,List.drop_nil,Cu,Vk,Ip,hm,g,decide_false,RG,List.isEmpty_nil,p6,GQ,AFw,VS,RL,z2,List.drop_length,Jh]
noncomputable def K1(x:Str):Addr:=match mg x with
 |some (.ref a)=>a
 |_=>0
noncomputable def pmA(f:Addr):Value:=match L2.K.lookup f with
 |some ⟨_,_,.func fd,_⟩=>fd.pyModule
 |_=>.none
abbrev HZ(x q:Str)(st:Stmt)(f:Addr):FuncData:=Hd.O0 x q st 3 (pmA f) (.ref (f-1))
theorem K2{st:Stmt}(h:(L2.K.lookup f,VW L2.K (.ref (f-1)) q)=(some ⟨.type "function",none,.func (HZ x q st f), #[]⟩,true)):IC L2.K x q st f (HZ x q st f):=by
 obtain⟨h1,h2⟩:=bP h;refine⟨⟨_,_,_,_,_,_,_,_,_,rfl,h1,h2⟩,?_⟩;show(match L2.K.lookup f with |some ⟨_,_,.func _,_⟩=>true|some ⟨_,_,.cls _,_⟩=>_|_=>false)=true;rw [h1]
theorem MG{st:Stmt}(h:argsOk (NH st) ps=true):Binds L2.K (HZ x q st f) ps []:=.all fun _ hl=>fB h rfl hl
theorem uk{st:Stmt}(h:(mg x,argsOk (NH st) ps,L2.K.lookup (K1 x),VW L2.K (.ref (K1 x-1)) x)=(some (.ref (K1 x)),true,some ⟨.type "function",none,.func (HZ x x st (K1 x)), #[]⟩,true)):Pa L2.K L2.mg x st ps:=by
 obtain⟨h1,h2⟩:=bP h;obtain⟨h2,h3⟩:=bP h2;exact⟨_,_,K2 h3,h1,MG h2⟩
noncomputable def W_(i:Int):Option Value->Bool
 |some (.int j _)=>decide (i=j)
 |_=>false
noncomputable def fC(i:Str):Option Value->Bool
 |some (.str j _)=>decide (i=j)
 |_=>false
theorem um(h:W_ i (mg x)=true):B_ L2.mg x i:=by
 unfold W_ at h;split at h
 ·rename_i j t e;exact⟨t,Au h▸e⟩
 ·cases h
theorem SS(h:(VO L2.K C aS,aX L2.K C,oh L2.K C,Ho L2.K (.ref C) "__setattr__")=(true,true,true,some (some (.builtin "object.__setattr__")))):F4 L2.K C:=by
 simp only [Ke]at h;exact⟨h.1,h.2.1,h.2.2.1,h.2.2.2⟩
theorem II(h:Ho L2.K (.ref C) f=some none):FH L2.K C f:=h
theorem SU(h:(om L2.K C,Ho L2.K (.ref C) "__init__",VP L2.K (.ref f),Ij L2.K (.ref C))=(true,some (some (.ref f)),true,true)):Mk L2.K C f:=by
 simp only [Ke]at h;exact⟨h.1,h.2.1,h.2.2.1,h.2.2.2⟩
theorem fD(h:(Ho L2.K (.ref C) m,VP L2.K (.ref f),Ij L2.K (.ref f))=(some (some (.ref f)),true,true)):L9 L2.K C m f:=by
 simp only [Ke]at h;exact⟨h.1,h.2.1,h.2.2⟩
theorem XA(h:fC z (mg x)=true):Pf L2.mg x z:=by
 unfold fC at h;split at h
 ·rename_i j t e;exact⟨t,Au h▸e⟩
 ·cases h
noncomputable def SV:Value->A8
 |.int i _=>.inl i
 |.str x _=>.inr x
 |_=>.inl 0
noncomputable def fE:Value->V
 |.int i _=>.int i
 |.ref a=>.ref a
 |_=>.BZ
def JI(e:DictEntry):A8×V:=(SV e.key,fE e.val)
noncomputable def XB(e:DictEntry):Option Int:=match e.key,e.val with
 |.int i _,.int _ _=>some (hashInt i)
 |.int i _,.ref _=>some (hashInt i)
 |.str x _,.int _ _=>some (oR L2.w.params x)
 |.str x _,.ref _=>some (oR L2.w.params x)
 |_,_=>none
theorem fF: ∀{es:List DictEntry},es.map XB=es.map (fun e=>some e.hash)-> ∃vs:List (A8×Value),(∀e∈es,∃k,(Di L2.P L2.w).is k e.key=true/\e.hash=(Di L2.P L2.w).hash k)/\Pairs (Di L2.P L2.w) es vs/\vs.map (·.1)=(es.map JI).map (·.1)/\KV (es.map JI) vs
 | [],_=>⟨[],fun e z=>by simp at z,.nil,rfl,.nil⟩
 |⟨h,key,val⟩::es,hh=>by
  obtain⟨h1,h3⟩:=List.cons.inj hh;obtain⟨vs,a1,a2,a3,a4⟩:=fF h3;have kk:((Di L2.P L2.w).is (SV key) key=true/\h=(Di L2.P L2.w).hash (SV key))/\RelV (fE val) val:=by
   dsimp only [XB]at h1;split at h1
   ·exact⟨⟨WE _ _ _ _,(BQ h1).symm⟩,⟨_,rfl⟩⟩
   ·exact⟨⟨WE _ _ _ _,(BQ h1).symm⟩,(rfl:DC _=DC _)⟩
   ·exact⟨⟨WG _ _ _ _,(BQ h1).symm⟩,⟨_,rfl⟩⟩
   ·exact⟨⟨WG _ _ _ _,(BQ h1).symm⟩,(rfl:DC _=DC _)⟩
   ·cases h1
  refine⟨(SV key,val)::vs,fun e z=>?_,.cons kk.1.1 rfl a2,?_,.cons ⟨rfl,kk.2⟩ a4⟩
  ·rcases DL.mp z with z|z
   ·rw [z];exact⟨_,kk.1⟩
   ·exact a1 e z
  ·rw [Fj,a3];rfl
noncomputable def IJ(f:Addr):List DictEntry:=match L2.K.lookup f with
 |some ⟨_,_,.dict es _,_⟩=>es.toList
 |_=>[]
noncomputable def epA(f:Addr):Nat:=match L2.K.lookup f with
 |some ⟨_,_,.dict _ n,_⟩=>n
 |_=>0
theorem Ng(hk:kv=(IJ f).map JI)(h:(f==sysModules,L2.K.lookup f,(IJ f).map XB,decide (((IJ f).map JI).map (·.1)).Nodup)=(false,some ⟨.type "dict",none,.dict ⟨IJ f⟩ (epA f), #[]⟩,(IJ f).map (fun e=>some e.hash),true)):IG L2.P L2.w L2.K f kv:=by
 simp only [Ke]at h;obtain⟨h1,h2,h3,h4⟩:=h;subst hk;obtain⟨vs,a1,a2,a3,a4⟩:=fF h3;exact⟨h1,_,_,_,vs,h2,⟨rfl,rfl,rfl⟩,rfl,fun e he=>a1 e (AFO.mpr he),a2,by rw [a3];exact Au h4,a4⟩
theorem fG{kv:List (A8×V)}{l:List Int}{n:Int}(h:(l.all fun n=>(Az kv (.inl n)).isNone)=true)(hn:n∈l):Az kv (.inl n)=none:=AFv.mp (GS.mp h n hn)
noncomputable def AGf:Value->V
 |.int i _=>.int i
 |.str x _=>.str x
 |.ref a=>.ref a
 |_=>.BZ
noncomputable def R8:Value->Bool
 |.int _ _=>true
 |.str _ _=>true
 |.ref _=>true
 |_=>false
theorem AGl(h:R8 v=true):RelV (AGf v) v:=by
 cases v<;>first|exact⟨_,rfl⟩|exact(show DC _=DC _ from rfl)|cases h
theorem AGj: ∀{us:List Value},us.all R8=true->BM (us.map AGf) us
 | [],_=>.nil
 |u::us,h=>by
  rw [AGk,BK]at h;exact .cons (AGl h.1) (AGj h.2)
noncomputable def Pj(a:Addr)(xs:List V):Bool:=match L2.K.lookup a with
 |some ⟨.type "tuple",_,.seq AV _,_⟩=>decide (AV.size<=sizeLine)&&AV.toList.all R8&&decide (AV.toList.map AGf=xs)
 |_=>false
theorem XC(h:Pj a xs=true): ∀H,B9 L2.K H a xs:=fun _=>by
 unfold Pj at h;split at h
 ·rename_i AV n _ e;simp only [BK,Bw]at h;exact .inr ⟨_,AV,_,e,rfl,rfl,h.1.1,h.2▸AGj h.1.2⟩
 ·cases h
abbrev fI(a:Addr)(xs:List Str):Bool:=Pj a (xs.map V.str)
abbrev XD(a:Addr)(xs:List Int):Bool:=Pj a (xs.map V.int)
theorem uo(h:fI a xs=true): ∀H,B9 L2.K H a (xs.map V.str):=XC h
theorem K3(h:XD a xs=true): ∀H,B9 L2.K H a (xs.map V.int):=XC h
theorem uv{a:Addr}{xs:List Addr}(h:Pj a (xs.map V.ref)=true): ∀H,B9 L2.K H a (xs.map V.ref):=XC h
noncomputable def top(i:Nat):Stmt:=L2.P.main.body.getD i (.Pass ⟨0,0,0,0⟩)
def CP:Addr:=32
def CC:Addr:=436
def CS:Addr:=711
def CA:Addr:=816
def CT:Addr:=691
def CR:Addr:=982
def aq:Addr:=15
def af:Addr:=331
def aw:Addr:=332
def aN:Addr:=375
def aR:Addr:=405
def aL:Addr:=410
def Nh:Addr:=1182
def Ni:Addr:=1184
def Pk:Addr:=1185
def Pl:Addr:=29
def Pn:Addr:=433
def Po:Addr:=708
def Pp:Addr:=799
def Pq:Addr:=806
def Pr:Addr:=813
def MH:Addr:=1206
def e0:Addr:=992
def e1:Addr:=999
def e2:Addr:=1006
def e3:Addr:=1013
def e4:Addr:=1020
def e5:Addr:=1027
def e6:Addr:=1034
def e7:Addr:=1041
def e8:Addr:=1048
def e9:Addr:=1055
def SY:Addr:=1062
def fJ:Addr:=1069
def fK:Addr:=1076
def fL:Addr:=1083
def fM:Addr:=1090
def XE:Addr:=1097
def Nj:Addr:=1104
def fN:Addr:=1111
def fO:Addr:=1118
def fP:Addr:=1125
def fQ:Addr:=1132
def fR:Addr:=1139
def fT:Addr:=1146
def fU:Addr:=1153
def fV:Addr:=1160
def fW:Addr:=1167
def fX:Addr:=1174
def fY:Addr:=1181
noncomputable def Sa:FuncData:=HZ "__init__" "Parts.__init__" (FD (top 7) 0) Pl
noncomputable def Sd:FuncData:=HZ "__init__" "Call.__init__" (FD (top 82) 0) Pn
noncomputable def Se:FuncData:=HZ "__init__" "Sum.__init__" (FD (top 137) 0) Po
noncomputable def Sf:FuncData:=HZ "__init__" "Accumulators.__init__" (FD (top 148) 0) Pp
noncomputable def Sg:FuncData:=HZ "empty" "Accumulators.empty" (FD (top 148) 1) Pq
noncomputable def Sh:FuncData:=HZ "put" "Accumulators.put" (FD (top 148) 2) Pr
noncomputable def fZ:FuncData:=HZ "answers" "answers" (top 212) MH
def Nk:List (A8×V):=(IJ aN).map JI
def Nl:List (A8×V):=(IJ aL).map JI
def Jy:List (A8×V):=(IJ aR).map JI
def kN:List (A8×V):=(IJ Nh).map JI
def kR:List (A8×V):=(IJ Ni).map JI
def kA:List (A8×V):=(IJ Pk).map JI
def Bn:String:="ValueError"
def HX:String:="ValueError.__new__"
def Ky:String:="ValueError.__init__"
noncomputable def HY:List Value:=[.type "ValueError",.type "Exception",.type "BaseException",.type "object"]
abbrev zE(x:Str)(i:Nat)(ps:List Str):Str×Nat×List Str:=(x,i,ps)
noncomputable def zl:List (Str×Nat×List Str):=[zE "ones" 8 ["bits"],zE "bias" 9 ["form"],zE "finite" 10 ["sign","size","power"],zE "beyond_finite" 11 ["sign","fraction","fraction_bits"],zE "take_apart" 12 ["form","bits"],zE "turned" 13 ["number","turn"],zE "goes_outward" 25 ["sign","kept","rest","half","mode"],zE "multiple" 26 ["sign","size","power","grid","mode"],zE "exponent" 28 ["size","power"],zE "is_on_grid" 27 ["size","power","grid"],zE "is_tiny" 29 ["form","sign","size","power","mode"],zE "zero_bits" 30 ["form","sign"],zE "infinity_bits" 31 ["form","sign"],zE "canonical_nan" 32 ["form"],zE "overflow_bits" 33 ["form","sign","mode"],zE "loss" 34 ["form","sign","size","power","grid","mode"],zE "round_to" 35 ["form","sign","size","power","mode"],zE "parts_of" 41 ["bits"],zE "sign_of" 42 ["bits"],zE "without_sign" 43 ["bits"],zE "zero" 44 ["sign"],zE "infinity" 45 ["sign"],zE "invalid" 46 [],zE "is_nan" 47 ["number"],zE "has_nan" 48 ["numbers"],zE "nan_flags" 49 ["numbers"],zE "nan_answer" 50 ["numbers"],zE "put_together" 36 ["form","number","mode"],zE "as_quad" 51 ["number","mode"],zE "add_infinite" 55 ["x","y"],zE "zero_sum_sign" 56 ["x","y","mode"],zE "signed_count" 57 ["number","power"],zE "add" 58 ["x","y","mode"],zE "is_infinity_by_zero" 59 ["x","y"],zE "product" 60 ["x","y"],zE "multiply" 61 ["x","y","mode"],zE "ratio" 62 ["sign","top","bottom","power"],zE "divide" 63 ["x","y","mode"],zE "op" 64 ["which","a","b","mode"],zE "whole_root" 65 ["square"],zE "root" 66 ["a","mode"],zE "fused" 67 ["a","b","c","how","mode"],zE "nearest_is_above" 118 ["quotient","rest","divisor"],zE "remainder_finite" 119 ["x","y","how"],zE "remainder" 120 ["a","b","how"],zE "scale" 121 ["a","n","mode"],zE "whole" 122 ["a","exact","mode"],zE "above" 123 ["a"],zE "next_number" 124 ["a","down"],zE "split_number" 125 ["a"],zE "place" 89 ["bits"],zE "height" 90 ["bits"],zE "picked" 91 ["a","b","which"],zE "pick" 92 ["a","b","which"],zE "with_sign" 93 ["a","b","how"],zE "order" 96 ["a","b"],zE "compare_nan" 94 ["numbers","kind"],zE "compare" 95 ["a","b","kind"],zE "positive_class" 97 ["a","number"],zE "class_of" 98 ["a"],zE "has_room" 72 ["form","bits"],zE "take_apart_extended" 73 ["bits"],zE "take_apart_other" 74 ["form","bits"],zE "from_other" 75 ["form","bits"],zE "with_top_bit" 76 ["bits"],zE "to_other" 77 ["form","a","mode"],zE "read_rows" 83 ["calls","start","count"],zE "has_fitting_numbers" 85 ["call"],zE "has_fitting_rows" 86 ["call"],zE "is_as_told" 87 ["call"],zE "read_calls" 84 ["calls"],zE "width" 150 ["sort"],zE "has_sign" 151 ["sort"],zE "least" 152 ["sort"],zE "greatest" 153 ["sort"],zE "as_sort" 154 ["sort","v"],zE "of_whole" 155 ["sort","v","mode"],zE "modulo" 156 ["value"],zE "beyond" 157 ["sort","is_below"],zE "to_whole" 158 ["sort","a","mode"],zE "no_terms" 138 [],zE "one_term" 139 ["number"],zE "number_term" 140 ["a"],zE "product_term" 141 ["a","b"],zE "together" 142 ["one","other"],zE "zero_sign" 143 ["seen","mode"],zE "rounded" 144 ["one","mode"],zE "sum_of" 145 ["mode","row"],zE "dot" 146 ["mode","row","other"],zE "poly" 147 ["x","mode","row"],zE "power_of_five" 102 ["n"],zE "as_bytes" 164 ["text"],zE "minus" 165 ["number"],zE "not_finite" 166 ["number","zero_text"],zE "with_point" 167 ["first","others"],zE "over_ten" 168 ["size","power","grid"],zE "decimal_exponent" 169 ["number"],zE "multiple_of_ten" 170 ["number","grid","mode"],zE "nearer" 171 ["below","step","top","bottom"],zE "fewest" 172 ["number","grid"],zE "in_decimal" 173 ["number","count","digits","grid"],zE "show" 174 ["a","digits","mode"],zE "hexadecimal_digits" 175 ["fraction"],zE "in_hex" 176 ["a"],zE "end_of_run" 107 ["text","start","digits"],zE "end_of_digits" 108 ["text","start","digits"],zE "end_of_sign" 109 ["text","start"],zE "end_of_exponent" 110 ["text","start","mark"],zE "exponent_of" 111 ["text"],zE "decimal_value" 112 ["sign","size","n"],zE "read_decimal" 113 ["text","sign","start","end"],zE "read_hexadecimal" 114 ["text","sign","start","end"],zE "read_number" 115 ["text"],zE "as_text" 106 ["row"],zE "read" 116 ["mode","row"],zE "call_op" 179 ["numbers"],zE "call_root" 180 ["numbers"],zE "call_fused" 181 ["numbers"],zE "call_remainder" 182 ["numbers"],zE "call_scale" 183 ["numbers"],zE "call_whole" 184 ["numbers"],zE "call_next" 185 ["numbers"],zE "call_split" 186 ["numbers"],zE "call_pick" 187 ["numbers"],zE "call_sign" 188 ["numbers"],zE "call_compare" 189 ["numbers"],zE "call_order" 190 ["numbers"],zE "call_class" 191 ["numbers"],zE "call_to" 193 ["numbers"],zE "call_ofwhole" 194 ["numbers"],zE "call_towhole" 195 ["numbers"],zE "call_show" 196 ["numbers"],zE "call_hex" 197 ["numbers"],zE "call_read" 198 ["numbers","rows"],zE "call_sum" 199 ["numbers","rows"],zE "call_dot" 200 ["numbers","rows"],zE "call_poly" 201 ["numbers","rows"],zE "call_from" 192 ["numbers"],zE "call_clear" 202 ["numbers","accumulators"],zE "call_term" 203 ["numbers","accumulators"],zE "call_product" 204 ["numbers","accumulators"],zE "call_merge" 205 ["numbers","accumulators"],zE "call_get" 206 ["numbers","accumulators"],zE "told" 210 ["call","accumulators"],zE "answer" 211 ["call","accumulators"]]
theorem zs:zl.map (fun e=>(mg e.1,argsOk (NH (top e.2.1)) e.2.2,L2.K.lookup (K1 e.1),VW L2.K (.ref (K1 e.1-1)) e.1))=zl.map fun e=>(some (.ref (K1 e.1)),true,some ⟨.type "function",none,.func (HZ e.1 e.1 (top e.2.1) (K1 e.1)), #[]⟩,true):=by kernel_rfl
theorem AW(i:Nat)(h:zl[i]? =some (x,j,ps)):Pa L2.K L2.mg x (top j) ps:=uk (AFx.mp zs _ (FV h))
abbrev gE(x:Str)(i:Int):Str×Int:=(x,i)
noncomputable def gl:List (Str×Int):=[gE "FINITE" 1,gE "ZERO" 0,gE "INFINITE" 2,gE "QUIET" 3,gE "SIGNALING" 4,gE "TOWARD_ZERO" 1,gE "DOWN" 2,gE "UP" 3,gE "TO_AWAY" 4,gE "NX" 1,gE "UF" 2,gE "OF" 4,gE "SIGN_BIT" 170141183460469231731687303715884105728,gE "INFINITY" 170135991163610696904058773219554885632,gE "CANONICAL_NAN" 170138587312039964317873038467719495680,gE "NV" 16,gE "ENOUGH" 115,gE "DZ" 8,gE "WIDENED" 228,gE "TO_EVEN" 0,gE "EXTENDED" 3,gE "NAN" 32,gE "RAISING" 64,gE "PLUS_INFINITY" 8,gE "PLUS_ZERO" 1,gE "OTHER_THAN_ZERO" 4,gE "LOWEST" (-32988),gE "MOST_TERMS" 4294967295,gE "MINUS_ZERO" 2,gE "MINUS_INFINITY" 16,gE "HIDDEN_BIT" 5192296858534827628530496329220096,gE "LEAST_POWER" (-16494),gE "FIRST_STEP" 100000000000000000000000000000000000,gE "MOST_DIGITS" 36,gE "FARTHEST" 20000]
theorem gs:(gl.all fun e=>W_ e.2 (mg e.1))=true:=by kernel_rfl
theorem CV(i:Nat)(h:gl[i]? =some (x,v)):B_ L2.mg x v:=um (GS.mp gs (x,v) (FV h))
abbrev rE(x:Str)(i:Option Value):Str×Option Value:=(x,i)
noncomputable def rl:List (Str×Option Value):=[rE "Parts" (some (.ref CP)),rE "Call" (some (.ref CC)),rE "Sum" (some (.ref CS)),rE "Accumulators" (some (.ref CA)),rE "max" none,rE "QUADRUPLE" (some (.ref aq)),rE "any" none,rE "min" none,rE "abs" none,rE "WIDTHS" (some (.ref aw)),rE "FORMS" (some (.ref af)),rE "len" none,rE "zip" none,rE "NUMBERS" (some (.ref aN)),rE "LIMITS" (some (.ref aL)),rE "ROWS" (some (.ref aR)),rE "sum" none,rE "TooMany" (some (.ref CT)),rE "range" none,rE "ord" none,rE "str" none,rE "int" none,rE "Refused" (some (.ref CR)),rE "BY_NUMBERS" (some (.ref Nh)),rE "BY_ROWS" (some (.ref Ni)),rE "BY_ACCUMULATORS" (some (.ref Pk))]
theorem rs:rl.map (fun e=>mg e.1)=rl.map (·.2):=by kernel_rfl
theorem rat(i:Nat)(h:rl[i]? =some (x,v)):L2.mg x=v:=AFx.mp rs (x,v) (FV h)
end Q3
end
set_option tactic.hygienic false
section
namespace Q3
open PySem PySem.Spec PyProof.Rows L2
theorem dd [Decidable p](h:decide p=true:=by exact rfl):p:=Au h
abbrev sc(i:Nat):Scope:=Cw (top i)
noncomputable def fc(N P:List Str)(sc:Scope):Bool:=(match sc.kind with |.function=>true|_=>false)&& !sc.isCoroutine&& !sc.isGenerator&&decide N.Nodup&&decide (N.take P.length=P)&&P.all (fun x=>decide (sc.names.lookup x=some .local)||decide (sc.names.lookup x=some .cell))&&sc.names.all fun y=>decide (y.2≠ .free)
theorem fS{N P:List Str}(h:fc N P s=true:=by kernel_rfl):Bj N P s:=by
 simp only [fc,BK,Hr,pQ,GS,Bw]at h;obtain⟨⟨⟨⟨⟨⟨h1,h2⟩,h3⟩,h4⟩,h5⟩,h6⟩,h7⟩:=h;refine⟨?_,h2,h3,h4,h5,h6,h7⟩;split at h1
 ·assumption
 ·cases h1
theorem pD(hr:CU n X.A)(D:Df x k ps sp)(ha:PA X (e::es) t)(hk:k<=n:=by decide)(hg:Gl X x:=by exact rfl)
 (Co:(x==("__debug__":Str))=false:=by decide)(he:starEach (e::es) X.env=(false,eval e X.env)::starEach es X.env:=by rfl)(CB:(backTo pos (starEach es X.env)).any (·.1)=false:=by rfl):
 PE X (.Call (.Name x p) (e::es) [] pos) (DE sp [] E0 t):=W4 D (hr.mono hk) hg ha Co he CB
theorem pC(hr:CU n X.A)(D:Cl x C k ps sp)(ha:PA X (e::es) t)(hk:k+1<=n:=by decide)(hg:Gl X x:=by exact rfl)
 (Co:(x==("__debug__":Str))=false:=by decide)(he:starEach (e::es) X.env=(false,eval e X.env)::starEach es X.env:=by rfl)(CB:(backTo pos (starEach es X.env)).any (·.1)=false:=by rfl):
 PE X (.Call (.Name x p) (e::es) [] pos) (PL C sp [] E0 t):=uH D (hr.mono hk) hg ha Co he CB
theorem Gg(hr:CU n X.A)(D:Df x k ps sp)(hk:k<=n:=by decide)(hg:Gl X x:=by exact rfl)
 (Co:(x==("__debug__":Str))=false:=by decide):PE X (.Call (.Name x p) [] [] pos) (DE sp [] E0 B3):=uG D (hr.mono hk) hg Co
theorem pS(i:Nat)(hN:X.N.Nodup)(he:PE X e te)(hi:X.N[i]? =some x:=by exact rfl)(hx:Loc X.env.scope x:=by exact Or.inl rfl)(hs:swapsWith e (some (.Name x pos')) pos.line X.env=pure false:=by rfl)(hf:X.fn x=true\/X.env.scope.names.lookup x=some .local:=by first|exact .inl rfl|exact .inr rfl|assumption):
 PS X (.Assign [.Name x pos'] e pos) (NO te (HN i)):=cY hN hi hx he hs hf
theorem Pa.go{x:Str}{st:Stmt}{ps:List Str}{k:Nat}{sp:Sp}(F:Pa L2.K L2.mg x st ps)(N:List Str)
 (Ie:N.Nodup-> ∀(base:Heap)(f:Addr)(By:Value)(A:Around)(outer:List Env)(s:Shared)(H:Hp)(vs:List V)(Q:VK)(E:XK),CU k (A.deeper (envOfC x (Cw st) s.heap.objs.size f By))->sp vs H Q E->
  ∃t,Ee (Ga Fq base N x (Cw st) f By A outer s H E).OK (L3 st) t/\t {nx:=fun _ H'=>Q .BZ H',rt:=Q} (start N vs) H)
 (len: ∀vs H Q E,sp vs H Q E->vs.length=ps.length:=by intro _ _ _ _ h;(repeat obtain⟨_,h⟩:=h);subst_vars;rfl)(S:Bj N ps (Cw st):=by exact fS):Df x (k+1) ps sp:=F.ok S len (Ie S.nd)
theorem dz(h:decide (n<=sizeLine)=true:=by exact rfl):n<=sizeLine:=Au h
section
variable{X:Cx}
theorem pO(i:Nat)(hN:X.N[i]? =some x:=by rfl)(hv:Kn X.env.scope x:=by first|exact Or.inl rfl|exact Or.inr (Or.inl rfl)|exact Or.inr (Or.inr rfl))(hd:(x==("__debug__":Str))=false:=by decide)(Fx:(x==("__classdict__":Str))=false:=by decide):PA X [.Name x pos] (Ba (Aa i) B3):=AB (pv i hN hv hd Fx) AL
theorem pW(i:Nat)(hr:PA X es t)(hN:X.N[i]? =some x:=by rfl)(hv:Kn X.env.scope x:=by first|exact Or.inl rfl|exact Or.inr (Or.inl rfl)|exact Or.inr (Or.inr rfl))(hd:(x==("__debug__":Str))=false:=by decide)(Fx:(x==("__classdict__":Str))=false:=by decide)(hs:starEach (.Name x pos::es) X.env=(false,eval (.Name x pos) X.env)::starEach es X.env:=by rfl):PA X (.Name x pos::es) (Ba (Aa i) t):=AB (pv i hN hv hd Fx) hr hs
theorem pR(he:PE X e te):Ee X [.Return (some e) pos] (Jt te):=Cj (qw he)
theorem pG(h:B_ L2.mg x i)(hg:Gl X x:=by exact rfl)(hd:(x==("__debug__":Str))=false:=by decide):PE X (.Name x pos) (tC (.int i)):=uD hg h hd
end
end Q3
end
namespace QM
open Qu
def Al(n:Nat):0<2^n:=BR n
def IK(h:0<n):2^n.log2<=n:=Nat.log2_self_le (by lia)
def Ex(n:Nat):n<2^(n.log2+1):=Nat.lt_log2_self
def Si(h1:2^k<=n)(h2:n<2^(k+1)):n.log2=k:=by
 have h0:n≠0:=by have :=Al k;lia
 have a:k<=n.log2:=(Nat.le_log2 h0).mpr h1;have b:n.log2<k+1:=(Jj h0).mpr h2;lia
def CG(h:a<=b):2^a<=2^b:=pj (by decide) h
def Ha(h:a<b):2^a<2^b:=AFy (by decide) h
def XF(hc:0<c):restOf (c*r) (c*d)=restOf r d:=by
 unfold restOf;have e0:(c*r=0)↔r=0:=by
  constructor
  ·intro h;rcases Vl.mp h with q|q
   ·lia
   ·exact q
  ·intro h;rw [h,Vm]
 have e1:2*(c*r)=c*(2*r):=Hs 2 c r;have e2:(c*(2*r) <c*d)↔2*r<d:=AFz hc;have e3:(c*(2*r)=c*d)↔2*r=d:=⟨fun h=>AF0 hc h,fun h=>by rw [h]⟩;simp only [e0,e1,e2,e3]
def Sj:restOf r d=0↔r=0:=by
 unfold restOf;constructor
 ·intro h;by_cases e:r=0
  ·exact e
  ·rw [AD e]at h;split at h
   ·cases h
   ·split at h<;>cases h
 ·intro h;rw [AG h]
def Ci(i j:Nat)(h:(j:Int)-(i:Int)=k-s):
 ratioAt a b s k=((a*2^i)/(b*2^j),restOf ((a*2^i)%(b*2^j)) (b*2^j)):=by
 unfold ratioAt;obtain⟨c,hi,hj⟩: ∃c:Nat,i=(s-k).toNat+c/\j=(k-s).toNat+c:=⟨i-(s-k).toNat,by lia,by lia⟩;subst hi hj;have e1:a*2^((s-k).toNat+c)=2^c*(a*2^(s-k).toNat):=by
  rw [Ap,<-A6,Ar]
 have e2:b*2^((k-s).toNat+c)=2^c*(b*2^(k-s).toNat):=by
  rw [Ap,<-A6,Ar]
 rw [e1,e2,AF1 _ _ (Al c),Nat.mul_mod_mul_left,XF (Al c)]
def XG(i:Nat):ratioAt (a*2^i) b s k=ratioAt a b (s+i) k:=by
 rw [Ci (a:=a*2^i) (b:=b) (s:=s) (k:=k) (s-k).toNat (k-s).toNat (by lia),
  Ci (a:=a) (b:=b) (s:=s+i) (k:=k) (i+(s-k).toNat) (k-s).toNat (by lia),Ap,A6]
def EK(ha:0<a)(hb:0<b):1<=(ratioAt a b s k).1↔k< (ratio a b s).above:=by
 have key: ∀(k:Int)(i j:Nat),(j:Int)-i=k-s->(1<=(ratioAt a b s k).1↔b*2^j<=a*2^i):=fun k i j h=>by
  rw [Ci i j h];show 1<=a*2^i/(b*2^j)↔_;have hd:0<b*2^j:=BN hb (Al j);rw [DN hd,B1]
 have hA:=IK ha;have hA':=Ex a;have hB:=IK hb;have hB':=Ex b;have up: ∀k:Int,(a.log2:Int)-b.log2+s<k-> ¬1<=(ratioAt a b s k).1:=fun k hk h=>by
  obtain⟨i,j,e,Ms⟩: ∃i j:Nat,(j:Int)-i=k-s/\a.log2+1+i<=b.log2+j:=by
   refine⟨(s-k).toNat,(k-s).toNat,by lia,by lia⟩
  have h1:=(key k i j e).mp h;have h2:a*2^i<2^(a.log2+1+i):=by rw [Ap 2 (a.log2+1) i];exact(Gw (Al i)).mpr hA'
  have h3:2^(b.log2+j)<=b*2^j:=by rw [Ap];exact B2 _ hB
  have h4:=CG Ms;lia
 have down: ∀k:Int,k< (a.log2:Int)-b.log2+s->1<=(ratioAt a b s k).1:=fun k hk=>by
  obtain⟨i,j,e,Ms⟩: ∃i j:Nat,(j:Int)-i=k-s/\b.log2+1+j<=a.log2+i:=by
   refine⟨(s-k).toNat,(k-s).toNat,by lia,by lia⟩
  refine(key k i j e).mpr ?_;have h2:b*2^j<2^(b.log2+1+j):=by rw [Ap 2 (b.log2+1) j];exact(Gw (Al j)).mpr hB'
  have h3:2^(a.log2+i)<=a*2^i:=by rw [Ap];exact B2 _ hA
  have h4:=CG Ms;lia
 unfold ratio;show 1<=(ratioAt a b s k).1↔k< (if 1<=(ratioAt a b s ((a.log2:Int)-b.log2+s)).1 then((a.log2:Int)-b.log2+s)+1 else((a.log2:Int)-b.log2+s));generalize ht:(a.log2:Int)-b.log2+s=t at *
 rcases RR k t with h|h|h
 ·refine⟨fun _=>?_,fun _=>down k h⟩;split<;>lia
 ·subst h;constructor
  ·intro h;rw [AG h];lia
  ·intro h;by_cases q:1<=(ratioAt a b s k).1
   ·exact q
   ·rw [AD q]at h;lia
 ·refine⟨fun q=>absurd q (up k h),fun q=>?_⟩;split at q<;>lia
def uw{A B K:Int}(h: ∀k,K<=k->(k<A↔k<B))(hA:K<A):A=B:=by
 have hB:=(h K (Vn K)).mp hA;rcases RR A B with q|q|q
 ·have :=(h A (by lia)).mpr q;lia
 ·exact q
 ·have :=(h B (by lia)).mp q;lia
def Sk(ha:0<a):(ratio a 1 s).above=(a.log2:Int)+s+1:=by
 have h1:1<=(ratioAt a 1 s ((a.log2:Int)+s)).1:=by
  rw [Ci 0 a.log2 (by lia)];show 1<=a*2^0/(1*2^a.log2);rw [B7,Cc,B1,DN (Al _),B1];exact IK ha
 have h2: ¬1<=(ratioAt a 1 s ((a.log2:Int)+s+1)).1:=by
  rw [Ci 0 (a.log2+1) (by lia)];show ¬1<=a*2^0/(1*2^(a.log2+1));rw [B7,Cc,B1,DN (Al _),B1];have :=Ex a;lia
 rw [EK ha (by decide)]at h1 h2;lia
def fe(ha:x.above=y.above)(h: ∀k,x.above-1-(f.fbits:Int)<=k->x.at_ k=y.at_ k):round f m neg x=round f m neg y:=by
 have ep:place f x=place f y:=by unfold place;rw [ha]
 have e1:x.at_ (place f x)=y.at_ (place f y):=by
  rw [<-ep];refine h _ ?_;unfold place;lia
 have e2:tiny f m neg x=tiny f m neg y:=by
  unfold tiny;show decide (((rounded m neg (x.at_ (x.above-1-f.fbits))).log2:Int)+(x.above-1-f.fbits) <1-f.bias)=decide (((rounded m neg (y.at_ (y.above-1-f.fbits))).log2:Int)+(y.above-1-f.fbits) <1-f.bias);rw [h _ (Vn _),ha]
 rw [ep]at e1;unfold round;simp only [ep,e1,e2]
def Nm(i:Nat)(ha:0<a)(hb:0<b):ratio (a*2^i) b s=ratio a b (s+i):=by
 have hA:0<a*2^i:=BN ha (Al i);have e:(ratio (a*2^i) b s).above=(ratio a b (s+i)).above:=by
  refine Int.le_antisymm ?_ ?_
  ·rcases Gx (ratio a b (s+i)).above (ratio (a*2^i) b s).above with q|q
   ·rw [<-EK hA hb,XG,EK ha hb]at q;lia
   ·exact q
  ·rcases Gx (ratio (a*2^i) b s).above (ratio a b (s+i)).above with q|q
   ·rw [<-EK ha hb,<-XG,EK hA hb]at q;lia
   ·exact q
 have e2:(ratio (a*2^i) b s).at_=(ratio a b (s+i)).at_:=funext fun k=>XG i
 cases hx:ratio (a*2^i) b s with
 |mk x1 x2=>
  cases hy:ratio a b (s+i)with
  |mk y1 y2=>
   rw [hx,hy]at e e2;dsimp only at e e2;rw [e,e2]
noncomputable def EO(n d:Nat):Nat:=2*(n/d)+(if n%d=0 then 0 else 1)
def ff{a b w:Nat}{s k:Int}(hb:0<b)(hk:s-w+1<=k):ratioAt (EO (a*2^w) b) 1 (s-w-1) k=ratioAt a b s k:=by
 obtain⟨e,he⟩: ∃e:Nat,k-(s-w)=(e:Int)+1:=⟨(k-(s-w)-1).toNat,by lia⟩;rw [Ci (a:=EO (a*2^w) b) 0 (e+2) (by lia),Ci (a:=a) w (e+1) (by lia),B7,Cc,B1];unfold EO;generalize hq:a*2^w/b=q;generalize hr:a*2^w%b=r;have hn:a*2^w=q*b+r:=by rw [Ar q b,<-hq,<-hr];exact(Gy _ _).symm
 have m6:r<b:=by rw [<-hr];exact Dg _ hb
 rw [hn];generalize hQ:q/2^(e+1)=Q;generalize hR:q%2^(e+1)=R;have m7:q=Q*2^(e+1)+R:=by rw [Ar Q,<-hQ,<-hR];exact(Gy _ _).symm
 have hR2:R<2^(e+1):=by rw [<-hR];exact Dg _ (Al _)
 have E7:2^(e+2)=2*2^(e+1):=by rw [CQ 2 (e+1),Ar]
 have En:2^(e+1)=2*2^e:=by rw [CQ 2 e,Ar]
 generalize El:(if r=0 then 0 else 1:Nat)=st;have Qr:(r=0/\st=0)\/(r≠0/\st=1):=by
  rw [<-El];by_cases z:r=0
  ·left;rw [AG z];exact⟨z,rfl⟩
  ·right;rw [AD z];exact⟨z,rfl⟩
 generalize hh:2^e=h at *
 generalize hg:2^(e+1)=g at *
 have l1:2*q+st=(2*R+st)+2^(e+2)*Q:=by
  rw [m7,E7,RS,Ar Q g,<-A6];lia
 have l2:2*R+st<2^(e+2):=by rw [E7];lia
 have r1:q*b+r=(R*b+r)+b*g*Q:=by
  have e1:q*b=b*g*Q+R*b:=by rw [m7,D3,Ar Q g,A6 g,Ar Q b,<-A6,Ar g b]
  lia
 have r2:R*b+r<b*g:=by
  have :(R+1)*b<=g*b:=B2 _ hR2;rw [Ar b g];rw [D3,B1]at this;lia
 have p2:0<2^(e+2):=Al _;have pb:0<b*g:=Cb (DM _) r2;rw [l1,r1,bQ _ _ p2,bQ _ _ pb,bS,bS,FW l2,FW r2,M5 l2,M5 r2];refine congrArg (Prod.mk _) ?_;have bg:b*g=2*(h*b):=by rw [En,Hs,Ar h b]
 unfold restOf;rw [E7,bg,En];have lo:R<h->R*b+r<h*b:=fun q=>by
  have :(R+1)*b<=h*b:=B2 _ q;rw [D3,B1]at this;lia
 have hi:h<=R->h*b<=R*b:=fun q=>B2 _ q
 have Ze:h<R->h*b<R*b:=fun q=>(Gw hb).mpr q
 have z:R*b+r=0↔2*R+st=0:=by
  constructor
  ·intro q;have :R*b=0:=by lia
   rcases Vl.mp this with q|q<;>lia
  ·intro q;have :R=0:=by lia
   subst this;rw [Jk];lia
 by_cases c0:2*R+st=0
 ·rw [AG c0,AG (z.mpr c0)]
 ·rw [AD c0,AD (fun q=>c0 (z.mp q))];rcases HG R h with q|q|q
  ·have :=lo q;rw [AG (by lia),AG (by lia)]
  ·subst q;rcases Qr with⟨q1,q2⟩|⟨q1,q2⟩
   ·subst q1 q2;rw [AD (by lia: ¬2*(2*R+0) <2*(2*R)),AG (by lia:2*(2*R+0)=2*(2*R)),AD (by lia: ¬2*(R*b+0) <2*(R*b)),AG (by lia:2*(R*b+0)=2*(R*b))]
   ·rw [AD (by lia),AD (by lia),AD (by lia),AD (by lia)]
  ·have :=Ze q;rw [AD (by lia),AD (by lia),AD (by lia),AD (by lia)]
def ux{f:Fmt}{m:Mode}{neg:Bool}{a b w:Nat}{s:Int}(ha:0<a)(hb:0<b)(hw:2^(f.fbits+1)<=a*2^w/b):
 round f m neg (ratio (EO (a*2^w) b) 1 (s-w-1))=round f m neg (ratio a b s):=by
 have hs:0<EO (a*2^w) b:=by
  have :=Al (f.fbits+1);unfold EO;lia
 have hK:s-w+1+(f.fbits:Int) < (ratio a b s).above:=by
  rw [<-EK ha hb,Ci w (f.fbits+1) (by lia)];show 1<=a*2^w/(b*2^(f.fbits+1));rw [<-RT,DN (Al _),B1];exact hw
 have e:(ratio a b s).above=(ratio (EO (a*2^w) b) 1 (s-w-1)).above:=by
  refine uw (K:=s-w+1) (fun k hk=>?_) (by lia);rw [<-EK ha hb,<-EK hs (by decide),ff hb hk]
 refine fe e.symm fun k hk=>?_
 exact ff hb (by lia)
def Pt{a b:Nat}(h:a<=b):a*a<=b*b:=Nat.mul_self_le_mul_self h
def XH{a b:Nat}(h:a<b):a*a<b*b:=Nat.mul_self_lt_mul_self h
def MI{a b:Nat}:a*a<b*b↔a<b:=⟨fun h=>by
 rcases DW a b with q|q
 ·exact q
 ·have :=Pt q;lia,XH⟩
def uy{a b:Nat}:a*a<=b*b↔a<=b:=⟨fun h=>by
 rcases DW b a with q|q
 ·have :=XH q;lia
 ·exact q,Pt⟩
def XI(n:Nat): ∀(j q:Nat),q*q<=n->n< (q+2^j)*(q+2^j)->isqrtFrom n j q*isqrtFrom n j q<=n/\n< (isqrtFrom n j q+1)*(isqrtFrom n j q+1)
 |0,q,h1,h2=>⟨h1,by simpa [isqrtFrom]using h2⟩
 |j+1,q,h1,h2=>by
  unfold isqrtFrom;by_cases c:(q+2^j)*(q+2^j)<=n
  ·rw [AG c];refine XI n j _ c ?_;have e:q+2^(j+1)=q+2^j+2^j:=by rw [CQ];lia
   rw [<-e];exact h2
  ·rw [AD c];exact XI n j _ h1 (by lia)
def MJ(n:Nat):isqrt n*isqrt n<=n/\n< (isqrt n+1)*(isqrt n+1):=by
 unfold isqrt;refine XI n _ 0 (by lia) ?_;rw [Jl,<-Ap];exact Bs (Ex n) (CG (by lia))
def uz(h1:q*q<=n)(h2:n< (q+1)*(q+1)):isqrt n=q:=by
 obtain⟨a,b⟩:=MJ n;have l:isqrt n<q+1:=MI.mp (Cb a h2);have r:q<isqrt n+1:=MI.mp (Cb h1 b);lia
def u6(i j:Nat)(h:(j:Int)-(i:Int)=2*k-s):
 rootAt a s k=(isqrt (a*2^i/2^j),if isqrt (a*2^i/2^j)*isqrt (a*2^i/2^j)*2^j=a*2^i then 0
  else if 4*(a*2^i) < (2*isqrt (a*2^i/2^j)+1)*(2*isqrt (a*2^i/2^j)+1)*2^j then 1
  else if 4*(a*2^i)=(2*isqrt (a*2^i/2^j)+1)*(2*isqrt (a*2^i/2^j)+1)*2^j then 2 else 3):=by
 unfold rootAt;obtain⟨c,hi,hj⟩: ∃c:Nat,i=(s-2*k).toNat+c/\j=(2*k-s).toNat+c:=⟨i-(s-2*k).toNat,by lia,by lia⟩;subst hi hj;have e1:a*2^((s-2*k).toNat+c)=2^c*(a*2^(s-2*k).toNat):=by
  rw [Ap,<-A6,Ar]
 have e2:2^((2*k-s).toNat+c)=2^c*2^(2*k-s).toNat:=by
  rw [Ap,Ar]
 rw [e1,e2,AF1 _ _ (Al c)];dsimp only;generalize a*2^(s-2*k).toNat=n;generalize 2^(2*k-s).toNat=d;generalize isqrt (n/d)=q;have m: ∀x y:Nat,(x*(2^c*d)=y*(2^c*n))↔x*d=y*n:=fun x y=>by
  rw [Hs x,Hs y];exact⟨fun h=>AF0 (Al c) h,fun h=>by rw [h]⟩
 have m0:=m (q*q) 1;rw [B1,B1]at m0;have m1:(4*(2^c*n) < (2*q+1)*(2*q+1)*(2^c*d))↔4*n< (2*q+1)*(2*q+1)*d:=by
  rw [Hs 4,Hs ((2*q+1)*(2*q+1))];exact AFz (Al c)
 have m2:(4*(2^c*n)=(2*q+1)*(2*q+1)*(2^c*d))↔4*n=(2*q+1)*(2*q+1)*d:=by
  have :=m ((2*q+1)*(2*q+1)) 4;exact⟨fun h=>(this.mp h.symm).symm,fun h=>(this.mpr h.symm).symm⟩
 simp only [m0,m1,m2]
noncomputable def Jz(S:Nat):Nat:=2*isqrt S+(if isqrt S*isqrt S=S then 0 else 1)
def u7{a W:Nat}{s t k:Int}(hs:s=W+2*t)(hk:t+1<=k):rootAt a s k=ratioAt (Jz (a*2^W)) 1 (t-1) k:=by
 obtain⟨e,he⟩: ∃e:Nat,k-t=(e:Int)+1:=⟨(k-t-1).toNat,by lia⟩;rw [u6 W (2*(e+1)) (by lia),Ci 0 (e+2) (by lia),B7,Cc,B1];unfold Jz;generalize a*2^W=S;obtain⟨f1,f2⟩:=MJ S;generalize isqrt S=F at *
 have hp:2^(2*(e+1))=2^(e+1)*2^(e+1):=by rw [<-Ap];congr 1;lia
 have E7:2^(e+2)=2*2^(e+1):=by rw [CQ 2 (e+1),Ar]
 have En:2^(e+1)=2*2^e:=by rw [CQ 2 e,Ar]
 have ph:0<2^e:=Al e;generalize hh:2^e=h at *
 generalize hg:2^(e+1)=g at *
 generalize hQ:F/g=Q;generalize hR:F%g=R;have gp:0<g:=by lia
 have hF:F=g*Q+R:=by rw [<-hQ,<-hR];exact(Gy _ _).symm
 have hRg:R<g:=by rw [<-hR];exact Dg _ gp
 have q1:isqrt (S/2^(2*(e+1)))=Q:=by
  rw [hp];have gg:0<g*g:=BN gp gp;refine uz ?_ ?_
  ·rw [DN gg];have :Q*Q*(g*g)=(g*Q)*(g*Q):=by
    simp only [Ar,Hs,A6]
   rw [this];exact A9 (Pt (by lia)) f1
  ·rw [E_ gg];have :(Q+1)*(Q+1)*(g*g)=(g*(Q+1))*(g*(Q+1)):=by
    simp only [Ar,Hs,A6]
   rw [this];refine Bs f2 (Pt ?_);rw [RS,Cc];lia
 rw [q1,hp];generalize El:(if F*F=S then 0 else 1:Nat)=st;have Qr:(F*F=S/\st=0)\/(F*F<S/\st=1):=by
  rw [<-El];by_cases z:F*F=S
  ·left;rw [AG z];exact⟨z,rfl⟩
  ·right;rw [AD z];exact⟨by lia,rfl⟩
 have l1:2*F+st=(2*R+st)+2^(e+2)*Q:=by
  rw [E7,hF,RS,A6];lia
 have l2:2*R+st<2^(e+2):=by rw [E7];lia
 rw [l1,bQ _ _ (Al _),bS,FW l2,M5 l2,Jl];refine congrArg (Prod.mk _) ?_;have s0:Q*Q*(g*g)=(g*Q)*(g*Q):=by simp only [Ar,Hs,A6]
 have s1:(2*Q+1)*(2*Q+1)*(g*g)=4*((g*Q+h)*(g*Q+h)):=by
  have e1:(2*Q+1)*(2*Q+1)*(g*g)=((2*Q+1)*g)*((2*Q+1)*g):=by simp only [Ar,Hs,A6]
  have e2:(2*Q+1)*g=2*(g*Q+h):=by
   rw [D3,B1,RS,A6,Ar Q g];lia
  rw [e1,e2];generalize g*Q+h=x;have :2*x*(2*x)=2*(2*(x*x)):=by simp only [Ar,Hs,A6]
  lia
 rw [s0,s1];unfold restOf;rw [E7];by_cases c0:2*R+st=0
 ·have OW:R=0:=by lia
  have hs0:st=0:=by lia
  rw [AG c0,AG];rcases Qr with⟨z,_⟩|⟨_,z⟩
  ·rw [<-z,hF,OW,Iq]
  ·lia
 ·rw [AD c0,AD (fun z=>c0 (by
   rw [<-z]at f1 f2;have a1:g*Q<F+1:=MI.mp f2;have a2:F<=g*Q:=uy.mp f1;have a3:R=0:=by lia
   have a4:F=g*Q:=by lia
   rcases Qr with⟨_,y⟩|⟨y,_⟩
   ·lia
   ·rw [<-z,a4]at y;lia))]
  rcases HG R h with q|q|q
  ·have :S< (g*Q+h)*(g*Q+h):=Bs f2 (Pt (by lia));rw [AG (by lia),AG (by lia)]
  ·subst q;rw [<-hF];rcases Qr with⟨q1,q2⟩|⟨q1,q2⟩
   ·subst q2;rw [AD (by lia: ¬4*S<4*(F*F)),AG (by lia:4*S=4*(F*F)),AD (by lia: ¬2*(2*R+0) <2*g),AG (by lia:2*(2*R+0)=2*g)]
   ·rw [AD (by lia),AD (by lia),AD (by lia),AD (by lia)]
  ·have :(g*Q+h)*(g*Q+h) <S:=Bs (XH (by lia)) f1;rw [AD (by lia),AD (by lia),AD (by lia),AD (by lia)]
def XJ(h:0<S):(isqrt S).log2=S.log2/2/\0<isqrt S:=by
 obtain⟨f1,f2⟩:=MJ S;have h1:=IK h;have h2:=Ex S;have a:2^(S.log2/2) <isqrt S+1:=MI.mp (Cb (by rw [<-Ap];exact A9 (CG (by lia)) h1) f2);have b:isqrt S<2^(S.log2/2+1):=MI.mp (Cb f1 (Bs h2 (by rw [<-Ap];exact CG (by lia))));have :=Al (S.log2/2);exact⟨Si (by lia) b,by lia⟩
def u9(h:0<n)(b:Nat)(hb:b<=1):(2*n+b).log2=n.log2+1:=by
 have h1:=IK h;have h2:=Ex n;refine Si ?_ ?_
 ·rw [CQ];lia
 ·rw [CQ 2 (n.log2+1)];lia
def u_(h:0<n)(w:Nat):(n*2^w).log2=n.log2+w:=by
 have h1:=IK h;have h2:=Ex n;refine Si ?_ ?_
 ·rw [Ap];exact B2 _ h1
 ·rw [show n.log2+w+1=(n.log2+1)+w by lia,Ap];exact(Gw (Al w)).mpr h2
def vA{f:Fmt}{m:Mode}{neg:Bool}{a W:Nat}{s t:Int}(ha:0<a)(hs:s=W+2*t)(hw:f.fbits+1<=(a.log2+W)/2):
 round f m neg (ratio (Jz (a*2^W)) 1 (t-1))=round f m neg (root a s):=by
 have hS:0<a*2^W:=BN ha (Al W);obtain⟨l1,l2⟩:=XJ hS;rw [u_ ha]at l1;have El:Jz (a*2^W)=2*isqrt (a*2^W)+(if isqrt (a*2^W)*isqrt (a*2^W)=a*2^W then 0 else 1):=rfl;have lg:(Jz (a*2^W)).log2=(a.log2+W)/2+1:=by
  rw [El,u9 l2 _ (by split<;>lia),l1]
 have hp:0<Jz (a*2^W):=by rw [El];lia
 have e:(ratio (Jz (a*2^W)) 1 (t-1)).above=(root a s).above:=by
  rw [Sk hp,lg];show _=((a.log2:Int)+s)/2+1;lia
 refine fe e fun k hk=>?_
 rw [Sk hp,lg]at hk;exact(u7 hs (by lia)).symm
def vB(hg:0<g):isqrt n<=(g+n/g)/2:=by
 obtain⟨f1,f2⟩:=MJ n;generalize isqrt n=r at *
 rw [DN (by decide:0<2)];by_cases c:2*r<=g
 ·exact A9 (by lia) (Ll g (n/g))
 ·have h1:2*r-g<=n/g:=by
   rw [DN hg];refine A9 ?_ f1;rcases DW r g with q|q
   ·obtain⟨d,rfl⟩: ∃d,g=r+d:=⟨g-r,by lia⟩;have e:2*r-(r+d)=r-d:=by lia
    rw [e];obtain⟨x,rfl⟩: ∃x,r=x+d:=⟨r-d,by lia⟩;have e2:x+d-d=x:=by lia
    rw [e2];have :(x+d)*(x+d)=x*(x+d+d)+d*d:=by
     simp only [RS,D3,Ar x d];lia
    lia
   ·obtain⟨d,rfl⟩: ∃d,r=g+d:=⟨r-g,by lia⟩;have e:2*(g+d)-g=g+(d+d):=by lia
    rw [e];have :(g+d)*(g+d)=(g+(d+d))*g+d*d:=by
     simp only [RS,D3,Ar g d];lia
    lia
  generalize n/g=x at *
  lia
def vC(hg:0<g)(h1:isqrt n<=g)(h2:g<=(g+n/g)/2):g=isqrt n:=by
 obtain⟨f1,f2⟩:=MJ n;have h3:g<=n/g:=by
  generalize n/g=x at *
  lia
 rw [DN hg]at h3;have :g<isqrt n+1:=MI.mp (Cb h3 f2);lia
def vD(h:0<n):isqrt n<=2^((n.log2+1+1)/2):=by
 obtain⟨f1,f2⟩:=MJ n;have h2:=Ex n;have :isqrt n<2^((n.log2+1+1)/2):=MI.mp (Cb f1 (Bs h2 (by rw [<-Ap];exact CG (by lia))));lia
def K4(m:Mode)(neg:Bool)(x:Nat×Rest):rounded m neg x=x.1\/rounded m neg x=x.1+1:=by
 unfold rounded;generalize (if m=0 then x.2==3||(x.2==2&&x.1%2==1)else if m=1 then false else if m=2 then neg&&x.2 !=0 else if m=3 then !neg&&x.2 !=0 else x.2==3||x.2==2)=c;cases c
 ·left;rfl
 ·right;rfl
def Pu(m:Mode)(neg:Bool)(h:x.2=0):rounded m neg x=x.1:=by
 unfold rounded;rw [h];have e:(if m=0 then((0:Nat)==3)||(((0:Nat)==2)&&x.1%2==1)else if m=1 then false else if m=2 then neg&&((0:Nat) !=0)else if m=3 then !neg&&((0:Nat) !=0)else((0:Nat)==3)||((0:Nat)==2))=false:=by
  split
  ·rfl
  ·split
   ·rfl
   ·split
    ·cases neg<;>rfl
    ·split
     ·cases neg<;>rfl
     ·rfl
 rw [e];rfl
noncomputable def A7(n:Nat):Nat:=if n=0 then 0 else n.log2+1
def Fs(h:0<n):A7 n=n.log2+1:=by unfold A7;rw [AD (by lia)]
def Fd(h:n<2^k):A7 n<=k:=by
 unfold A7;split
 ·lia
 ·rename_i q;have :=(Jj q).mpr h;lia
def vF(h:2^k<=n):k+1<=A7 n:=by
 have p:=Al k;rw [Fs (by lia)];have :=(Nat.le_log2 (by lia:n≠0)).mpr h;lia
def fh(hn:0<n):place f (ratio n 1 p)=max ((n.log2:Int)+p) (1-f.bias)-f.fbits:=by
 unfold place Vo;rw [Sk hn];lia
def fi{n F:Nat}{p k:Int}(h:(n.log2:Int)+p-F<=k):(ratioAt n 1 p k).1 <2^(F+1):=by
 rw [Ci (p-k).toNat (k-p).toNat (by lia),B1];show n*2^(p-k).toNat/2^(k-p).toNat <2^(F+1);rw [E_ (Al _),<-Ap];have h1:=Ex n;have h2:n*2^(p-k).toNat <2^(n.log2+1)*2^(p-k).toNat:=(Gw (Al _)).mpr h1;rw [<-Ap]at h2;exact Bs h2 (CG (by lia))
def XM{n F:Nat}{p k:Int}(hn:0<n)(h:k<=(n.log2:Int)+p-F):2^F<=(ratioAt n 1 p k).1:=by
 rw [Ci (p-k).toNat (k-p).toNat (by lia),B1];show 2^F<=n*2^(p-k).toNat/2^(k-p).toNat;rw [DN (Al _),<-Ap];have h1:=IK hn;have h2:2^n.log2*2^(p-k).toNat<=n*2^(p-k).toNat:=B2 _ h1;rw [<-Ap]at h2;exact A9 (CG (by lia)) h2
def XN(f:Fmt):f.bias+1=((2^(f.ebits-1):Nat):Int):=by
 unfold p7;have :=Al (f.ebits-1);lia
def vG(hE:2<=f.ebits)(hk:f.unit<=k)(hc:c<=2^(f.fbits+1))(hn:f.unit<k->2^f.fbits<=c):
 f.infinity<=magnitude f c k↔f.bias<k+(A7 c:Int)-1:=by
 obtain⟨K,hK⟩: ∃K:Nat,k-f.unit=(K:Int):=⟨(k-f.unit).toNat,by lia⟩;have hb:=XN f;have hu:f.unit=1-f.bias-(f.fbits:Int):=rfl;have hE2:2^f.ebits=2*2^(f.ebits-1):=by
  obtain⟨e,he⟩: ∃e,f.ebits=e+1:=⟨f.ebits-1,by lia⟩;rw [he,CQ,Kf,Ar]
 have hE3:2<=2^(f.ebits-1):=by
  have :=CG (a:=1) (b:=f.ebits-1) (by lia);lia
 have pF:=Al f.fbits;have m8:2^(f.fbits+1)=2*2^f.fbits:=by rw [CQ,Ar]
 unfold M6 magnitude;have hKn:(k-f.unit).toNat=K:=by lia
 rw [hKn];generalize hg:2^f.fbits=g at *
 generalize hB:2^(f.ebits-1)=B at *
 rcases DW c g with q|q
 ·have k0:K=0:=by
   rcases Dq K with z|z
   ·exact z
   ·have :=hn (by lia);lia
  subst k0;have b1:A7 c<=f.fbits:=Fd (by rw [hg];exact q);have :g*3<=(2^f.ebits-1)*g:=by rw [Ar g 3];exact B2 _ (by lia)
  constructor
  ·intro h;lia
  ·intro h;lia
 ·have b1:f.fbits+1<=A7 c:=vF (by rw [hg];exact q);rcases DW c (2*g)with q2|q2
  ·have b2:A7 c<=f.fbits+1:=Fd (by rw [m8];exact q2);have e1:((2^f.ebits-1)*g<=K*g+c)↔2^f.ebits-1<=K+1:=by
    constructor
    ·intro h;rcases DW (K+1) (2^f.ebits-1)with z|z
     ·have :(K+2)*g<=(2^f.ebits-1)*g:=B2 _ z;rw [D3]at this;lia
     ·exact z
    ·intro h;have :(2^f.ebits-1)*g<=(K+1)*g:=B2 _ h;rw [D3]at this;lia
   rw [e1];lia
  ·have ec:c=2*g:=by lia
   have b2:A7 c=f.fbits+2:=by
    rw [ec,<-m8,Fs (Al _),Nat.log2_two_pow]
   have e1:((2^f.ebits-1)*g<=K*g+c)↔2^f.ebits-1<=K+2:=by
    rw [ec,<-D3];exact⟨fun h=>p9 h (by lia),fun h=>B2 _ h⟩
   rw [e1,b2];lia
def vH(hE:2<=f.ebits)(hn:0<n):
 round f m neg (ratio n 1 p)=
  (if f.bias< (max ((n.log2:Int)+p) (1-f.bias)-f.fbits)+(A7 (rounded m neg (ratioAt n 1 p (max ((n.log2:Int)+p) (1-f.bias)-f.fbits))):Int)-1 then(beyond f m neg,OF+NX)
  else(signed f neg (magnitude f (rounded m neg (ratioAt n 1 p (max ((n.log2:Int)+p) (1-f.bias)-f.fbits))) (max ((n.log2:Int)+p) (1-f.bias)-f.fbits)),
   if(ratioAt n 1 p (max ((n.log2:Int)+p) (1-f.bias)-f.fbits)).2=0 then 0
   else if((n.log2:Int)+p-f.fbits)+(A7 (rounded m neg (ratioAt n 1 p ((n.log2:Int)+p-f.fbits))):Int)-1<1-f.bias then UF+NX else NX)):=by
 have ep:=fh (f:=f) (p:=p) hn;generalize hk:max ((n.log2:Int)+p) (1-f.bias)-f.fbits=k at *
 have hu:f.unit=1-f.bias-(f.fbits:Int):=rfl;have b1:(ratioAt n 1 p k).1 <2^(f.fbits+1):=fi (by lia);have b2:rounded m neg (ratioAt n 1 p k)<=2^(f.fbits+1):=by
  rcases K4 m neg (ratioAt n 1 p k)with h|h<;>lia
 have b3:f.unit<k->2^f.fbits<=rounded m neg (ratioAt n 1 p k):=fun h=>by
  have :2^f.fbits<=(ratioAt n 1 p k).1:=XM hn (by lia);rcases K4 m neg (ratioAt n 1 p k)with h|h<;>lia
 have ov:=vG (c:=rounded m neg (ratioAt n 1 p k)) hE (by lia:f.unit<=k) b2 b3;have tn:tiny f m neg (ratio n 1 p)=decide (((n.log2:Int)+p-f.fbits)+(A7 (rounded m neg (ratioAt n 1 p ((n.log2:Int)+p-f.fbits))):Int)-1<1-f.bias):=by
  unfold tiny;have e0:(ratio n 1 p).above-1-(f.fbits:Int)=(n.log2:Int)+p-f.fbits:=by rw [Sk hn];lia
  rw [e0];show decide (((rounded m neg (ratioAt n 1 p ((n.log2:Int)+p-f.fbits))).log2:Int)+((n.log2:Int)+p-f.fbits) <1-f.bias)=_;have q1:2^f.fbits<=(ratioAt n 1 p ((n.log2:Int)+p-f.fbits)).1:=XM hn (by lia);have q2:0<rounded m neg (ratioAt n 1 p ((n.log2:Int)+p-f.fbits)):=by
   have :=Al f.fbits;rcases K4 m neg (ratioAt n 1 p ((n.log2:Int)+p-f.fbits))with h|h<;>lia
  rw [Fs q2];congr 1;apply propext;lia
 unfold round;rw [ep,tn];show(if f.infinity<=magnitude f (rounded m neg (ratioAt n 1 p k)) k then(beyond f m neg,OF+NX)else
  (signed f neg (magnitude f (rounded m neg (ratioAt n 1 p k)) k),if(ratioAt n 1 p k).2=0 then 0 else if(decide (((n.log2:Int)+p-f.fbits)+(A7 (rounded m neg (ratioAt n 1 p ((n.log2:Int)+p-f.fbits))):Int)-1<1-f.bias))=true then UF+NX else NX))=_
 simp only [ov,Bw]
def Sl(hE:2<=f.ebits)(hn:0<n)(hk:k=max ((n.log2:Int)+p) (1-f.bias)-f.fbits)
 (hx:ratioAt n 1 p k=(q,0))(hq:magnitude f q k<f.infinity):round f m neg (ratio n 1 p)=(signed f neg (magnitude f q k),0):=by
 have ep:=fh (f:=f) (p:=p) hn;rw [<-hk]at ep;have e1:rounded m neg (ratioAt n 1 p k)=q:=by rw [hx];exact Pu m neg rfl
 have e2:(ratioAt n 1 p k).2=0:=by rw [hx]
 unfold round;rw [ep];show(if f.infinity<=magnitude f (rounded m neg (ratioAt n 1 p k)) k then(beyond f m neg,OF+NX)else
  (signed f neg (magnitude f (rounded m neg (ratioAt n 1 p k)) k),if(ratioAt n 1 p k).2=0 then 0 else if tiny f m neg (ratio n 1 p)=true then UF+NX else NX))=_
 rw [e1,e2,AD (by lia),AG rfl]
def A0(f:Fmt)(b:Nat):Nat:=b%f.signBit
def fj(f:Fmt):f.signBit=2^f.ebits*2^f.fbits:=by unfold p_;rw [Ap]
def F7(f:Fmt)(b:Nat):fracOf f b<2^f.fbits:=Dg _ (Al _)
def Sm(f:Fmt)(b:Nat):expoOf f b<2^f.ebits:=Dg _ (Al _)
def G5(f:Fmt)(b:Nat):A0 f b=expoOf f b*2^f.fbits+fracOf f b:=by
 unfold A0 expoOf fracOf;rw [fj,Ar (2^f.ebits),Nat.mod_mul,Ar (2^f.fbits)];lia
def fk(f:Fmt)(b:Nat):A0 f b<f.signBit:=Dg _ (Al _)
def Pw(h:b<2*f.signBit):signed f (negOf f b) (A0 f b)=b:=by
 have hs:0<f.signBit:=Al _;have e:=Gy b f.signBit;have hd:b/f.signBit<2:=(E_ hs).mpr (by lia);unfold signed negOf A0;generalize hq:b/f.signBit=q at *
 have :q=0\/q=1:=by lia
 rcases this with z|z
 ·subst z;rw [AD (by decide)];rw [Vm]at e;lia
 ·subst z;rw [AG (by decide)];rw [Cc]at e;exact e
def vI(h:b<2*f.signBit):negOf f b=true↔f.signBit<=b:=by
 have hs:0<f.signBit:=Al _;have e:=Gy b f.signBit;have hm:=Dg b hs;have hd:b/f.signBit<2:=(E_ hs).mpr (by lia);unfold negOf;generalize hq:b/f.signBit=q at *
 have :q=0\/q=1:=by lia
 rcases this with z|z
 ·subst z;rw [Vm]at e;constructor
  ·intro q;cases q
  ·intro q;lia
 ·subst z;rw [Cc]at e;exact⟨fun _=>by lia,fun _=>rfl⟩
def Sn(f:Fmt):f.infinity+2^f.fbits=f.signBit:=by
 unfold M6;rw [fj,Lo,B1];have :1*2^f.fbits<=2^f.ebits*2^f.fbits:=B2 _ (Al _);lia
def So(h:expoOf f b≠2^f.ebits-1):A0 f b<f.infinity:=by
 have h1:=Sm f b;have h2:=F7 f b;rw [G5];unfold M6;have :(expoOf f b+1)*2^f.fbits<=(2^f.ebits-1)*2^f.fbits:=B2 _ (by lia);rw [D3]at this;lia
noncomputable def unitsOf(f:Fmt)(b:Nat):Nat:=if expoOf f b=0 then fracOf f b else(2^f.fbits+fracOf f b)*2^(expoOf f b-1)
def Ft(h:expoOf f b≠2^f.ebits-1):num f b=.fin (negOf f b) (if expoOf f b=0 then fracOf f b else 2^f.fbits+fracOf f b) (f.unit+((expoOf f b-1:Nat):Int)):=by
 unfold num;rw [AD h];by_cases c:expoOf f b=0
 ·rw [AG c,AG c,c];simp
 ·rw [AD c,AD c];congr 1;lia
def MK(h:expoOf f b=2^f.ebits-1):num f b=(if fracOf f b=0 then .inf (negOf f b)else .nan (decide (fracOf f b<2^(f.fbits-1)))):=by
 unfold num;rw [AG h]
def K5(h:num f b=.fin n m e):expoOf f b≠2^f.ebits-1:=by
 intro q;rw [MK q]at h;split at h<;>cases h
def vJ(n:Nat)(p:Int):ratioAt n 1 p p=(n,0):=by
 rw [Ci 0 0 (by lia),B7,Cc,Cc,bT,qA];rfl
def fo{f:Fmt}{md:Mode}{b:Nat}{n:Bool}{m:Nat}{e:Int}(hE:2<=f.ebits)(hb:b<2*f.signBit)(h:num f b=.fin n m e)(hm:m≠0):round f md n (ratio m 1 e)=(b,0):=by
 have hf:=K5 h;have Jb:=So hf;have hF:=F7 f b;rw [Ft hf]at h;injection h with h1 h2 h3
 have hu:f.unit=1-f.bias-(f.fbits:Int):=rfl;have mg:magnitude f m e=A0 f b:=by
  unfold magnitude;rw [G5,<-h2,<-h3];have e0:(f.unit+((expoOf f b-1:Nat):Int)-f.unit).toNat=expoOf f b-1:=by lia
  rw [e0];by_cases c:expoOf f b=0
  ·rw [AG c,c]
  ·rw [AD c];obtain⟨x,hx⟩: ∃x,expoOf f b=x+1:=⟨expoOf f b-1,by lia⟩;rw [hx,Kf,D3];lia
 have lg:e=max ((m.log2:Int)+e) (1-f.bias)-f.fbits:=by
  by_cases c:expoOf f b=0
  ·rw [AG c]at h2;rw [c]at h3;have :m.log2<f.fbits:=(Jj hm).mpr (by lia);lia
  ·rw [AD c]at h2;have :m.log2=f.fbits:=Si (by lia) (by rw [CQ];lia);lia
 have :=Sl (f:=f) (m:=md) (neg:=n) hE (by lia:0<m) lg (vJ m e) (by rw [mg];exact Jb);rw [this,mg,<-h1,Pw hb]
def fq{f:Fmt}{b:Nat}:unitsOf f b<2^(f.fbits+expoOf f b)/\(expoOf f b≠0->2^(f.fbits+(expoOf f b-1))<=unitsOf f b):=by
 have h:=F7 f b;unfold unitsOf;by_cases c:expoOf f b=0
 ·rw [AG c,c];exact⟨by simpa using h,fun q=>absurd rfl q⟩
 ·rw [AD c];obtain⟨x,hx⟩: ∃x,expoOf f b=x+1:=⟨expoOf f b-1,by lia⟩;rw [hx,Kf];refine⟨?_,fun _=>?_⟩
  ·rw [show f.fbits+(x+1)=(f.fbits+1)+x by lia,Ap 2 (f.fbits+1)];refine(Gw (Al x)).mpr ?_;rw [CQ];lia
  ·rw [Ap];exact B2 _ (by lia)
def Sr{f:Fmt}{a b:Nat}:A0 f a<A0 f b↔unitsOf f a<unitsOf f b:=by
 have key: ∀{a b:Nat},A0 f a<A0 f b->unitsOf f a<unitsOf f b:=fun {a b} h=>by
  have ha:=F7 f a;have hb:=F7 f b;obtain⟨a1,a2⟩:= @fq f a;obtain⟨b1,b2⟩:= @fq f b;rw [G5,G5]at h;rcases HG (expoOf f a) (expoOf f b)with q|q|q
  ·have :=b2 (by lia);have :=CG (a:=f.fbits+expoOf f a) (b:=f.fbits+(expoOf f b-1)) (by lia);lia
  ·rw [q]at h;have hf:fracOf f a<fracOf f b:=by lia
   unfold unitsOf;rw [q];by_cases c:expoOf f b=0
   ·rw [AG c,AG c];exact hf
   ·rw [AD c,AD c];exact(Gw (Al _)).mpr (by lia)
  ·exfalso;have :(expoOf f b+1)*2^f.fbits<=expoOf f a*2^f.fbits:=B2 _ q;rw [D3]at this;lia
 constructor
 ·exact key
 ·intro h;rcases HG (A0 f a) (A0 f b)with q|q|q
  ·exact q
  ·exfalso;have e1:expoOf f a=expoOf f b/\fracOf f a=fracOf f b:=by
    rw [G5,G5]at q;have ha:=F7 f a;have hb:=F7 f b;have d1:(expoOf f a*2^f.fbits+fracOf f a)/2^f.fbits=expoOf f a:=by rw [Ar,Vp (Al _),FW ha,Iq]
    have d2:(expoOf f b*2^f.fbits+fracOf f b)/2^f.fbits=expoOf f b:=by rw [Ar,Vp (Al _),FW hb,Iq]
    have e1:expoOf f a=expoOf f b:=by rw [<-d1,<-d2,q]
    rw [e1]at q;exact⟨e1,by lia⟩
   have :unitsOf f a=unitsOf f b:=by unfold unitsOf;rw [e1.1,e1.2]
   lia
  ·have :=key q;lia
noncomputable def Ck(f:Fmt)(b:Nat):Int:=if negOf f b=true then -((A0 f b:Nat):Int)else((A0 f b:Nat):Int)
def ft(h:num f b=.fin n m e)(hk:k<=e):whole n m e k*((2^(k-f.unit).toNat:Nat):Int)=(if n=true then -((unitsOf f b:Nat):Int)else((unitsOf f b:Nat):Int))\/k<f.unit:=by
 rcases Gx k f.unit with q|q
 ·exact .inr q
 ·left;have hf:=K5 h;rw [Ft hf]at h;injection h with h1 h2 h3
  have e1:m*2^(e-k).toNat*2^(k-f.unit).toNat=unitsOf f b:=by
   rw [A6,<-Ap,<-h2,show(e-k).toNat+(k-f.unit).toNat=expoOf f b-1 by lia];unfold unitsOf;by_cases c:expoOf f b=0
   ·rw [AG c,AG c,c,B7,Cc]
   ·rw [AD c,AD c]
  unfold whole;cases n
  ·rw [AD (by decide),AD (by decide),<-e1,Fl (m*_)]
  ·rw [AG rfl,AG rfl,<-e1,Fl (m*_),Int.neg_mul]
def vK(ha:num f a=.fin s x d)(hb:num f b=.fin t y e):
 (whole s x d (min d e) <whole t y e (min d e)↔Ck f a<Ck f b)/\(whole s x d (min d e)=whole t y e (min d e)↔Ck f a=Ck f b):=by
 have fa:=K5 ha;have fb:=K5 hb;have ua:f.unit<=d:=by
  rw [Ft fa]at ha;injection ha with _ _ h3
  lia
 have ub:f.unit<=e:=by
  rw [Ft fb]at hb;injection hb with _ _ h3
  lia
 have wa:=(ft ha (Int.min_le_left d e)).resolve_right (by lia);have wb:=(ft hb (Int.min_le_right d e)).resolve_right (by lia);have sa:s=negOf f a:=by
  rw [Ft fa]at ha;injection ha with h1
  exact h1.symm
 have sb:t=negOf f b:=by
  rw [Ft fb]at hb;injection hb with h1
  exact h1.symm
 have P:(0:Int) < ((2^(min d e-f.unit).toNat:Nat):Int):=by have :=Al (min d e-f.unit).toNat;lia
 generalize ((2^(min d e-f.unit).toNat:Nat):Int)=p at *
 generalize whole s x d (min d e)=A at *
 generalize whole t y e (min d e)=B at *
 have l1:A<B↔A*p<B*p:=⟨fun h=>Int.mul_lt_mul_of_pos_right h P,fun h=>Int.lt_of_mul_lt_mul_right h (Int.le_of_lt P)⟩;have l2:A=B↔A*p=B*p:=⟨fun h=>by rw [h],fun h=>Int.eq_of_mul_eq_mul_right (by lia) h⟩;rw [l1,l2,wa,wb,sa,sb];unfold Ck;have m1:= @Sr f a b;have m2:= @Sr f b a;have z1:unitsOf f a=0↔A0 f a=0:=by
  have := @Sr f 0 a;have z:A0 f 0=0/\unitsOf f 0=0:=⟨by unfold A0;exact bU _,by unfold unitsOf expoOf fracOf;simp⟩;lia
 have z2:unitsOf f b=0↔A0 f b=0:=by
  have := @Sr f 0 b;have z:A0 f 0=0/\unitsOf f 0=0:=⟨by unfold A0;exact bU _,by unfold unitsOf expoOf fracOf;simp⟩;lia
 cases negOf f a<;>cases negOf f b<;>simp only [E8,GQ,Jh]<;>lia
def Ss(h:num f b=.inf n):A0 f b=f.infinity/\n=negOf f b:=by
 by_cases c:expoOf f b=2^f.ebits-1
 ·rw [MK c]at h;by_cases d:fracOf f b=0
  ·rw [AG d]at h;injection h with h1
   refine⟨?_,h1.symm⟩;rw [G5,c,d,Iq];rfl
  ·rw [AD d]at h;cases h
 ·rw [Ft c]at h;cases h
def fu{f:Fmt}(hE:2<=f.ebits):0<f.infinity:=by
 unfold M6;have :=CG (a:=2) (b:=f.ebits) hE;exact BN (by lia) (Al _)
def fw(h:num f b=.fin n m e):n=negOf f b/\A0 f b<f.infinity:=by
 have hf:=K5 h;have :=So hf;rw [Ft hf]at h;injection h with h1
 exact⟨h1.symm,this⟩
def XO(hE:2<=f.ebits)(ha:isNan (num f a)=false)(hb:isNan (num f b)=false):less (num f a) (num f b)=decide (Ck f a<Ck f b)/\equal (num f a) (num f b)=decide (Ck f a=Ck f b):=by
 have hi:=fu hE;cases hx:num f a with
 |nan s=>rw [hx]at ha;cases ha
 |inf s=>
  obtain⟨m1,s1⟩:=Ss hx;cases hy:num f b with
  |nan t=>rw [hy]at hb;cases hb
  |inf t=>
   obtain⟨m2,s2⟩:=Ss hy;subst s1 s2;unfold less equal Ck;rw [m1,m2];cases negOf f a<;>cases negOf f b<;>simp<;>lia
  |fin t y e=>
   obtain⟨s2,m2⟩:=fw hy;subst s1 s2;unfold less equal Ck;rw [m1];cases negOf f a<;>cases negOf f b<;>simp<;>lia
 |fin s x d=>
  obtain⟨s1,m1⟩:=fw hx;cases hy:num f b with
  |nan t=>rw [hy]at hb;cases hb
  |inf t=>
   obtain⟨m2,s2⟩:=Ss hy;subst s1 s2;unfold less equal Ck;rw [m2];cases negOf f a<;>cases negOf f b<;>simp<;>lia
  |fin t y e=>
   obtain⟨c1,c2⟩:=vK hx hy;unfold less equal;constructor
   ·simp only [c1]
   ·simp only [c2]
end QM
namespace Q3
open PySem PySem.Spec PyProof.Rows L2
open Qu (Fmt Num)
def FN{i j:Int}{A B:Prop}(h1:i=j->A)(h2:i≠j->B):if decide (V.int i=V.int j)=true then A else B:=by
 by_cases h:i=j
 ·rw [AG (by rw [h];exact Bi rfl)];exact h1 h
 ·rw [AD (by intro q;exact h (V.int.inj (Au q)))];exact h2 h
def J0{p A B:Prop}[Decidable p](h1:p->A)(h2: ¬p->B):if decide p=true then A else B:=by
 by_cases h:p
 ·rw [AG (Bi h)];exact h1 h
 ·rw [AD (by intro q;exact h (Au q))];exact h2 h
def D6{b:Bool}{A B:Prop}(h1:b=true->A)(h2:b=false->B):if b=true then A else B:=by
 cases b
 ·exact JH (h2 rfl)
 ·exact ID (h1 rfl)
def K6:decide (V.int i=V.int j)=decide (i=j):=by
 by_cases h:i=j
 ·rw [h,Bi rfl,Bi rfl]
 ·rw [Bh h,Bh (fun q=>h (V.int.inj q))]
def Ev(t:TE)(σ:L2.St)(H:Hp)(v:V):Prop:= ∀Q:VK,Q v H->t σ H Q
def DK(t:TT)(σ:L2.St)(H:Hp)(b:Bool):Prop:= ∀Q:Bool->Hp->Prop,Q b H->t σ H Q
section
variable{ta tb:TE}{tc:TT}{σ:L2.St}{H:Hp}
def AH(h:σ[i]? =some (some v)):Ev (Aa i) σ H v:=fun Q q=>⟨v,h,q⟩
def AI:Ev (tC v) σ H v:=fun Q q=>q
def A1(ha:Ev ta σ H (.int i))(hb:Ev tb σ H (.int j)):Ev (Br (Dv g) ta tb) σ H (g i j):=fun Q q=>ha _ (hb _ ⟨i,j,rfl,rfl,q⟩)
def BS(ha:Ev ta σ H (.int i))(hb:Ev tb σ H (.int j))(hc:C i j):Ev (Br (rI C g) ta tb) σ H (g i j):=fun Q q=>ha _ (hb _ ⟨i,j,rfl,rfl,hc,q⟩)
def CO{g:Int->Int->Bool}{i j:Int}(ha:Ev ta σ H (.int i))(hb:Ev tb σ H (.int j)):Ev (Br (Dv fun i j=>.bl (g i j)) ta tb) σ H (.bl (g i j)):=fun Q q=>ha _ (hb _ ⟨i,j,rfl,rfl,q⟩)
def An(ha:Ev ta σ H (.int i))(hb:Ev tb σ H (.int j)):Ev (Br PJ ta tb) σ H (.bl (decide (i=j))):=fun Q q=>ha _ (hb _ ⟨rfl,by rw [K6];exact q⟩)
def Mh(ha:Ev ta σ H (.int i))(hb:Ev tb σ H (.int j)):Ev (Br cp ta tb) σ H (.bl (!decide (i=j))):=fun Q q=>ha _ (hb _ ⟨rfl,by rw [K6];exact q⟩)
def Uh(ha:Ev ta σ H (.bl p))(hb:Ev tb σ H (.bl q)):Ev (cU ta tb) σ H (.bl (p||q)):=fun Q k=>ha _ ⟨p,rfl,by
 cases p
 ·exact JH (hb _ k)
 ·exact ID k⟩
def OD(ha:Ev ta σ H (.bl p))(hb:Ev tb σ H (.bl q)):Ev (cT ta tb) σ H (.bl (p&&q)):=fun Q k=>ha _ ⟨p,rfl,by
 cases p
 ·exact JH k
 ·exact ID (hb _ k)⟩
def B5(hc:DK tc σ H b)(h1:b=true->Ev ta σ H v)(h2:b=false->Ev tb σ H v):Ev (Kq tc ta tb) σ H v:=fun Q q=>hc _ (by
 cases b
 ·exact JH (h2 rfl _ q)
 ·exact ID (h1 rfl _ q))
def Ej(h:Ev ta σ H (.bl b)):DK (tB ta) σ H b:=fun Q q=>h _ ⟨b,rfl,q⟩
def Ac(h:Ev ta σ H (.bl b)):DK (JF ta) σ H b:=fun Q q=>h _ ⟨b,rfl,q⟩
def OE{K:Aj}(ha:Ev ta σ H (.ref a))(hb:Ev tb σ H (.int i))(hs:B9 K H a xs)(hv:DX xs i=some v):Ev (Br (Ku K) ta tb) σ H v:=fun Q q=>ha _ (hb _ ⟨a,xs,i,v,rfl,rfl,hs,hv,q⟩)
def Ek{K:Aj}(ha:Ev ta σ H (.ref a))(hb:Ev tb σ H (.int i))(hs:B0 K H a xs)(hv:DX xs i=some v):Ev (Br (JG K) ta tb) σ H v:=fun Q q=>ha _ (hb _ ⟨a,xs,i,v,rfl,rfl,hs,hv,q⟩)
def wA{K:Aj}(hl:H a=some (.lst xs))(h1:σ[j]? =some (some (.ref a)):=by exact rfl)(hv:DX xs i=some v:=by exact rfl):Ev (Br (JG K) (Aa j) (tC (.int i))) σ H v:=Ek (AH h1) AI (BL hl) hv
def Ax{K:Aj}(ha:Ev ta σ H (.ref a))(hH:H a=some (.ins C dx fs))(cl:F4 K C)(na:FH K C f)(hv:fs.lookup f=some v):Ev (BJ K ta f) σ H v:=
 fun Q q=>ha _ ⟨a,C,dx,fs,v,rfl,hH,cl,na,hv,q⟩
def Ev.un(ha:Ev ta σ H (.int i)):Ev (cj (rU g) ta) σ H (g i):=fun Q q=>ha _ ⟨i,rfl,q⟩
def KL(ha:DK t σ H p)(hb:DK u σ H q):DK (WJ t u) σ H (p&&q):=fun Q k=>ha _ (by
 cases p
 ·exact JH k
 ·exact ID (hb _ k))
def GD(ha:DK t σ H p)(hb:DK u σ H q):DK (cR t u) σ H (p||q):=fun Q k=>ha _ (by
 cases p
 ·exact JH (hb _ k)
 ·exact ID k)
def lr(ha:DK t σ H p):DK (cS t) σ H (!p):=fun Q k=>ha _ k
def DK.to(h:DK t σ H b)(e:b=b'):DK t σ H b':=e▸h
def IL(h:DK tc σ H b)(h1:b=true->t D σ H)(h2:b=false->u D σ H):O6 tc t u D σ H:=h _ (by
 cases b
 ·exact JH (h2 rfl)
 ·exact ID (h1 rfl))
def BD(h:Ev te σ H v)(k:u D (σ.set i (some v)) H):NM (NO te (HN i)) u D σ H:=h _ k
def G6(h:DK tc σ H b)(h1:b=true->t {D with nx:=r D} σ H)(h2:b=false->u {D with nx:=r D} σ H):NM (O6 tc t u) r D σ H:=IL h h1 h2
def Bf(h:DK tc σ H b)(h1:b=true->t {D with nx:=r D} σ H)(h2:b=false->r D σ H):NM (O6 tc t WK) r D σ H:=IL h h1 h2
def EU(h:Ev te σ H v)(k:D.rt v H):Jt te D σ H:=h _ k
def Ev.to(h:Ev t σ H v)(e:v=v'):Ev t σ H v':=e▸h
end
def Fu(K:Aj)(H:Hp)(a:Addr)(f:Fmt):Prop:=B9 K H a [.int (f.ebits:Int),.int (f.fbits:Int)]/\2<=f.ebits/\f.ebits<=15/\2<=f.fbits/\f.fbits<=112
def AQ.tup{K:Aj}(e:AQ H H')(h:B9 K H a xs):B9 K H' a xs:=by
 rcases h with(h|⟨o,h⟩)|h
 ·exact .inl (.inl (e _ _ h))
 ·exact .inl (.inr ⟨o,e _ _ h⟩)
 ·exact .inr h
def KN(H:Hp):AQ H H:=fun _ _ h=>h
def AQ.new(h:H a=none):AQ H (upd H a o):=fun b u e=>by rw [BC (D4 e h)];exact e
def Su:DX [x,y] 0=some x:=rfl
def K7:DX [x,y] 1=some y:=rfl
def Sv:Sp:=fun vs H Q _=> ∃i:Int,vs=[.int i]/\(0<=i/\i<=2000000)/\Q (.int (1*2^i.toNat-1)) H
def vL(K:Aj):Sp:=fun vs H Q _=> ∃a f,vs=[.ref a]/\Fu K H a f/\Q (.int f.bias) H
def vM{f:Fmt}(h:2<=f.ebits):(1*2^((f.ebits:Int)-1).toNat-1:Int)=f.bias:=by
 have e:((f.ebits:Int)-1).toNat=f.ebits-1:=by lia
 rw [e,Hq];unfold p7;have :=BR (f.ebits-1);rw [Ve (by lia),Gu];rfl
def Np(h:0<=j/\j<=2000000):MD 1 j:=⟨h.1,by lia,by decide⟩
section
def Fv:Df "ones" 1 ["bits"] Sv:=by
 refine(AW 0 rfl).go ["bits"] ?_;rintro _ _ _ _ _ _ _ H _ Q _ _ ⟨n,rfl,hn,k⟩;refine⟨_,(pR (AK BP (AK DF AE (pv 0)) AE)),?_⟩;exact⟨_,rfl,_,_,rfl,rfl,Np hn,_,_,rfl,rfl,k⟩
def Px:Df "bias" 2 ["form"] (vL K):=by
 refine(AW 1 rfl).go ["form"] ?_;rintro _ _ f _ _ _ _ H _ Q _ hr ⟨a,f,rfl,hf,k⟩;refine⟨_,(pR (pD hr Fv (AB (AK BP (AY Dx (pv 0) AE) AE) AL))),?_⟩;refine⟨_,rfl,_,_,_,_,rfl,rfl,hf.1,Su,_,_,rfl,rfl,_,rfl,⟨by have :=hf.2;lia,by have :=hf.2;lia⟩,?_⟩;rw [vM hf.2.1];exact k
end
noncomputable def PF(k s z e:Int):List (Str×V):=C6 "power" (.int e) (C6 "size" (.int z) (C6 "sign" (.int s) (C6 "kind" (.int k) [])))
def DQ:(PF k s z e).lookup ("power":Str)=some (.int e):=by
 unfold PF;rw [DJ,AG rfl]
def EV:(PF k s z e).lookup ("size":Str)=some (.int z):=by
 unfold PF;rw [DJ,AD (by decide+kernel),DJ,AG rfl]
def DR:(PF k s z e).lookup ("sign":Str)=some (.int s):=by
 unfold PF;rw [DJ,AD (by decide+kernel),DJ,AD (by decide+kernel),DJ,AG rfl]
def C3:(PF k s z e).lookup ("kind":Str)=some (.int k):=by
 unfold PF;rw [DJ,AD (by decide+kernel),DJ,AD (by decide+kernel),DJ,AD (by decide+kernel),DJ,AG rfl]
def G7(f:Str)(y:V): ∀fs:List (Str×V),(C6 f y fs).length<=fs.length+1
 | []=>BO _
 | (g,z)::r=>by
  unfold C6;split
  ·exact Nat.le_succ _
  ·exact M7 (G7 f y r)
noncomputable def sg(n:Bool):Int:=if n=true then 1 else 0
def XQ(h:s=0\/s=1):s=sg (decide (s=1)):=by
 rcases h with h|h<;>subst h<;>rfl
def ML(k s z e:Int)(x:Num):Prop:=match x with
 |.fin n m p=>k=(if m=0 then 0 else 1)/\s=sg n/\z=(m:Int)/\e=p
 |.inf n=>k=2/\s=sg n
 |.nan q=>k=(if q=true then 4 else 3)/\(s=0\/s=1)
def BY(C:Addr)(H:Hp)(a:Addr)(x:Num):Prop:= ∃dx k s z e,H a=some (.ins C dx (PF k s z e))/\ML k s z e x
def BY.same(h:BY C H a x)(e:AQ H H'):BY C H' a x:=by
 obtain⟨dx,k,s,z,p,h1,h2⟩:=h;exact⟨dx,k,s,z,p,e _ _ h1,h2⟩
structure vN(K:Aj)(C:Addr):Prop where
 cl:F4 K C
 kind:FH K C "kind"
 sign:FH K C "sign"
 size:FH K C "size"
 power:FH K C "power"
abbrev fx:Stmt:=FD (top 7) 0
def Py(C:Addr):Sp:=fun vs H Q _=> ∃p dx k s z e,vs=[.ref p,.int k,.int s,.int z,.int e]/\H p=some (.ins C dx [])/\
 ∀H':Hp,H' p=some (.ins C dx (PF k s z e))->(∀b o,H b=some o->b≠p->H' b=some o)->Q .BZ H'
def MM{C:Addr}{H:Hp}{x dx:Addr}{k s z e:Int}{Q:VK}(nx:H x=none)(nd:H dx=none)(ne:dx≠x)(h: ∀H',H' x=some (.ins C dx (PF k s z e))->AQ H H'->Q (.ref x) H'):
 Py C [.ref x,.int k,.int s,.int z,.int e] (upd (upd H dx (.own x)) x (.ins C dx [])) (fun v H2=>v=.BZ/\Q (.ref x) H2) E0:=
 ⟨x,dx,k,s,z,e,rfl,AZ,fun H' e1 kp=>⟨rfl,h H' e1 (Qb nx nd kp)⟩⟩
abbrev Pz:List Str:=["self","kind","sign","size","power"]
section
variable{C:Addr}
def vO:IC L2.K "__init__" "Parts.__init__" fx Pl Sa:=K2 (by kernel_rfl)
def AN:vN L2.K CP:=⟨SS (by kernel_rfl),II (by kernel_rfl),II (by kernel_rfl),II (by kernel_rfl),II (by kernel_rfl)⟩
def vP:mg "Parts"=some (.ref CP):=rat 0 rfl
def vQ:Mk L2.K CP Pl:=SU (by kernel_rfl)
def vR:Binds L2.K Sa Pz []:=MG (by kernel_rfl)
def vS:C_ Fq 1 Pl Sa Pz (Py CP):=by
 have S:Bj Pz Pz (Cw fx):=fS;refine vO.ok S (by rintro _ _ _ _ ⟨_,_,_,_,_,_,rfl,_⟩;rfl) (fun _ _ _ _ s H vs Q E hr h=>?_);obtain⟨p,dx,k,s,z,e,rfl,hp,q⟩:=h;refine⟨_,AJ (Hz (pv 0) (pv 1) rfl) (AJ (Hz (pv 0) (pv 2) rfl) (AJ (Hz (pv 0) (pv 3) rfl) (Cj (Hz (pv 0) (pv 4) rfl)))),?_⟩;refine⟨_,rfl,_,rfl,p,CP,dx,_,rfl,hp,AN.cl,AN.kind,dd,_,rfl,_,rfl,p,CP,dx,_,rfl,AZ,AN.cl,AN.sign,Cb (G7 _ _ _) dd,_,rfl,_,rfl,p,CP,dx,_,rfl,AZ,AN.cl,AN.size,Cb (G7 _ _ _) (Cb (M7 (G7 _ _ _)) dd),
  _,rfl,_,rfl,p,CP,dx,_,rfl,AZ,AN.cl,AN.power,Cb (G7 _ _ _) (Cb (M7 (G7 _ _ _)) (Cb (M7 (M7 (G7 _ _ _))) dd)),?_⟩
 exact q _ AZ fun b o e hb=>by rw [BC hb,BC hb,BC hb,BC hb];exact e
def IM:Cl "Parts" CP 1 Pz (Py CP):=⟨vP,Pl,Sa,vQ,vS,vR⟩
def XR(C:Addr):Sp:=fun vs H Q _=> ∃s z e,vs=[.int s,.int z,.int e]/\(s=0\/s=1)/\0<=z/\ ∀H' a,BY C H' a (.fin (decide (s=1)) z.toNat e)->AQ H H'->Q (.ref a) H'
def Nq:B_ mg "FINITE" 1:=CV 0 rfl
def Hb:B_ mg "ZERO" 0:=CV 1 rfl
def Fe:Df "finite" 3 ["sign","size","power"] (XR CP):=by
 refine(AW 2 rfl).go ["sign","size","power"] ?_;rintro _ _ _ _ _ _ _ H _ Q _ hr ⟨s,z,e,rfl,hs,hz,q⟩;refine⟨_,(pR (pC hr IM (AB (Bq (AX Ef (pv 1) AE) (pG Nq) (pG Hb)) (pW 0 (pW 1 (pO 2)))))),?_⟩;refine⟨_,rfl,_,_,rfl,rfl,_,rfl,J0 (fun h=>?_) (fun h=>?_)⟩
 ·refine⟨_,rfl,_,rfl,_,rfl,fun x dx nx nd ne=>MM nx nd ne fun H' e1 s1=>q H' x ⟨dx,_,_,_,_,e1,?_,XQ hs,(FA hz).symm,rfl⟩ s1⟩;rw [AD (by lia)]
 ·refine⟨_,rfl,_,rfl,_,rfl,fun x dx nx nd ne=>MM nx nd ne fun H' e1 s1=>q H' x ⟨dx,_,_,_,_,e1,?_,XQ hs,(FA hz).symm,rfl⟩ s1⟩;rw [AG (by lia)]
def vT(C:Addr):Sp:=fun vs H Q _=> ∃s z b,vs=[.int s,.int z,.int b]/\(s=0\/s=1)/\(0<=z/\z.toNat<2^b.toNat)/\1<=b/\
 ∀H' a,BY C H' a (if z.toNat=0 then .inf (decide (s=1))else .nan (decide (z.toNat<2^(b.toNat-1))))->AQ H H'->Q (.ref a) H'
def vU{z:Int}{b:Nat}(h0:0<=z)(h:z.toNat<2^b)(hb:1<=b):z/2^(b-1)=1↔ ¬z.toNat<2^(b-1):=by
 obtain⟨n,rfl⟩: ∃n:Nat,z=(n:Int):=⟨z.toNat,by lia⟩;rw [Am]at h⊢;rw [IF];obtain⟨c,rfl⟩: ∃c,b=c+1:=⟨b-1,by lia⟩;rw [Kf];rw [CQ]at h;have p:=BR c;constructor
 ·intro q z;rw [FW z]at q;lia
 ·intro q;have e1:1<=n/2^c:=(DN p).mpr (by lia);have e2:n/2^c<2:=(E_ p).mpr (by lia);lia
def D7:B_ mg "INFINITE" 2:=CV 2 rfl
def Nr:B_ mg "QUIET" 3:=CV 3 rfl
def J1:B_ mg "SIGNALING" 4:=CV 4 rfl
def fy:
 Df "beyond_finite" 3 ["sign","fraction","fraction_bits"] (vT CP):=by
 refine(AW 3 rfl).go ["sign","fraction","fraction_bits"] ?_;rintro _ _ _ _ _ _ _ H _ Q _ hr ⟨s,z,b,rfl,hs,hz,hb,q⟩;refine⟨_,(AJ (Ag (AX Ae (pv 1) AE) (pR (pC hr IM (AB (pG D7) (pW 0 (AB AE (AB AE AL)))))) Ai)
  (AJ (Ag (AX Ae (AK GZ (pv 1) (AK BP (pv 2) AE)) AE) (pR (pC hr IM (AB (pG Nr) (pW 0 (AB AE (AB AE AL)))))) Ai)
  (pR (pC hr IM (AB (pG J1) (pW 0 (AB AE (AB AE AL)))))))),?_⟩
 refine⟨_,rfl,rfl,_,rfl,FN (fun h=>?_) (fun h=>?_)⟩
 ·rw [AG (by lia)]at q;exact⟨_,rfl,fun x dx nx nd ne=>MM nx nd ne fun H' e1 s1=>q H' x ⟨dx,_,_,_,_,e1,rfl,XQ hs⟩ s1⟩
 ·rw [AD (by lia)]at q;have tb:=vU hz.1 hz.2 (by lia);have eb:(b-1).toNat=b.toNat-1:=by lia
  refine⟨_,rfl,_,rfl,_,_,rfl,rfl,_,_,rfl,rfl,(by show(0:Int)<=b-1;lia),rfl,_,rfl,FN (fun h2=>?_) (fun h2=>?_)⟩
  ·rw [eb]at h2;exact⟨_,rfl,fun x dx nx nd ne=>MM nx nd ne fun H' e1 s1=>q H' x ⟨dx,_,_,_,_,e1,by rw [Bh (tb.mp h2)];rfl,hs⟩ s1⟩
  ·rw [eb]at h2;exact⟨_,rfl,fun x dx nx nd ne=>MM nx nd ne fun H' e1 s1=>q H' x ⟨dx,_,_,_,_,e1,by rw [Bi (RU fun z=>h2 (tb.mpr z))];rfl,hs⟩ s1⟩
def vV(C:Addr)(K:Aj):Sp:=fun vs H Q _=> ∃a f b,vs=[.ref a,.int b]/\Fu K H a f/\(0<=b/\b.toNat<2*f.signBit)/\
 ∀H' p,BY C H' p (AU f b.toNat)->AQ H H'->Q (.ref p) H'
def fz:
 Df "take_apart" 4 ["form","bits"] (vV CP K):=by
 refine(AW 4 rfl).go ["form","bits","exponent_bits","fraction_bits","fraction","field","sign"] ?_;rintro S _ _ _ _ _ _ H _ Q _ hr ⟨a,f,b,rfl,hf,hb,q⟩;obtain⟨n,rfl⟩: ∃n:Nat,b=(n:Int):=⟨b.toNat,by lia⟩;rw [Am]at hb q;have hn:=hb.2;obtain⟨hq,e1,e2,e3,e4⟩:=id hf;refine⟨_,(AJ (pS 2 S (AY Dx (pv 0) AE)) (AJ (pS 3 S (AY Dx (pv 0) AE))
  (AJ (pS 4 S (AK EH (pv 1) (pD hr Fv (pO 3))))
  (AJ (pS 5 S (AK EH (AK GZ (pv 1) (pv 3)) (pD hr Fv (pO 2))))
  (AJ (pS 6 S (AK GZ (pv 1) (AK BX (pv 2) (pv 3))))
  (AJ (Ag (AX Ae (pv 5) (pD hr Fv (pO 2))) (pR (pD hr fy (pW 6 (pW 4 (pO 3))))) Ai)
  (AJ (Ag (AX Ae (pv 5) AE) (pR (pD hr Fe (pW 6 (pW 4 (AB (AK BP (AK BP AE (pD hr Px (pO 0))) (pv 3)) AL))))) Ai)
  (pR (pD hr Fe (pW 6 (AB (AK BX (pv 4) (AK DF AE (pv 3))) (AB (AK BP (AK BP (pv 5) (pD hr Px (pO 0))) (pv 3)) AL)))))))))))),?_⟩
 refine⟨_,rfl,_,_,_,_,rfl,rfl,hq,Su,_,rfl,_,_,_,_,rfl,rfl,hq,K7,?_⟩;refine⟨_,rfl,_,rfl,_,rfl,⟨by lia,by lia⟩,_,_,rfl,rfl,?_⟩;refine⟨_,rfl,_,rfl,_,_,rfl,rfl,(by show(0:Int)<=f.fbits;lia),_,rfl,_,rfl,⟨by lia,by lia⟩,_,_,rfl,rfl,?_⟩;refine⟨_,rfl,_,rfl,_,rfl,_,_,rfl,rfl,_,_,rfl,rfl,(by show(0:Int)<=f.ebits+f.fbits;lia),?_⟩;have ef:((f.ebits:Int)+f.fbits).toNat=f.ebits+f.fbits:=by lia
 simp only [Am,ef,IF,ME];have x1:n%2^f.fbits=Lp f n:=rfl;have x2:n/2^f.fbits%2^f.ebits=F2 f n:=rfl;have x3:((n/2^(f.ebits+f.fbits):Nat):Int)=sg (Bt f n):=by
  have hs:n/2^(f.ebits+f.fbits) <2:=(E_ (BR _)).mpr (by have h2:n<2*2^(f.ebits+f.fbits):=hn;lia);unfold Bt p_ sg;generalize n/2^(f.ebits+f.fbits)=y at *
  have :y=0\/y=1:=by lia
  rcases this with z|z<;>subst z<;>rfl
 rw [x1,x2,x3];have LY:=QM.F7 f n;have hex:=QM.Sm f n;have Zf:sg (Bt f n)=0\/sg (Bt f n)=1:=by cases Bt f n<;>simp [sg]
 have CL:decide (sg (Bt f n)=1)=Bt f n:=by cases Bt f n<;>rfl
 have pw:=BR f.ebits;have m9:(1*2^f.ebits-1:Int)=((2^f.ebits-1:Nat):Int):=by
  rw [Hq,Ve (by lia),Gu];rfl
 refine⟨_,rfl,_,rfl,_,rfl,⟨by lia,by lia⟩,rfl,_,rfl,FN (fun h=>?_) (fun h=>?_)⟩
 ·have h':F2 f n=2^f.ebits-1:=by
   have :=h.trans m9;lia
  refine⟨_,rfl,_,rfl,_,rfl,_,_,_,rfl,Zf,⟨by lia,by rw [Am,Am];exact LY⟩,by lia,?_⟩;rw [QM.MK h']at q;simp only [Am,CL];exact q
 ·have h':F2 f n≠2^f.ebits-1:=fun z=>h (by show((F2 f n:Nat):Int)=1*2^f.ebits-1;rw [m9,z])
  rw [QM.Ft h']at q;refine⟨_,rfl,rfl,_,rfl,FN (fun h2=>?_) (fun h2=>?_)⟩
  ·have Fy:F2 f n=0:=by lia
   refine⟨_,rfl,_,rfl,_,rfl,_,_,rfl,hf,_,_,rfl,rfl,_,rfl,_,_,rfl,rfl,_,_,_,rfl,Zf,by lia,?_⟩;simp only [Am,CL];rw [AG Fy,Fy]at q;have e:Vo f+((0-1:Nat):Int)=1-f.bias-f.fbits:=by unfold Vo;lia
   rw [e]at q;exact q
  ·have Fy:F2 f n≠0:=by lia
   refine⟨_,rfl,_,rfl,_,rfl,_,_,rfl,rfl,Np ⟨by lia,by lia⟩,_,_,rfl,rfl,_,rfl,_,rfl,_,_,rfl,hf,_,_,rfl,rfl,_,rfl,_,_,rfl,rfl,_,_,_,rfl,Zf,?_,?_⟩
   ·have :=BR f.fbits;have e:(1*2^(f.fbits:Int).toNat:Int)=((2^f.fbits:Nat):Int):=by rw [Am,Hq,Gu];rfl
    rw [e];lia
   ·rw [AD Fy]at q;have e:((Lp f n:Int)+1*2^(f.fbits:Int).toNat).toNat=2^f.fbits+Lp f n:=by
     have e:(1*2^(f.fbits:Int).toNat:Int)=((2^f.fbits:Nat):Int):=by rw [Am,Hq,Gu];rfl
     rw [e];lia
    rw [e,CL];have e2:Vo f+((F2 f n-1:Nat):Int)=(F2 f n:Int)-f.bias-f.fbits:=by unfold Vo;lia
    rw [e2]at q;exact q
def vW(C:Addr):Sp:=fun vs H Q _=> ∃a x t,vs=[.ref a,.int t]/\BY C H a x/\(t=0\/t=1)/\
 ∀H' p,BY C H' p (if t=1 then bV x else x)->AQ H H'->Q (.ref p) H'
def vX(hs:s=0\/s=1)(ht:t=0\/t=1):Mz s t=if t=1 then 1-s else s:=by
 rcases hs with rfl|rfl<;>rcases ht with rfl|rfl<;>decide
def C7(n:Bool):sg n=0\/sg n=1:=by cases n<;>simp [sg]
def XS(n:Bool):1-sg n=sg (!n):=by cases n<;>rfl
def XT:Df "turned" 3 ["number","turn"] (vW CP):=by
 refine(AW 5 rfl).go ["number","turn"] ?_;rintro _ _ _ _ _ _ _ H _ Q _ hr ⟨a,x,t,rfl,⟨dx,k,s,z,e,ha,hx⟩,ht,q⟩;refine⟨_,(pR (pC hr IM (AB (AR (pv 0) rfl) (AB (AK NQ (AR (pv 0) rfl) (pv 1)) (AB (AR (pv 0) rfl) (AB (AR (pv 0) rfl) AL)))))),?_⟩;refine⟨_,rfl,a,CP,dx,_,_,rfl,ha,AN.cl,AN.kind,C3,_,rfl,a,CP,dx,_,_,rfl,ha,AN.cl,AN.sign,DR,_,rfl,_,_,rfl,rfl,_,rfl,a,CP,dx,_,_,rfl,ha,AN.cl,AN.size,EV,_,rfl,a,CP,dx,_,_,rfl,ha,AN.cl,AN.power,DQ,?_⟩;have hs:s=0\/s=1:=by
  cases x with
  |nan b=>exact hx.2
  |inf n=>rw [hx.2];exact C7 n
  |fin n m p=>rw [hx.2.1];exact C7 n
 refine fun y dy ny nd ne=>MM ny nd ne fun H' e1 s1=>q H' y ⟨dy,_,_,_,_,e1,?_⟩ s1
 rw [vX hs ht];rcases ht with rfl|rfl
 ·exact hx
 ·rw [AG rfl,AG rfl];cases x with
  |nan b=>exact⟨hx.1,by have :=hx.2;lia⟩
  |inf n=>exact⟨hx.1,by rw [hx.2];exact XS n⟩
  |fin n m p=>exact⟨hx.1,by rw [hx.2.1];exact XS n,hx.2.2⟩
end
open Qu (restOf ratioAt rounded)
def Sw:bootBuiltins "max"=some (.builtin "max"):=boot_max
noncomputable def P0(m:Nat)(neg:Bool)(x:Nat×Qu.Rest):Bool:=(if m=0 then x.2==3||(x.2==2&&x.1%2==1)
 else if m=1 then false
 else if m=2 then neg&&x.2 !=0
 else if m=3 then !neg&&x.2 !=0
 else x.2==3||x.2==2)
def Sx(m:Nat)(neg:Bool)(x:Nat×Qu.Rest):rounded m neg x=if P0 m neg x=true then x.1+1 else x.1:=rfl
def vY(h0:0<r)(h1:r<h):restOf r (2*h)=1:=by
 unfold restOf;rw [AD (by lia),AG (by lia)]
def vZ(h0:0<h):restOf h (2*h)=2:=by
 unfold restOf;rw [AD (by lia),AD (by lia),AG rfl]
def vb(h1:h<r):restOf r (2*h)=3:=by
 unfold restOf;rw [AD (by lia),AD (by lia),AD (by lia)]
def f7(d:Nat):restOf 0 d=0:=by unfold restOf;rw [AG rfl]
def Dj{n:Nat}:Aq (n:Int)=QM.A7 n:=by
 unfold Aq pN QM.A7;by_cases h:n=0
 ·subst h;rfl
 ·rw [AD (by simpa using h),AD h,Ht]
def f9(h:g<=p):ratioAt n 1 p g=(n*2^(p-g).toNat,0):=by
 rw [QM.Ci (p-g).toNat 0 (by lia),B7,Cc,bT,qA];rfl
def f_(h:p<=g):ratioAt n 1 p g=(n/2^(g-p).toNat,restOf (n%2^(g-p).toNat) (2^(g-p).toNat)):=by
 rw [QM.Ci 0 (g-p).toNat (by lia),B7,Cc,B1]
section
def vc:Sp:=fun vs H Q _=> ∃s k r h m:Int,vs=[.int s,.int k,.int r,.int h,.int m]/\(s=0\/s=1)/\0<=k/\0<=r/\0<h/\(0<=m/\m<=4)/\
 Q (.bl (P0 m.toNat (decide (s=1)) (k.toNat,restOf r.toNat (2*h.toNat)))) H
def gA:B_ mg "TOWARD_ZERO" 1:=CV 5 rfl
def Sy:B_ mg "DOWN" 2:=CV 6 rfl
def gB:B_ mg "UP" 3:=CV 7 rfl
def vd:B_ mg "TO_AWAY" 4:=CV 8 rfl
def gC:
 Df "goes_outward" 1 ["sign","kept","rest","half","mode"] vc:=by
 refine(AW 6 rfl).go ["sign","kept","rest","half","mode"] ?_;rintro _ _ _ _ _ _ _ H _ Q _ _ ⟨s,k,r,h,m,rfl,hs,hk,OW,hh,hm,q⟩;refine⟨_,(AJ (Ag (PW.pt (Fb (AX Ae (pv 2) AE) (Fn (AX Ae (pv 4) (pG gA))))) (pR L4) Ai) (AJ (Ag (AX Ae (pv 4) (pG Sy)) (pR (C0 Ae (pv 0) AE)) Ai) (AJ (Ag (AX Ae (pv 4) (pG gB)) (pR (C0 Ae (pv 0) AE)) Ai) (AJ (Ag (AX Ae (pv 2) (pv 3)) (pR (NL (C0 Ae (pv 4) (pG vd)) (HM (C0 Ae (AK Jv (pv 1) AE) AE)))) Ai) (pR (C0 Ef (pv 2) (pv 3))))))),?_⟩;have out: ∀b:Bool,P0 m.toNat (decide (s=1)) (k.toNat,restOf r.toNat (2*h.toNat))=b->Q (.bl b) H:=fun b e=>by rw [<-e];exact q
 refine⟨_,rfl,rfl,_,rfl,FN (fun h1=>ID (out false ?_)) (fun h1=>⟨_,rfl,rfl,_,rfl,FN (fun h2=>out false ?_) (fun h2=>?_)⟩)⟩
 ·have e:r.toNat=0:=by lia
  rw [e,f7];have h5:m.toNat<5:=by lia
  generalize m.toNat=mm at *
  unfold P0;cases decide (s=1)<;>(match mm,h5 with |0,_=>rfl|1,_=>rfl|2,_=>rfl|3,_=>rfl|4,_=>rfl)
 ·have e:m.toNat=1:=by lia
  rw [e];rfl
 ·have EE:0<r.toNat:=by lia
  have nz:restOf r.toNat (2*h.toNat)≠0:=fun z=>by rw [QM.Sj]at z;lia
  have m_:(restOf r.toNat (2*h.toNat) !=0)=true:=bne_iff_ne.mpr nz;refine⟨_,rfl,rfl,_,rfl,FN (fun h3=>⟨_,rfl,rfl,out _ ?_⟩) (fun h3=>?_)⟩
  ·have e:m.toNat=2:=by lia
   rw [e,K6];show(decide (s=1)&&(restOf r.toNat (2*h.toNat) !=0))=_;rw [m_,B8]
  ·refine⟨_,rfl,rfl,_,rfl,FN (fun h4=>⟨_,rfl,rfl,out _ ?_⟩) (fun h4=>?_)⟩
   ·have e:m.toNat=3:=by lia
    rw [e,K6];show(!decide (s=1)&&(restOf r.toNat (2*h.toNat) !=0))=_;rw [m_,B8];rcases hs with rfl|rfl<;>rfl
   ·refine⟨_,rfl,_,rfl,rfl,_,rfl,FN (fun h5=>?_) (fun h5=>?_)⟩
    ·have e5:restOf r.toNat (2*h.toNat)=2:=by rw [h5];exact vZ (by lia)
     refine⟨_,rfl,rfl,_,rfl,FN (fun h6=>out true ?_) (fun h6=>⟨_,rfl,_,_,rfl,rfl,(by show(0:Int) <2;decide),rfl,out _ ?_⟩)⟩
     ·have e:m.toNat=4:=by lia
      rw [e,e5];rfl
     ·have e:m.toNat=0:=by lia
      rw [e,e5,K6];show(false||(true&&(k.toNat%2==1)))=decide (k%2=1);rw [Im,GU];have :(k.toNat%2=1)↔k%2=1:=by lia
      show decide (k.toNat%2=1)=_;simp only [this]
    ·refine⟨_,rfl,_,rfl,_,_,rfl,rfl,out _ ?_⟩;have e:m.toNat=0\/m.toNat=4:=by lia
     rcases Int.lt_or_lt_of_ne h5 with l|l
     ·rw [vY EE (by lia:r.toNat<h.toNat),Bh (by lia: ¬h<r)];rcases e with e|e<;>rw [e]<;>rfl
     ·rw [vb (by lia:h.toNat<r.toNat),Bi (by lia:h<r)];rcases e with e|e<;>rw [e]<;>rfl
def ve:Sp:=fun vs H Q _=> ∃s z p g m:Int,vs=[.int s,.int z,.int p,.int g,.int m]/\(s=0\/s=1)/\(0<=z/\Aq z<=2000000)/\(g-p<=2000000/\p-g<=2000000)/\(0<=m/\m<=4)/\
 Q (.int (rounded m.toNat (decide (s=1)) (ratioAt z.toNat 1 p g):Nat)) H
def Sz:
 Df "multiple" 2 ["sign","size","power","grid","mode"] ve:=by
 refine(AW 7 rfl).go ["sign","size","power","grid","mode","drop","kept","rest"] ?_;rintro S _ _ _ _ _ _ H _ Q _ hr ⟨s,z,p,g,m,rfl,hs,hz,hg,hm,q⟩;obtain⟨n,rfl⟩: ∃n:Nat,z=(n:Int):=⟨z.toNat,by lia⟩;rw [Am]at q;refine⟨_,(AJ (pS 5 S (AK BP (pv 3) (pv 2))) (AJ (Ag (AX PK (pv 5) AE) (pR (AK DF (pv 1) (Eu FG (pv 5)))) Ai) (AJ (pS 6 S (AK GZ (pv 1) (pv 5))) (AJ (pS 7 S (AK EH (pv 1) (pD hr Fv (pO 5)))) (AJ (Ag (Bz (pD hr gC (pW 0 (pW 6 (pW 7 (AB (AK DF AE (AK BP (pv 5) AE)) (pO 4))))))) (pR (AK BX (pv 6) AE)) Ai) (pR (pv 6))))))),?_⟩;refine⟨_,rfl,_,rfl,_,_,rfl,rfl,_,rfl,_,_,rfl,rfl,_,rfl,J0 (fun h1=>?_) (fun h1=>?_)⟩
 ·refine⟨_,rfl,_,rfl,_,rfl,_,_,rfl,rfl,⟨(by show(0:Int)<= -(g-p);lia),(by show -(g-p)<=60000000;lia),(by have :=hz.2;lia)⟩,?_⟩;have e:(-(g-p)).toNat=(p-g).toNat:=by lia
  rw [f9 (by lia),QM.Pu _ _ rfl]at q;show Q (.int ((n:Int)*2^(-(g-p)).toNat)) H;rw [e,Ge];exact q
 ·obtain⟨d,hd⟩: ∃d:Nat,g-p=(d:Int)+1:=⟨(g-p-1).toNat,by lia⟩;have e:(g-p).toNat=d+1:=by lia
  rw [f_ (by lia),e]at q;refine⟨_,rfl,_,rfl,_,_,rfl,rfl,(by show(0:Int)<=g-p;lia),?_⟩;refine⟨_,rfl,_,rfl,_,rfl,⟨by lia,by lia⟩,_,_,rfl,rfl,?_⟩;simp only [e,IF,ME];have e2:(g-p-1).toNat=d:=by lia
  have e3:(1*2^d:Int)=((2^d:Nat):Int):=by rw [Hq,Gu];rfl
  have pd:=BR d;refine⟨_,rfl,_,rfl,_,rfl,_,rfl,_,_,rfl,rfl,_,_,rfl,rfl,Np ⟨by lia,by lia⟩,_,rfl,_,_,_,_,_,rfl,hs,CI _,CI _,?_,hm,_,rfl,D6 (fun h2=>?_) (fun h2=>?_)⟩
  ·rw [e2,e3];lia
  ·rw [e2,e3]at h2;simp only [Am]at h2;rw [show 2*2^d=2^(d+1) by rw [CQ,Ar]]at h2;rw [Sx,AG h2]at q;exact⟨_,rfl,_,_,rfl,rfl,q⟩
  ·rw [e2,e3]at h2;simp only [Am]at h2;rw [show 2*2^d=2^(d+1) by rw [CQ,Ar]]at h2;rw [Sx,AD (by rw [h2];decide)]at q;exact⟨_,rfl,q⟩
def vf:Sp:=fun vs H Q _=> ∃z p:Int,vs=[.int z,.int p]/\Q (.int (p+(Aq z:Int)-1)) H
def MN:Df "exponent" 1 ["size","power"] vf:=by
 refine(AW 8 rfl).go ["size","power"] ?_;rintro _ _ _ _ _ _ _ H _ Q _ _ ⟨z,p,rfl,q⟩;refine⟨_,(pR (AK BP (AK BX (pv 1) (PM Vq Vr Vs PZ (pv 0))) AE)),?_⟩;exact⟨_,rfl,_,rfl,rfl,_,rfl,rfl,_,_,rfl,rfl,_,_,rfl,rfl,q⟩
def vg:Sp:=fun vs H Q _=> ∃z p g:Int,vs=[.int z,.int p,.int g]/\0<=z/\g-p<=2000000/\Q (.bl (decide ((ratioAt z.toNat 1 p g).2=0))) H
def XU:Df "is_on_grid" 2 ["size","power","grid"] vg:=by
 refine(AW 9 rfl).go ["size","power","grid"] ?_;rintro _ _ _ _ _ _ _ H _ Q _ hr ⟨z,p,g,rfl,hz,hg,q⟩;obtain⟨n,rfl⟩: ∃n:Nat,z=(n:Int):=⟨z.toNat,by lia⟩;rw [Am]at q;refine⟨_,(pR (NL (C0 PK (pv 2) (pv 1)) (HM (C0 Ae (AK EH (pv 0) (pD hr Fv (AB (AK BP (pv 2) (pv 1)) AL))) AE)))),?_⟩;refine⟨_,rfl,_,rfl,_,_,rfl,rfl,_,rfl,J0 (fun h1=>?_) (fun h1=>?_)⟩
 ·rw [f9 h1]at q;exact q
 ·refine⟨_,rfl,_,rfl,_,rfl,_,_,rfl,rfl,_,rfl,⟨by lia,by lia⟩,_,_,rfl,rfl,rfl,?_⟩;rw [f_ (by lia)]at q;show Q (.bl (decide (V.int (D0 (n:Int) (1*2^(g-p).toNat-1))=V.int 0))) H;rw [ME,K6];have :(restOf (n%2^(g-p).toNat) (2^(g-p).toNat)=0)↔(((n%2^(g-p).toNat:Nat):Int)=0):=by rw [QM.Sj];lia
  simp only [this]at q;exact q
def S0(z p:Int):Prop:=0<z/\Aq z<=1000000/\ -500000<=p/\p<=500000
def XW(h:0<z):(Aq z:Int)=(z.toNat.log2:Int)+1:=by
 obtain⟨n,rfl⟩: ∃n:Nat,z=(n:Int):=⟨z.toNat,by lia⟩;rw [Dj,Am,QM.Fs (by lia)];lia
def gD{f:Fmt}(h:f.ebits<=15):0<=f.bias/\f.bias<=16383:=by
 have e:=QM.XN f;have p:=BR (f.ebits-1);have q:2^(f.ebits-1)<=2^14:=QM.CG (by lia);have r:2^14=16384:=by decide
 lia
noncomputable def XY(f:Fmt)(m:Nat)(neg:Bool)(n:Nat)(p:Int):Bool:=
 decide (((n.log2:Int)+p-f.fbits)+(QM.A7 (rounded m neg (ratioAt n 1 p ((n.log2:Int)+p-f.fbits))):Int)-1<1-f.bias)
def vh(K:Aj):Sp:=fun vs H Q _=> ∃a f s z p m,vs=[.ref a,.int s,.int z,.int p,.int m]/\Fu K H a f/\(s=0\/s=1)/\S0 z p/\(0<=m/\m<=4)/\
 Q (.bl (XY f m.toNat (decide (s=1)) z.toNat p)) H
def vi:Df "is_tiny" 3 ["form","sign","size","power","mode"] (vh K):=by
 refine(AW 10 rfl).go ["form","sign","size","power","mode","grid"] ?_;rintro S _ _ _ _ _ _ H _ Q _ hr ⟨a,f,s,z,p,m,rfl,hf,hs,hz,hm,q⟩;obtain⟨z1,z2,z3,z4⟩:=hz;have eb:=XW z1;refine⟨_,(AJ (pS 5 S (AK BP (pD hr MN (pW 2 (pO 3))) (AY Dx (pv 0) AE))) (pR (C0 Fo (pD hr MN (AB (pD hr Sz (pW 1 (pW 2 (pW 3 (pW 5 (pO 4)))))) (pO 5))) (AK BP AE (pD hr Px (pO 0)))))),?_⟩;refine⟨_,rfl,_,rfl,_,_,rfl,_,rfl,_,_,_,_,rfl,rfl,hf.1,K7,_,_,rfl,rfl,?_⟩;have hF:=hf.2.2.2.2;refine⟨_,rfl,_,rfl,_,rfl,_,rfl,_,rfl,_,_,_,_,_,rfl,hs,⟨by lia,by lia⟩,⟨by lia,by lia⟩,hm,_,rfl,_,_,rfl,_,rfl,_,_,rfl,hf,_,_,rfl,rfl,_,_,rfl,rfl,?_⟩;have e:p+(Aq z:Int)-1-f.fbits=(z.toNat.log2:Int)+p-f.fbits:=by lia
 show Q (.bl (decide ((p+(Aq z:Int)-1-(f.fbits:Int))+(Aq ((rounded m.toNat (decide (s=1)) (ratioAt z.toNat 1 p (p+(Aq z:Int)-1-(f.fbits:Int))):Nat):Int):Int)-1<1-f.bias))) H;rw [e,Dj];exact q
def vj{f:Fmt}(h:2<=f.ebits):1<=f.infinity:=QM.fu h
def vk(K:Aj):Sp:=fun vs H Q _=> ∃a f s,vs=[.ref a,.int s]/\Fu K H a f/\(s=0\/s=1)/\Q (.int (Cv f (decide (s=1)) 0:Nat)) H
def vm(hs:s=0\/s=1):s*2^((f.ebits:Int)+f.fbits).toNat=((Cv f (decide (s=1)) 0:Nat):Int):=by
 have ef:((f.ebits:Int)+f.fbits).toNat=f.ebits+f.fbits:=by lia
 rw [ef];unfold Cv;rcases hs with rfl|rfl
 ·rw [Int.zero_mul];rfl
 ·rw [Hq,AG dd];show(2:Int)^(f.ebits+f.fbits)=((2^(f.ebits+f.fbits):Nat):Int);rw [Gu];rfl
def XZ:Df "zero_bits" 1 ["form","sign"] (vk K):=by
 refine(AW 11 rfl).go ["form","sign"] ?_;rintro _ _ _ _ _ _ _ H _ Q _ _ ⟨a,f,s,rfl,hf,hs,q⟩;obtain⟨hq,e1,e2,e3,e4⟩:=id hf;refine⟨_,(pR (AK DF (pv 1) (AK BX (AY Dx (pv 0) AE) (AY Dx (pv 0) AE)))),?_⟩;refine⟨_,rfl,_,rfl,_,_,_,_,rfl,rfl,hq,Su,_,rfl,_,_,_,_,rfl,rfl,hq,K7,_,_,rfl,rfl,_,_,rfl,rfl,⟨(by show(0:Int)<=f.ebits+f.fbits;lia),(by show(f.ebits:Int)+f.fbits<=60000000;lia),?_⟩,?_⟩
 ·rcases hs with rfl|rfl<;>decide
 ·rw [<-vm hs]at q;exact q
def vn(K:Aj):Sp:=fun vs H Q _=> ∃a f s,vs=[.ref a,.int s]/\Fu K H a f/\(s=0\/s=1)/\Q (.int (Cv f (decide (s=1)) f.infinity:Nat)) H
def gF(f:Fmt)(n:Bool)(x:Nat):Cv f n x=Cv f n 0+x:=by unfold Cv;split<;>lia
def S1(n:Nat):(1*2^n-1:Int)=((2^n-1:Nat):Int):=by
 have :=BR n;rw [Hq,Ve (by lia),Gu];rfl
def Xa:Df "infinity_bits" 2 ["form","sign"] (vn K):=by
 refine(AW 12 rfl).go ["form","sign"] ?_;rintro _ _ _ _ _ _ _ H _ Q _ hr ⟨a,f,s,rfl,hf,hs,q⟩;obtain⟨hq,e1,e2,e3,e4⟩:=id hf;refine⟨_,(pR (AK BX (pD hr XZ (pW 0 (pO 1))) (AK DF (pD hr Fv (AB (AY Dx (pv 0) AE) AL)) (AY Dx (pv 0) AE)))),?_⟩;refine⟨_,rfl,_,rfl,a,f,s,rfl,hf,hs,?_⟩;refine⟨_,rfl,_,_,_,_,rfl,rfl,hq,Su,_,rfl,⟨by lia,by lia⟩,_,rfl,_,_,_,_,rfl,rfl,hq,K7,_,_,rfl,rfl,⟨by lia,by lia,?_⟩,_,_,rfl,rfl,?_⟩
 ·rw [Am,S1];exact A9 (Cg (k:=f.ebits) (by have :=BR f.ebits;lia)) (by lia)
 ·have e:((Cv f (decide (s=1)) 0:Nat):Int)+(1*2^(f.ebits:Int).toNat-1:Int)*2^(f.fbits:Int).toNat=((Cv f (decide (s=1)) f.infinity:Nat):Int):=by
   rw [Am,Am,S1,Ge,gF f _ f.infinity,M8];rfl
  show Q (.int (((Cv f (decide (s=1)) 0:Nat):Int)+(1*2^(f.ebits:Int).toNat-1:Int)*2^(f.fbits:Int).toNat)) H;rw [e];exact q
def vo(K:Aj):Sp:=fun vs H Q _=> ∃a f,vs=[.ref a]/\Fu K H a f/\Q (.int (f.canonical:Nat)) H
def vp:Df "canonical_nan" 3 ["form"] (vo K):=by
 refine(AW 13 rfl).go ["form"] ?_;rintro _ _ _ _ _ _ _ H _ Q _ hr ⟨a,f,rfl,hf,q⟩;obtain⟨hq,e1,e2,e3,e4⟩:=id hf;refine⟨_,(pR (AK BX (pD hr Xa (pW 0 (AB AE AL))) (AK DF AE (AK BP (AY Dx (pv 0) AE) AE)))),?_⟩;refine⟨_,rfl,a,f,0,rfl,hf,.inl rfl,?_⟩;refine⟨_,rfl,_,_,_,_,rfl,rfl,hq,K7,_,_,rfl,rfl,_,_,rfl,rfl,Np ⟨by lia,by lia⟩,_,_,rfl,rfl,?_⟩;have e:((Cv f (decide ((0:Int)=1)) f.infinity:Nat):Int)+1*2^((f.fbits:Int)-1).toNat=((f.canonical:Nat):Int):=by
  have e5:((f.fbits:Int)-1).toNat=f.fbits-1:=by lia
  rw [e5,Hq];show((f.infinity:Nat):Int)+2^(f.fbits-1)=((f.infinity+2^(f.fbits-1):Nat):Int);rw [M8,Gu];rfl
 show Q (.int (((Cv f (decide ((0:Int)=1)) f.infinity:Nat):Int)+1*2^((f.fbits:Int)-1).toNat)) H;rw [e];exact q
def vq(K:Aj):Sp:=fun vs H Q _=> ∃a f s m,vs=[.ref a,.int s,.int m]/\Fu K H a f/\(s=0\/s=1)/\(0<=m/\m<=4)/\
 Q (.int (Vt f m.toNat (decide (s=1)):Nat)) H
def vt:
 Df "overflow_bits" 3 ["form","sign","mode"] (vq K):=by
 refine(AW 14 rfl).go ["form","sign","mode","leads_inward"] ?_;rintro S _ _ _ _ _ _ H _ Q _ hr ⟨a,f,s,m,rfl,hf,hs,hm,q⟩;obtain⟨hq,e1,e2,e3,e4⟩:=id hf;refine⟨_,(AJ (pS 3 S (NL (C0 Ae (pv 2) (pG gA)) (NL (L5 (C0 Ae (pv 2) (pG Sy)) (HM (C0 Ae (pv 1) AE))) (HM (L5 (C0 Ae (pv 2) (pG gB)) (HM (C0 Ae (pv 1) AE))))))) (pR (AK BP (pD hr Xa (pW 0 (pO 1))) (Bq (Bz (pv 3)) AE AE)))),?_⟩;have hi:=vj e1;have fin: ∀(b:Bool),(b=(m.toNat==1||(m.toNat==2&&decide (s=0))||(m.toNat==3&&decide (s=1))))->
  Q (.int (((Cv f (decide (s=1)) f.infinity:Nat):Int)-(if b=true then 1 else 0))) H:=fun b hb=>by
  have e:((Cv f (decide (s=1)) f.infinity:Nat):Int)-(if b=true then 1 else 0)=((Vt f m.toNat (decide (s=1)):Nat):Int):=by
   have h5:m.toNat<5:=by lia
   rw [hb];generalize m.toNat=mm at *
   unfold Vt Cv;rcases hs with rfl|rfl
   ·match mm,h5 with
    |0,_=>simp
    |1,_=>simp;lia
    |2,_=>simp;lia
    |3,_=>simp
    |4,_=>simp
   ·match mm,h5 with
    |0,_=>simp
    |1,_=>simp;lia
    |2,_=>simp
    |3,_=>simp;lia
    |4,_=>simp
  rw [e];exact q
 refine(Uh (An (AH rfl) AI) (Uh (OD (An (AH rfl) AI) (An (AH rfl) AI)) (OD (An (AH rfl) AI) (An (AH rfl) AI)))) _ ?_;generalize hb:(decide (m=1)||(decide (m=2)&&decide (s=0)||decide (m=3)&&decide (s=1)))=b;have OQ:b=(m.toNat==1||(m.toNat==2&&decide (s=0))||(m.toNat==3&&decide (s=1))):=by
  rw [<-hb];have c1:decide (m=1)=(m.toNat==1):=Cd.mpr (by lia);have c2:decide (m=2)=(m.toNat==2):=Cd.mpr (by lia);have c3:decide (m=3)=(m.toNat==3):=Cd.mpr (by lia);rw [c1,c2,c3,Bool.or_assoc]
 refine⟨_,rfl,_,rfl,a,f,s,rfl,hf,hs,?_⟩;refine(B5 (v:=.int (if b=true then 1 else 0)) (Ej (AH rfl)) (fun e=>by rw [e];exact AI) (fun e=>by rw [e];exact AI)) _ ⟨_,_,rfl,rfl,?_⟩;exact fin b OQ
noncomputable def S2(f:Fmt)(m:Nat)(neg:Bool)(n:Nat)(p g:Int):Nat:=if(ratioAt n 1 p g).2=0 then 0 else if XY f m neg n p=true then 3 else 1
def vv(K:Aj):Sp:=fun vs H Q _=> ∃a f s z p g m,vs=[.ref a,.int s,.int z,.int p,.int g,.int m]/\Fu K H a f/\(s=0\/s=1)/\S0 z p/\g-p<=2000000/\(0<=m/\m<=4)/\
 Q (.int (S2 f m.toNat (decide (s=1)) z.toNat p g:Nat)) H
def P1:B_ mg "NX" 1:=CV 9 rfl
def vw:B_ mg "UF" 2:=CV 10 rfl
def vx:
 Df "loss" 4 ["form","sign","size","power","grid","mode"] (vv K):=by
 refine(AW 15 rfl).go ["form","sign","size","power","grid","mode"] ?_;rintro _ _ _ _ _ _ _ H _ Q _ hr ⟨a,f,s,z,p,g,m,rfl,hf,hs,hz,hg,hm,q⟩;refine⟨_,(AJ (Ag (Bz (pD hr XU (pW 2 (pW 3 (pO 4))))) (pR AE) Ai) (pR (Bq (Bz (pD hr vi (pW 0 (pW 1 (pW 2 (pW 3 (pO 5))))))) (AK JE (pG P1) (pG vw)) (pG P1)))),?_⟩;unfold S2 at q;refine⟨_,rfl,_,rfl,_,rfl,_,_,_,rfl,(by have :=hz.1;lia),hg,_,rfl,J0 (fun h1=>?_) (fun h1=>?_)⟩
 ·rw [AG h1]at q;exact q
 ·rw [AD h1]at q;refine⟨_,rfl,_,rfl,_,rfl,_,rfl,_,rfl,_,_,_,_,_,_,rfl,hf,hs,hz,hm,_,rfl,D6 (fun h2=>?_) (fun h2=>?_)⟩
  ·rw [AG h2]at q;exact⟨_,_,rfl,rfl,q⟩
  ·rw [AD (by rw [h2];decide)]at q;exact q
def A2(H:Hp)(l:Addr)(x:Nat×Nat):Prop:=H l=some (.lst [.int (x.1:Int),.int (x.2:Int)])
def vy(K:Aj):Sp:=fun vs H Q _=> ∃a f s z p m,vs=[.ref a,.int s,.int z,.int p,.int m]/\Fu K H a f/\(s=0\/s=1)/\S0 z p/\(0<=m/\m<=4)/\
 ∀H' l,A2 H' l (Es f m.toNat (decide (s=1)) (F3 z.toNat 1 p))->AQ H H'->Q (.ref l) H'
def Xb(i j:Int):(if j>i then j else i)=max i j:=by
 by_cases h:j>i
 ·rw [AG h];lia
 ·rw [AD h];lia
def S3:mg "max"=none:=rat 4 rfl
def vz:B_ mg "OF" 4:=CV 11 rfl
def v5:
 Df "round_to" 5 ["form","sign","size","power","mode"] (vy K):=by
 refine(AW 16 rfl).go ["form","sign","size","power","mode","least","grid","count","field","bits"] ?_;rintro S _ _ _ _ _ _ H _ Q _ hr ⟨a,f,s,z,p,m,rfl,hf,hs,hz,hm,q⟩;obtain⟨z1,z2,z3,z4⟩:=id hz;obtain⟨hq,e1,e2,e3,e4⟩:=id hf;have eb:=XW z1;have bb:=gD e2;refine⟨_,(AJ (pS 5 S (AK BP AE (pD hr Px (pO 0)))) (AJ (pS 6 S (AK BP (Cf (R0 rfl) (by rfl) S3 Sw (AB (pD hr MN (pW 2 (pO 3))) (pO 5))) (AY Dx (pv 0) AE))) (AJ (pS 7 S (pD hr Sz (pW 1 (pW 2 (pW 3 (pW 6 (pO 4))))))) (AJ (Ag (AX Ef (pD hr MN (pW 7 (pO 6))) (pD hr Px (pO 0))) (pR (Ay (AB (pD hr vt (pW 0 (pW 1 (pO 4)))) (AB (AK JE (pG vz) (pG P1)) AL)))) Ai) (AJ (pS 8 S (AK BP (pv 6) (AK BP (pv 5) (AY Dx (pv 0) AE)))) (AJ (pS 9 S (AK BX (AK BX (pD hr XZ (pW 0 (pO 1))) (AK DF (pv 8) (AY Dx (pv 0) AE))) (pv 7))) (pR (Ay (pW 9 (AB (pD hr vx (pW 0 (pW 1 (pW 2 (pW 3 (pW 6 (pO 4))))))) AL)))))))))),?_⟩;refine⟨_,rfl,_,_,rfl,hf,_,_,rfl,rfl,?_⟩;refine⟨_,rfl,_,rfl,_,_,rfl,_,rfl,_,_,rfl,_,rfl,_,_,_,_,rfl,rfl,hq,K7,_,_,rfl,rfl,?_⟩;have hk:(if 1-f.bias>p+(Aq z:Int)-1 then 1-f.bias else p+(Aq z:Int)-1)-(f.fbits:Int)=max ((z.toNat.log2:Int)+p) (1-f.bias)-f.fbits:=by
  rw [Xb];lia
 have rc:=QM.vH (f:=f) (m:=m.toNat) (neg:=decide (s=1)) (p:=p) e1 (show 0<z.toNat by lia);rw [<-hk]at rc;dsimp only;generalize (if 1-f.bias>p+(Aq z:Int)-1 then 1-f.bias else p+(Aq z:Int)-1)-(f.fbits:Int)=k at hk rc⊢;refine⟨_,rfl,_,rfl,_,rfl,_,rfl,_,rfl,_,_,_,_,_,rfl,hs,⟨by lia,by lia⟩,⟨by lia,by lia⟩,hm,?_⟩;dsimp only;generalize hc:rounded m.toNat (decide (s=1)) (ratioAt z.toNat 1 p k)=c at rc⊢;refine⟨_,rfl,_,rfl,_,_,rfl,_,rfl,_,_,rfl,hf,_,_,rfl,rfl,_,rfl,J0 (fun h1=>?_) (fun h1=>?_)⟩
 ·rw [Dj]at h1;rw [AG (by lia)]at rc;refine⟨_,rfl,_,rfl,_,rfl,_,_,_,_,rfl,hf,hs,hm,_,_,rfl,rfl,dz,fun l hl=>q _ l ?_ (AQ.new hl)⟩;rw [rc];exact AZ
 ·rw [Dj]at h1;rw [AD (by lia)]at rc;have hbc:QM.A7 c<=f.fbits+2:=by
   have b1:(ratioAt z.toNat 1 p k).1 <2^(f.fbits+1):=QM.fi (by lia);refine QM.Fd ?_;have e:2^(f.fbits+2)=2*2^(f.fbits+1):=by rw [CQ 2 (f.fbits+1),Ar]
   rcases QM.K4 m.toNat (decide (s=1)) (ratioAt z.toNat 1 p k)with h|h<;>lia
  have hF:k-(1-f.bias-f.fbits)<=40000:=by
   have :=QM.Fs (n:=c);rcases Dq c with z0|z0
   ·have hn:f.unit<k->2^f.fbits<=c:=fun Bk=>by
     have hu:f.unit=1-f.bias-(f.fbits:Int):=rfl;have :2^f.fbits<=(ratioAt z.toNat 1 p k).1:=QM.XM (by lia) (by lia);rcases QM.K4 m.toNat (decide (s=1)) (ratioAt z.toNat 1 p k)with h|h<;>lia
    have hu:f.unit=1-f.bias-(f.fbits:Int):=rfl;have pF:=BR f.fbits;rcases Gx f.unit k with y|y
    ·have :=hn y;lia
    ·lia
   ·have :=this z0;lia
  refine⟨_,rfl,_,rfl,_,rfl,_,_,_,_,rfl,rfl,hq,K7,_,_,rfl,rfl,_,_,rfl,rfl,?_⟩;refine⟨_,rfl,_,rfl,a,f,s,rfl,hf,hs,
   _,rfl,_,rfl,_,_,_,_,rfl,rfl,hq,K7,_,_,rfl,rfl,⟨(by show(0:Int)<=f.fbits;lia),(by show(f.fbits:Int)<=60000000;lia),?_⟩,_,_,rfl,rfl,_,rfl,_,_,rfl,rfl,?_⟩
  ·obtain⟨d,hd⟩: ∃d:Nat,k-(1-f.bias-f.fbits)=(d:Int):=⟨(k-(1-f.bias-f.fbits)).toNat,by lia⟩;show Aq (k-(1-f.bias-f.fbits))<=60000000;rw [hd];exact A9 (Cg (k:=16) (by have :2^16=65536:=dd;lia)) dd
  refine⟨_,rfl,_,rfl,_,rfl,_,rfl,_,rfl,_,rfl,_,rfl,_,_,_,_,_,_,_,rfl,hf,hs,hz,by lia,hm,dz,fun l hl=>q _ l ?_ (AQ.new hl)⟩;rw [rc];have vE:((Cv f (decide (s=1)) 0:Nat):Int)+(k-(1-f.bias-f.fbits))*2^(f.fbits:Int).toNat+(c:Int)=((Cv f (decide (s=1)) (qB f c k):Nat):Int):=by
   have hu:f.unit=1-f.bias-(f.fbits:Int):=rfl;obtain⟨d,hd⟩: ∃d:Nat,k-(1-f.bias-f.fbits)=(d:Int):=⟨(k-(1-f.bias-f.fbits)).toNat,by lia⟩;have Qe:(k-f.unit).toNat=d:=by lia
   rw [gF f _ (qB f c k)];unfold qB;rw [hd,Qe,Am,Ge];lia
  have lE:(if(ratioAt z.toNat 1 p k).2=0 then 0 else if((z.toNat.log2:Int)+p-f.fbits)+(QM.A7 (rounded m.toNat (decide (s=1)) (ratioAt z.toNat 1 p ((z.toNat.log2:Int)+p-f.fbits))):Int)-1<1-f.bias then Qu.UF+Qu.NX else Qu.NX)=S2 f m.toNat (decide (s=1)) z.toNat p k:=by
   unfold S2 XY;simp only [Bw];rfl
  rw [lE];show upd H l (.lst [.int (((Cv f (decide (s=1)) 0:Nat):Int)+(k-(1-f.bias-f.fbits))*2^(f.fbits:Int).toNat+(c:Int)),_]) l=_;rw [AZ,vE]
end
open Qu (QUAD)
def gG:bootBuiltins "any"=some (.builtin "any"):=boot_any
def A3(b:Int):Prop:=0<=b/\b<340282366920938463463374607431768211456
def A3.lt(h:A3 b):b.toNat<2*QUAD.signBit:=by
 have e:2*QUAD.signBit=340282366920938463463374607431768211456:=by decide
 rw [e];have :=h.1;have :=h.2;lia
section
variable{C:Addr}
def v7(C:Addr):Sp:=fun vs H Q _=> ∃b:Int,vs=[.int b]/\A3 b/\ ∀H' p,BY C H' p (AU QUAD b.toNat)->AQ H H'->Q (.ref p) H'
def gH:mg "QUADRUPLE"=some (.ref aq):=rat 5 rfl
def hQ: ∀H,Fu L2.K H aq QUAD:=fun H=>⟨K3 (xs:=[15,112]) (by kernel_rfl) H,by decide,by decide,by decide,by decide⟩
def DS:
 Df "parts_of" 5 ["bits"] (v7 CP):=by
 refine(AW 17 rfl).go ["bits"] ?_;rintro _ _ _ _ _ _ _ H _ Q _ hr ⟨b,rfl,hb,q⟩;refine⟨_,(pR (pD hr fz (AB (F6 rfl gH) (pO 0)))),?_⟩;exact⟨_,rfl,aq,QUAD,b,rfl,hQ _,⟨hb.1,hb.lt⟩,q⟩
def v8:Sp:=fun vs H Q _=> ∃b:Int,vs=[.int b]/\A3 b/\Q (.int (sg (Bt QUAD b.toNat))) H
def v9(h:A3 b):b/2^127=sg (Bt QUAD b.toNat):=by
 obtain⟨n,rfl⟩: ∃n:Nat,b=(n:Int):=⟨b.toNat,by have :=h.1;lia⟩;have hl:=h.lt;rw [Am]at hl⊢;rw [IF];have hs:n/2^127<2:=(E_ (BR _)).mpr (by have h2:n<2*2^127:=hl;lia);unfold Bt sg;have e:QUAD.signBit=2^127:=rfl;rw [e];generalize n/2^127=y at *
 have :y=0\/y=1:=by lia
 rcases this with z|z<;>subst z<;>rfl
def Xc:Df "sign_of" 1 ["bits"] v8:=by
 refine(AW 18 rfl).go ["bits"] ?_;rintro _ _ _ _ _ _ _ H _ Q _ _ ⟨b,rfl,hb,q⟩;refine⟨_,(pR (AK GZ (pv 0) AE)),?_⟩;refine⟨_,rfl,_,_,rfl,rfl,(by show(0:Int)<=127;decide),?_⟩;show Q (.int (b/2^127)) H;rw [v9 hb];exact q
def v_:Sp:=fun vs H Q _=> ∃b:Int,vs=[.int b]/\A3 b/\Q (.int (QM.A0 QUAD b.toNat:Nat)) H
def Nt:B_ mg "SIGN_BIT" 170141183460469231731687303715884105728:=CV 12 rfl
def K8:Df "without_sign" 1 ["bits"] v_:=by
 refine(AW 19 rfl).go ["bits"] ?_;rintro _ _ _ _ _ _ _ H _ Q _ _ ⟨b,rfl,hb,q⟩;refine⟨_,(pR (AK EH (pv 0) (AK BP (pG Nt) AE))),?_⟩;refine⟨_,rfl,_,_,rfl,rfl,_,_,rfl,rfl,?_⟩;obtain⟨n,rfl⟩: ∃n:Nat,b=(n:Int):=⟨b.toNat,by have :=hb.1;lia⟩;have e:(170141183460469231731687303715884105728-1:Int)=1*2^127-1:=by decide
 show Q (.int (D0 (n:Int) (170141183460469231731687303715884105728-1))) H;rw [e,ME];exact q
def wB:Sp:=fun vs H Q _=> ∃s:Int,vs=[.int s]/\(s=0\/s=1)/\Q (.int ((FX QUAD (decide (s=1))).1:Nat)) H
def S4:Df "zero" 1 ["sign"] wB:=by
 refine(AW 20 rfl).go ["sign"] ?_;rintro _ _ _ _ _ _ _ H _ Q _ _ ⟨s,rfl,hs,q⟩;refine⟨_,(pR (AK DF (pv 0) AE)),?_⟩;refine⟨_,rfl,_,_,rfl,rfl,⟨dd,dd,?_⟩,?_⟩
 ·rcases hs with rfl|rfl<;>decide
 ·show Q (.int (s*2^(127:Int).toNat)) H;have e:s*2^(127:Int).toNat=(((FX QUAD (decide (s=1))).1:Nat):Int):=by rcases hs with rfl|rfl<;>decide
  rw [e];exact q
def gI:Sp:=fun vs H Q _=> ∃s:Int,vs=[.int s]/\(s=0\/s=1)/\Q (.int ((HI QUAD (decide (s=1))).1:Nat)) H
def gJ:B_ mg "INFINITY" 170135991163610696904058773219554885632:=CV 13 rfl
def S5:Df "infinity" 1 ["sign"] gI:=by
 refine(AW 21 rfl).go ["sign"] ?_;rintro _ _ _ _ _ _ _ H _ Q _ _ ⟨s,rfl,hs,q⟩;refine⟨_,(pR (AK JE (AK DF (pv 0) AE) (pG gJ))),?_⟩;refine⟨_,rfl,_,_,rfl,rfl,⟨dd,dd,?_⟩,_,_,rfl,rfl,?_⟩
 ·rcases hs with rfl|rfl<;>decide
 ·show Q (.int (Lj (s*2^(127:Int).toNat) 170135991163610696904058773219554885632)) H;have e:Lj (s*2^(127:Int).toNat) 170135991163610696904058773219554885632=(((HI QUAD (decide (s=1))).1:Nat):Int):=by rcases hs with rfl|rfl<;>decide+kernel
  rw [e];exact q
def wC:Sp:=fun vs H Q _=>vs=[]/\ ∀H' l,A2 H' l (Oq QUAD)->AQ H H'->Q (.ref l) H'
def S6:B_ mg "CANONICAL_NAN" 170138587312039964317873038467719495680:=CV 14 rfl
def P2:B_ mg "NV" 16:=CV 15 rfl
def MO:Df "invalid" 1 [] wC:=by
 refine(AW 22 rfl).go [] ?_;rintro _ _ _ _ _ _ _ H _ Q _ _ ⟨rfl,q⟩;refine⟨_,(pR (Ay (AB (pG S6) (AB (pG P2) AL)))),?_⟩;refine⟨dz,fun l hl=>q _ l ?_ (AQ.new hl)⟩;have e:((Oq QUAD).1:Int)=170138587312039964317873038467719495680:=by decide
 unfold A2;rw [AZ,e];rfl
def Xd(C:Addr):Sp:=fun vs H Q _=> ∃a x,vs=[.ref a]/\BY C H a x/\Q (.bl (BH x)) H
def gK(h:ML k s z e x):decide (3<=k)=BH x:=by
 cases x with
 |nan q=>
  rw [h.1];cases q<;>rfl
 |inf n=>rw [h.1];rfl
 |fin n m p=>
  rw [h.1];split<;>rfl
def Nu(h:ML k s z e x):decide (k=4)=Dr x:=by
 cases x with
 |nan q=>
  rw [h.1];cases q<;>rfl
 |inf n=>rw [h.1];rfl
 |fin n m p=>
  rw [h.1];split<;>rfl
def K9:Df "is_nan" 1 ["number"] (Xd CP):=by
 refine(AW 23 rfl).go ["number"] ?_;rintro _ _ _ _ _ _ _ H _ Q _ _ ⟨a,x,rfl,⟨dx,k,s,z,e,ha,hx⟩,q⟩;refine⟨_,(pR (C0 L8 (AR (pv 0) rfl) (pG Nr))),?_⟩;refine⟨_,rfl,a,CP,dx,_,_,rfl,ha,AN.cl,AN.kind,C3,_,_,rfl,rfl,?_⟩;rw [<-gK hx]at q;exact q
def JJ(C:Addr)(H:Hp)(l:Addr)(xs:List Num):Prop:= ∃as:List Addr,H l=some (.lst (as.map V.ref))/\as.length=xs.length/\ ∀(i:Nat)(a:Addr)(x:Num),as[i]? =some a->xs[i]? =some x->BY C H a x
def gL(hL:JJ C H l xs)(hl:Ev tl σ H (.ref l))(hz:xs.length<=1000)
 (hk:k<σ.length)(Zg: ∀(H':Hp)(A_:L2.St)(a:Addr)(x:Num),A_[k]? =some (some (.ref a))->BY C H' a x->AQ H H'->Ev te A_ H' (φ x))
 (q: ∀D H',AQ H H'->H' D=some (.lst (xs.map φ))->Q (.ref D) H'):R6 (WO K tl) (HN k) Wq te [k] σ H Q:=by
 obtain⟨as,h1,h2,h3⟩:=hL;refine hl _ ⟨l,rfl,⟨_,BL h1⟩,fun D hD=>?_⟩;refine Wr (xs:=as.map V.ref) (fun i H'=>AQ H H'/\H' D=some (.lst ((xs.take i).map φ))) ⟨AQ.new hD,AZ⟩ (fun i H' _ p=>BL (p.1 _ _ h1)) ?_ ?_
 ·rintro i y H' hi ⟨s1,hd⟩;obtain⟨a,ha,rfl⟩: ∃a,as[i]? =some a/\y=V.ref a:=by
   rw [De]at hi;cases e:as[i]? with
   |none=>rw [e]at hi;cases hi
   |some a=>rw [e]at hi;exact⟨a,rfl,(BQ hi).symm⟩
  obtain⟨x,hx⟩: ∃x,xs[i]? =some x:=by
   have :=(Fi.mp ha).1;exact⟨_,FY (by lia)⟩
  have hp:=(h3 i a x ha hx).same s1;refine⟨?_,?_⟩
  ·show((σ.set k none).set k (some (V.ref a))).set k none=σ.set k none;rw [RV,RV]
  ·refine Zg H' _ a x ?_ hp s1 _ ⟨_,hd,?_,?_⟩
   ·show((σ.set k none).set k (some (V.ref a)))[k]? =_;rw [RV,My hk]
   ·rw [A5,DV];exact Cb (oy _ _) (Cb hz dd)
   ·refine⟨fun b o e=>?_,?_⟩
    ·rw [BC (D4 e hD)];exact s1 b o e
    ·have e1:xs.take (i+1)=xs.take i++[x]:=by rw [M9,hx];rfl
     rw [AZ,e1,Jm];rfl
 ·rintro H' ⟨s1,hd⟩;have e:(as.map V.ref).length=xs.length:=by rw [A5];exact h2
  rw [e,Ip]at hd;exact q D H' s1 hd
def wD(C:Addr):Sp:=fun vs H Q _=> ∃(l:Addr)(xs:List Num),vs=[.ref l]/\JJ C H l xs/\xs.length<=1000/\ ∀H',AQ H H'->Q (.bl (xs.any BH)) H'
def gM:mg "any"=none:=rat 6 rfl
def J2:Df "has_nan" 2 ["numbers"] (wD CP):=by
 refine(AW 24 rfl).go ["numbers","number"] ?_;rintro S _ _ _ _ _ _ H _ Q _ hr ⟨l,xs,rfl,hL,hz,q⟩;refine⟨_,(pR (Cf (dX rfl) (by rfl) gM gG (AB (PR (own:=[("number",1)]) rfl S (NP (pv 0)) (by show Kv ["numbers","number"] (Cw (top 48)) _ _;exact⟨rfl,by decide+kernel,by decide+kernel,by decide+kernel,by decide+kernel⟩) (fun _ _ _ _ _=>FF (i:=1) S rfl (Or.inl rfl)) (fun _ _ _ _ _=>PQ) (fun _ _ _ _ _=>by exact(pD hr K9 (pO 1)))) AL))),?_⟩;dsimp only [Jt,G3,Kq,tB,Ba];refine gL (C:=CP) (φ:=fun x=>.bl (BH x)) hL ?_ hz ?_ ?_ ?_
 ·exact AH rfl
 ·show 1<2;decide
 ·exact fun H' A_ a x h1 h2 _ Q' k=>⟨_,h1,a,x,rfl,h2,k⟩
 refine fun D H' s1 hd=>⟨D,xs.map BH,rfl,BL (by rw [hd,Ir];rfl),?_⟩
 have e:(xs.map BH).any id=xs.any BH:=by rw [o8];rfl
 rw [e];exact q H' s1
def wF(C:Addr):Sp:=fun vs H Q _=> ∃(l:Addr)(xs:List Num),vs=[.ref l]/\JJ C H l xs/\xs.length<=1000/\ ∀H',AQ H H'->Q (.int (if xs.any Dr=true then 16 else 0)) H'
def Xe:Df "nan_flags" 2 ["numbers"] (wF CP):=by
 refine(AW 25 rfl).go ["numbers","number"] ?_;rintro S _ _ _ _ _ _ H _ Q _ _ ⟨l,xs,rfl,hL,hz,q⟩;refine⟨_,(pR (Bq (Bz (Cf (dX rfl) (by rfl) gM gG (AB (PR (own:=[("number",1)]) rfl S (NP (pv 0)) (by show Kv ["numbers","number"] (Cw (top 49)) _ _;exact⟨rfl,by decide+kernel,by decide+kernel,by decide+kernel,by decide+kernel⟩) (fun _ _ _ _ _=>FF (i:=1) S rfl (Or.inl rfl)) (fun _ _ _ _ _=>PQ) (fun _ _ _ _ _=>by exact(C0 Ae (uE rfl (pv 1) rfl) (pG J1)))) AL))) (pG P2) AE)),?_⟩;dsimp only [Jt,G3,Kq,tB,Ba];refine gL (C:=CP) (φ:=fun x=>.bl (Dr x)) hL ?_ hz ?_ ?_ ?_
 ·exact AH rfl
 ·show 1<2;decide
 ·intro H' A_ a x h1 h2 _ Q' k';obtain⟨dx,k,s,z,e,ha,hx⟩:=h2;refine⟨_,h1,a,CP,dx,_,_,rfl,ha,AN.cl,AN.kind,C3,rfl,?_⟩;rw [K6,Nu hx];exact k'
 ·refine fun D H' s1 hd=>⟨D,xs.map Dr,rfl,BL (by rw [hd,Ir];rfl),_,rfl,?_⟩
  have e:(xs.map Dr).any id=xs.any Dr:=by rw [o8];rfl
  rw [e];have q':=q H' s1;refine D6 (fun h=>?_) (fun h=>?_)
  ·rw [AG h]at q';exact q'
  ·rw [AD (by rw [h];decide)]at q';exact q'
def wG(C:Addr):Sp:=fun vs H Q _=> ∃(l:Addr)(xs:List Num),vs=[.ref l]/\JJ C H l xs/\xs.length<=1000/\ ∀H' p,A2 H' p (M_ QUAD xs)->AQ H H'->Q (.ref p) H'
def MP:
 Df "nan_answer" 3 ["numbers"] (wG CP):=by
 refine(AW 26 rfl).go ["numbers"] ?_;rintro _ _ _ _ _ _ _ H _ Q _ hr ⟨l,xs,rfl,hL,hz,q⟩;refine⟨_,(pR (Ay (AB (pG S6) (AB (pD hr Xe (pO 0)) AL)))),?_⟩;refine⟨_,rfl,l,xs,rfl,hL,hz,fun H1 s1=>⟨dz,fun p hp=>q _ p ?_ (s1.trans (AQ.new hp))⟩⟩;have e:((M_ QUAD xs).1:Int)=170138587312039964317873038467719495680:=by
  show((QUAD.canonical:Nat):Int)=_;decide
 have e2:((M_ QUAD xs).2:Int)=(if xs.any Dr=true then 16 else 0):=by
  show(((if xs.any Dr=true then Qu.NV else 0:Nat)):Int)=_;split<;>rfl
 unfold A2;rw [AZ,e,e2]
def Hc(x:Num):Prop:=match x with
 |.fin _ m e=>m≠0->S0 (m:Int) e
 |_=>True
def gN(C:Addr):Sp:=fun vs H Q _=> ∃a x m,vs=[.ref a,.int m]/\BY C H a x/\Hc x/\(0<=m/\m<=4)/\ ∀H' l,A2 H' l (Ds QUAD m.toNat x)->AQ H H'->Q (.ref l) H'
def JJ.one(h:H l=some (.lst [.ref a]))(ha:BY C H a x):JJ C H l [x]:=⟨[a],h,rfl,fun i b y h1 h2=>by
 match i,h1,h2 with
 |0,h1,h2=>cases (BQ h1);cases (BQ h2);exact ha
 |i+1,h1,h2=>simp at h1⟩
def IP(h:a≠0):Ds f m (.fin n a e)=Es f m n (F3 a 1 e):=by
 show(if a=0 then _ else _)=_;rw [AD h]
def wH(C:Addr)(K:Aj):Sp:=fun vs H Q _=> ∃a p f x m,vs=[.ref a,.ref p,.int m]/\Fu K H a f/\BY C H p x/\Hc x/\(0<=m/\m<=4)/\ ∀H' l,A2 H' l (Ds f m.toNat x)->AQ H H'->Q (.ref l) H'
def gO:Df "put_together" 6 ["form","number","mode"] (wH CP K):=by
 refine(AW 27 rfl).go ["form","number","mode"] ?_;rintro _ _ _ _ _ _ _ H _ Q _ hr ⟨ad,a,f,x,m,rfl,hf,hp,hz,hm,q⟩;obtain⟨dx,k,s,z,e,ha,hx⟩:=id hp;refine⟨_,(AJ (Ag (AX L8 (AR (pv 1) rfl) (pG Nr)) (pR (Ay (AB (pD hr vp (pO 0)) (AB (Bq (AX Ae (AR (pv 1) rfl) (pG J1)) (pG P2) AE) AL)))) Ai) (AJ (Ag (AX Ae (AR (pv 1) rfl) (pG D7)) (pR (Ay (AB (pD hr Xa (pW 0 (AB (AR (pv 1) rfl) AL))) (AB AE AL)))) Ai) (AJ (Ag (AX Ae (AR (pv 1) rfl) (pG Hb)) (pR (Ay (AB (pD hr XZ (pW 0 (AB (AR (pv 1) rfl) AL))) (AB AE AL)))) Ai) (pR (pD hr v5 (pW 0 (AB (AR (pv 1) rfl) (AB (AR (pv 1) rfl) (AB (AR (pv 1) rfl) (pO 2)))))))))),?_⟩;have kx: ∀σ:L2.St,σ[1]? =some (some (.ref a))->Ev (BJ K (Aa 1) "kind") σ H (.int k):=fun σ h=>Ax (AH h) ha AN.cl AN.kind C3
 refine Bf ((Ac (CO (kx _ rfl) AI)).to (gK hx)) (fun h1=>?_) (fun h1=>?_)
 ·cases x with
  |nan b=>
   refine⟨_,rfl,ad,f,rfl,hf,?_⟩;refine(B5 (v:=.int (if b=true then 16 else 0)) ((Ac (An (kx _ rfl) AI)).to (Nu hx)) (fun e=>by rw [show b=true from e];exact AI) (fun e=>by rw [show b=false from e];exact AI)) _ ?_;refine⟨dz,fun l hl=>q _ l ?_ (AQ.new hl)⟩;unfold A2;rw [AZ];show some (HO.lst [.int ((f.canonical:Nat):Int),.int (if b=true then 16 else 0)])=some (HO.lst [.int ((f.canonical:Nat):Int),.int ((if([Ec b].any Dr)=true then Qu.NV else 0:Nat):Int)]);cases b<;>rfl
  |inf n=>cases h1
  |fin n mm p=>cases h1
 ·refine Bf (Ac (An (kx _ rfl) AI)) (fun h2=>?_) (fun h2=>?_)
  ·have h2:k=2:=Au h2;cases x with
   |nan b=>cases h1
   |inf n=>
    refine⟨_,rfl,_,rfl,a,CP,dx,_,_,rfl,ha,AN.cl,AN.sign,DR,ad,f,_,rfl,hf,by rw [hx.2];exact C7 n,dz,fun l hl=>q _ l ?_ (AQ.new hl)⟩;unfold A2;rw [AZ,hx.2];have :decide (sg n=1)=n:=by cases n<;>rfl
    rw [this];rfl
   |fin n mm p=>
    rw [hx.1]at h2;split at h2<;>cases h2
  ·have h2:k≠2:=BA h2;refine Bf (Ac (An (kx _ rfl) AI)) (fun h3=>?_) (fun h3=>?_)
   ·have h3:k=0:=Au h3;cases x with
    |nan b=>cases h1
    |inf n=>exact absurd hx.1 h2
    |fin n mm p=>
     have U5:mm=0:=by
      rcases Dq mm with y|y
      ·exact y
      ·rw [hx.1,AD (by lia)]at h3;cases h3
     refine⟨_,rfl,_,rfl,a,CP,dx,_,_,rfl,ha,AN.cl,AN.sign,DR,ad,f,_,rfl,hf,by rw [hx.2.1];exact C7 n,dz,fun l hl=>q _ l ?_ (AQ.new hl)⟩;unfold A2;have :decide (sg n=1)=n:=by cases n<;>rfl
     rw [AZ,hx.2.1,this];unfold Ds;rw [U5];rfl
   ·have h3:k≠0:=BA h3;cases x with
    |nan b=>cases h1
    |inf n=>exact absurd hx.1 h2
    |fin n mm p=>
     have U5:mm≠0:=fun y=>h3 (by rw [hx.1,AG y])
     have hsz:=hz U5;obtain⟨k1,k2,k3,k4⟩:=hx;subst k2 k3 k4;have :decide (sg n=1)=n:=by cases n<;>rfl
     refine⟨_,rfl,_,rfl,a,CP,dx,_,_,rfl,ha,AN.cl,AN.sign,DR,_,rfl,a,CP,dx,_,_,rfl,ha,AN.cl,AN.size,EV,_,rfl,a,CP,dx,_,_,rfl,ha,AN.cl,AN.power,DQ,_,rfl,ad,f,_,_,_,_,rfl,hf,C7 n,hsz,hm,?_⟩;intro H' l h4 s1;rw [Am,this]at h4;refine q H' l ?_ s1;rw [IP U5];exact h4
def G8:Df "as_quad" 7 ["number","mode"] (gN CP):=by
 refine(AW 28 rfl).go ["number","mode"] ?_;rintro _ _ _ _ _ _ _ H _ Q _ hr ⟨a,x,m,rfl,hp,hz,hm,q⟩;refine⟨_,(pR (pD hr gO (AB (F6 rfl gH) (pW 0 (pO 1))))),?_⟩;exact⟨_,rfl,_,rfl,aq,a,QUAD,x,m,rfl,hQ _,hp,hz,hm,q⟩
end
end Q3
namespace QM
set_option tactic.hygienic true
open Qu
noncomputable def Bo(x y:Num):Bool:=match x,y with
 |.inf _,.fin _ b _=>b==0
 |.fin _ a _,.inf _=>a==0
 |_,_=>false
noncomputable def BI(b:Bool)(x:Num):Num:=if b=true then opposite x else x
def QN(x:Num):Prop:=match x with
 |.fin _ m e=>m<2^113/\ -16494<=e/\e<=16271
 |_=>True
def FO(b:Nat):QN (num QUAD b):=by
 by_cases h:expoOf QUAD b=2^QUAD.ebits-1
 ·rw [MK h];split<;>exact Dd
 ·rw [Ft h];have h1:=F7 QUAD b;have h2:=Sm QUAD b;have e1:2^QUAD.ebits=32768:=by decide
  have e2:QUAD.unit= -16494:=by decide
  have e3:QUAD.fbits=112:=rfl;rw [e1]at h h2;rw [e3]at h1;rw [e2];refine⟨?_,by lia,by lia⟩;have e4:2^113=2*2^112:=by decide
  rw [e3,e4];have :=Al 112;split<;>lia
def K_(b:Bool)(x:Num):isNan (BI b x)=isNan x:=by
 cases b<;>cases x<;>rfl
def gP(b:Bool)(x:Num):signals (BI b x)=signals x:=by
 cases b<;>cases x<;>rfl
def wI(x y:Num)(b:Bool):nans f [x,BI b y]=nans f [x,y]:=by
 have e:([x,BI b y]:List Num).any signals=([x,y]:List Num).any signals:=by
  simp only [Jf,List.any_nil,gP]
 unfold nans;rw [e]
def gQ(h:(isNan x||isNan y)=true):add f m x y=nans f [x,y]:=by
 cases x<;>cases y<;>first|rfl|cases h
def wJ:sub f m x y=add f m x (BI true y):=rfl
def wK(h:(isNan x||isNan y)=true):mul f m x y=nans f [x,y]:=by
 cases x<;>cases y<;>first|rfl|cases h
def wL(h:(isNan x||isNan y)=true):div f m x y=nans f [x,y]:=by
 cases x<;>cases y<;>first|rfl|cases h
def wM(h:Bo x y=true):mul f m x y=invalid f:=by
 cases x<;>cases y<;>first|cases h|skip
 ·rename_i s t b e;have hb:b=0:=eq_of_beq h;show(if b=0 then invalid f else _)=_;rw [AG hb]
 ·rename_i s a d t;have ha:a=0:=eq_of_beq h;show(if a=0 then invalid f else _)=_;rw [AG ha]
def wN(h:Bo x y=false)(hn:(isNan x||isNan y)=false):mul f m x y=convert f m (times x y):=by
 cases x<;>cases y<;>first|cases hn|skip
 ·rfl
 ·rename_i s t b e;have hb:b≠0:=fun z=>by subst z;cases h
  show(if b=0 then invalid f else _)=convert f m (if b=0 then _ else _);rw [AD hb,AD hb];rfl
 ·rename_i s a d t;have ha:a≠0:=fun z=>by subst z;cases h
  show(if a=0 then invalid f else _)=convert f m (if a=0 then _ else _);rw [AD ha,AD ha];rfl
 ·rfl
def wO(h:Bo x y=true):fma f m x y z=invalid f:=by
 cases x<;>cases y<;>first|cases h|skip
 ·rename_i s t b e;have hb:(b==0)=true:=h;cases z with
  |nan q=>show fmaInf f (s !=t) (b==0) (.nan q)=_;rw [hb];rfl
  |inf u=>show fmaInf f (s !=t) (b==0) (.inf u)=_;rw [hb];rfl
  |fin u c g=>show fmaInf f (s !=t) (b==0) (.fin u c g)=_;rw [hb];rfl
 ·rename_i s a d t;have ha:(a==0)=true:=h;cases z with
  |nan q=>show fmaInf f (s !=t) (a==0) (.nan q)=_;rw [ha];rfl
  |inf u=>show fmaInf f (s !=t) (a==0) (.inf u)=_;rw [ha];rfl
  |fin u c g=>show fmaInf f (s !=t) (a==0) (.fin u c g)=_;rw [ha];rfl
def wQ(h:Bo x y=false)(hn:[x,y,z].any isNan=true):fma f m x y z=nans f [x,y,z]:=by
 have k: ∀(n:Bool)(q:Bool),fmaInf f n false (.nan q)=(f.canonical,if q=true then NV else 0):=fun _ _=>rfl
 cases x<;>cases y<;>cases z<;>first|rfl|cases hn|skip
 ·rename_i s t b e q;have hb:(b==0)=false:=h;show fmaInf f (s !=t) (b==0) (.nan q)=_;rw [hb,k];cases q<;>rfl
 ·rename_i s a d t q;have ha:(a==0)=false:=h;show fmaInf f (s !=t) (a==0) (.nan q)=_;rw [ha,k];cases q<;>rfl
def wR(h:Bo x y=false)(hn:[x,y,z].any isNan=false):fma f m x y z=add f m (times x y) z:=by
 have nx:isNan x=false:=by cases x<;>first|rfl|cases hn
 have ny:isNan y=false:=by cases x<;>cases y<;>first|rfl|cases hn|cases nx
 cases x<;>cases y<;>first|cases nx;done|cases ny;done|skip
 ·rename_i s t;cases z with
  |nan q=>cases hn
  |inf u=>
   show(if(s !=t)=u then inf f u else invalid f)=(if(s !=t)=u then inf f (s !=t)else invalid f);by_cases c:(s !=t)=u
   ·rw [AG c,AG c,c]
   ·rw [AD c,AD c]
  |fin u c g=>rfl
 ·rename_i s t b e;have hb:b≠0:=fun z=>by subst z;cases h
  have OQ:(b==0)=false:=by simpa using hb
  have et:times (.inf s) (.fin t b e)=.inf (s !=t):=by
   show(if b=0 then Ec true else .inf (s !=t))=_;rw [AD hb]
  cases z with
  |nan q=>cases hn
  |inf u=>
   rw [et];show fmaInf f (s !=t) (b==0) (.inf u)=(if(s !=t)=u then inf f (s !=t)else invalid f);rw [OQ];show(if(s !=t)=u then inf f u else invalid f)=_;by_cases c:(s !=t)=u
   ·rw [AG c,AG c,c]
   ·rw [AD c,AD c]
  |fin u c g=>
   rw [et];show fmaInf f (s !=t) (b==0) (.fin u c g)=inf f (s !=t);rw [OQ];rfl
 ·rename_i s a d t;have ha:a≠0:=fun z=>by subst z;cases h
  have Uy:(a==0)=false:=by simpa using ha
  have et:times (.fin s a d) (.inf t)=.inf (s !=t):=by
   show(if a=0 then Ec true else .inf (s !=t))=_;rw [AD ha]
  cases z with
  |nan q=>cases hn
  |inf u=>
   rw [et];show fmaInf f (s !=t) (a==0) (.inf u)=(if(s !=t)=u then inf f (s !=t)else invalid f);rw [Uy];show(if(s !=t)=u then inf f u else invalid f)=_;by_cases c:(s !=t)=u
   ·rw [AG c,AG c,c]
   ·rw [AD c,AD c]
  |fin u c g=>
   rw [et];show fmaInf f (s !=t) (a==0) (.fin u c g)=inf f (s !=t);rw [Uy];rfl
 ·rename_i s a d t b e;cases z with
  |nan q=>cases hn
  |inf u=>rfl
  |fin u c g=>rfl
def Xf(b:Bool)(x y:Num):Bo (BI b x) y=Bo x y:=by
 cases b<;>cases x<;>cases y<;>rfl
def wU(b:Bool)(hn:(isNan x||isNan y)=false)(h:Bo x y=false):times (BI b x) y=BI b (times x y):=by
 cases b
 ·rfl
 ·cases x<;>cases y<;>first|cases hn|skip
  ·rename_i s t;show RW ((!s) !=t)=RW (!(s !=t));cases s<;>cases t<;>rfl
  ·rename_i s t c e;have hc:c≠0:=fun z=>by subst z;cases h
   show(if c=0 then Ec true else .inf ((!s) !=t))=opposite (if c=0 then Ec true else .inf (s !=t));rw [AD hc,AD hc];show RW ((!s) !=t)=RW (!(s !=t));cases s<;>cases t<;>rfl
  ·rename_i s a d t;have ha:a≠0:=fun z=>by subst z;cases h
   show(if a=0 then Ec true else .inf ((!s) !=t))=opposite (if a=0 then Ec true else .inf (s !=t));rw [AD ha,AD ha];show RW ((!s) !=t)=RW (!(s !=t));cases s<;>cases t<;>rfl
  ·rename_i s a d t c e;show Num.fin ((!s) !=t) (a*c) (d+e)=Num.fin (!(s !=t)) (a*c) (d+e);cases s<;>cases t<;>rfl
def wV(hd:k<=d)(he:k<=e)(h:whole s a d k+whole t b e k=0)(hs:s=t):a=0/\b=0:=by
 subst hs;have p1:=Al (d-k).toNat;have p2:=Al (e-k).toNat;have z: ∀x y:Nat,0<y->x*y=0->x=0:=fun x y hy h=>by
  rcases Vl.mp h with q|q<;>lia
 unfold whole at h;cases s
 ·rw [AD (by decide),AD (by decide)]at h;exact⟨z _ _ p1 (by lia),z _ _ p2 (by lia)⟩
 ·rw [AG rfl,AG rfl]at h;exact⟨z _ _ p1 (by lia),z _ _ p2 (by lia)⟩
set_option tactic.hygienic false
end QM
namespace Q3
open PySem PySem.Spec PyProof.Rows L2
open Qu (Fmt Num restOf ratioAt rounded QUAD)
open QM (Bo BI QN)
def Xg:bootBuiltins "min"=some (.builtin "min"):=boot_min
def S7:bootBuiltins "abs"=some (.builtin "abs"):=boot_abs
def G9(x:Num):Bool:=match x with
 |.inf _=>true
 |_=>false
noncomputable def IQ(x:Num):Bool:=match x with
 |.fin _ m _=>decide (m=0)
 |_=>false
def FP(h:ML k s z e x):decide (k=2)=G9 x:=by
 cases x with
 |nan q=>
  rw [h.1];cases q<;>rfl
 |inf n=>rw [h.1];rfl
 |fin n m p=>
  rw [h.1];split<;>rfl
def J3(h:ML k s z e x):decide (k=0)=IQ x:=by
 cases x with
 |nan q=>
  rw [h.1];cases q<;>rfl
 |inf n=>rw [h.1];rfl
 |fin n m p=>
  rw [h.1];show _=decide (m=0);by_cases c:m=0
  ·rw [AG c,Bi c];rfl
  ·rw [AD c,Bh c];rfl
def CL(n:Bool):decide (sg n=1)=n:=by cases n<;>rfl
def F8:sg s=sg t↔s=t:=by cases s<;>cases t<;>simp [sg]
def gR(s t:Bool):Mz (sg s) (sg t)=sg (s !=t):=by
 cases s<;>cases t<;>decide
def JK(x:Num):Prop:=match x with
 |.fin _ m e=>Aq (m:Int)<=300/\ -100000<=e/\e<=100000
 |_=>True
def IY(h:QN x):JK x:=by
 cases x with
 |nan q=>exact Dd
 |inf n=>exact Dd
 |fin n m e=>exact⟨A9 (Cg h.1) dd,by have :=h.2;lia,by have :=h.2;lia⟩
section
variable{C:Addr}
def wW(C:Addr):Sp:=fun vs H Q _=> ∃(a b:Addr)(x y:Num)(m:Nat),vs=[.ref a,.ref b]/\BY C H a x/\BY C H b y/\BH x=false/\BH y=false/\(G9 x||G9 y)=true/\
 ∀H' l,A2 H' l (Qu.add QUAD m x y)->AQ H H'->Q (.ref l) H'
def wX:
 Df "add_infinite" 2 ["x","y"] (wW CP):=by
 refine(AW 29 rfl).go ["x","y"] ?_;rintro _ _ _ _ _ _ _ H _ Q _ hr ⟨a,b,x,y,m,rfl,⟨dx,k,s,z,e,ha,hx⟩,⟨dy,k',s',z',e',hb,hy⟩,nx,ny,hi,q⟩;refine⟨_,(AJ (Ag (PW.pt (JC (AX Ae (AR (pv 0) rfl) (pG D7)) (JC (AX Ae (AR (pv 1) rfl) (pG D7)) (Kp (AX L7 (AR (pv 0) rfl) (AR (pv 1) rfl)))))) (pR (Gg hr MO)) Ai) (pR (Ay (AB (pD hr S5 (AB (Bq (AX Ae (AR (pv 0) rfl) (pG D7)) (AR (pv 0) rfl) (AR (pv 1) rfl)) AL)) (AB AE AL))))),?_⟩;have kx: ∀σ:L2.St,σ[0]? =some (some (.ref a))->Ev (BJ K (Aa 0) "kind") σ H (.int k):=fun σ h=>Ax (AH h) ha AN.cl AN.kind C3
 have ky: ∀σ:L2.St,σ[1]? =some (some (.ref b))->Ev (BJ K (Aa 1) "kind") σ H (.int k'):=fun σ h=>Ax (AH h) hb AN.cl AN.kind C3
 have sx: ∀σ:L2.St,σ[0]? =some (some (.ref a))->Ev (BJ K (Aa 0) "sign") σ H (.int s):=fun σ h=>Ax (AH h) ha AN.cl AN.sign DR
 have sy: ∀σ:L2.St,σ[1]? =some (some (.ref b))->Ev (BJ K (Aa 1) "sign") σ H (.int s'):=fun σ h=>Ax (AH h) hb AN.cl AN.sign DR
 refine G6 (KL (Ac (An (kx _ rfl) AI)) (KL (Ac (An (ky _ rfl) AI)) (Ac (Mh (sx _ rfl) (sy _ rfl))))) (fun h1=>?_) (fun h1=>?_)
 ·rw [FP hx,FP hy,BK,BK]at h1;refine⟨rfl,fun H' l h2 s1=>q H' l ?_ s1⟩;obtain⟨c1,c2,c3⟩:=h1;cases x with
  |nan b=>cases nx
  |fin _ _ _=>cases c1
  |inf n=>
   cases y with
   |nan b=>cases ny
   |fin _ _ _=>cases c2
   |inf n'=>
    rw [hx.2,hy.2]at c3;have ne:n≠n':=fun z=>by subst z;simp at c3
    show A2 H' l (if n=n' then HI QUAD n else Oq QUAD);rw [AD ne];exact h2
 ·rw [FP hx,FP hy]at h1;have fin: ∀n:Bool,Qu.add QUAD m x y=HI QUAD n->Ev (Kq (JF (Br PJ (BJ K (Aa 0) "kind") (tC (.int 2)))) (BJ K (Aa 0) "sign") (BJ K (Aa 1) "sign")) (L2.start ["x","y"] [.ref a,.ref b]) H (.int (sg n))->
   Jt (NT (Ba (DE gI [] E0 (Ba (Kq (JF (Br PJ (BJ K (Aa 0) "kind") (tC (.int 2)))) (BJ K (Aa 0) "sign") (BJ K (Aa 1) "sign")) B3)) (Ba (tC (.int 0)) B3))) {nx:=fun _ H'=>Q .BZ H',rt:=Q} (L2.start ["x","y"] [.ref a,.ref b]) H:=fun n e1 ev=>
   ev _ ⟨sg n,rfl,C7 n,dz,fun l hl=>q _ l (by unfold A2;rw [AZ,e1,CL];rfl) (AQ.new hl)⟩
  cases x with
  |nan b=>cases nx
  |inf n=>
   refine fin n ?_ (B5 (Ac (An (kx _ rfl) AI)) (fun _=>(sx _ rfl).to (by rw [hx.2])) (fun c=>by rw [hx.1]at c;cases c));cases y with
   |nan b=>cases ny
   |fin _ _ _=>rfl
   |inf n'=>
    have e:n=n':=by
     rw [hx.2,hy.2]at h1;simp only [G9,GU,AF2,Bw,F8]at h1;exact h1
    show(if n=n' then HI QUAD n else Oq QUAD)=_;rw [AG e]
  |fin n mm p=>
   cases y with
   |nan b=>cases ny
   |fin _ _ _=>cases hi
   |inf n'=>exact fin n' rfl (B5 (Ac (An (kx _ rfl) AI)) (fun c=>by rw [FP hx]at c;cases c) (fun _=>(sy _ rfl).to (by rw [hy.2])))
def wY(C:Addr):Sp:=fun vs H Q _=> ∃a b x y m,vs=[.ref a,.ref b,.int m]/\BY C H a x/\BY C H b y/\(∃s' i j,x=.fin s' i j)/\(∃s' i j,y=.fin s' i j)/\
 ∀r:Bool,(∀n n',(∃i j,x=.fin n i j)->(∃i j,y=.fin n' i j)->r=if(IQ x&&IQ y&&decide (n=n'))=true then n else decide (m=2))->Q (.int (sg r)) H
def wZ:Df "zero_sum_sign" 1 ["x","y","mode"] (wY CP):=by
 refine(AW 30 rfl).go ["x","y","mode"] ?_;rintro _ _ _ _ _ _ _ H _ Q _ hr ⟨a,b,x,y,m,rfl,⟨dx,k,s,z,e,ha,hx⟩,⟨dy,k',s',z',e',hb,hy⟩,⟨n,i,j,ex⟩,⟨n',i',j',ey⟩,q⟩;subst ex ey;refine⟨_,(AJ (Ag (PW.pt (JC (AX Ae (AR (pv 0) rfl) (pG Hb)) (JC (AX Ae (AR (pv 1) rfl) (pG Hb)) (Kp (AX Ae (AR (pv 0) rfl) (AR (pv 1) rfl)))))) (pR (AR (pv 0) rfl)) Ai) (pR (Bq (AX Ae (pv 2) (pG Sy)) AE AE))),?_⟩;have kx: ∀σ:L2.St,σ[0]? =some (some (.ref a))->Ev (BJ K (Aa 0) "kind") σ H (.int k):=fun σ h=>Ax (AH h) ha AN.cl AN.kind C3
 have ky: ∀σ:L2.St,σ[1]? =some (some (.ref b))->Ev (BJ K (Aa 1) "kind") σ H (.int k'):=fun σ h=>Ax (AH h) hb AN.cl AN.kind C3
 have sx: ∀σ:L2.St,σ[0]? =some (some (.ref a))->Ev (BJ K (Aa 0) "sign") σ H (.int s):=fun σ h=>Ax (AH h) ha AN.cl AN.sign DR
 have sy: ∀σ:L2.St,σ[1]? =some (some (.ref b))->Ev (BJ K (Aa 1) "sign") σ H (.int s'):=fun σ h=>Ax (AH h) hb AN.cl AN.sign DR
 have out: ∀r:Bool,r=(if(IQ (.fin n i j)&&IQ (.fin n' i' j')&&decide (n=n'))=true then n else decide (m=2))->Q (.int (sg r)) H:=fun r hr=>q r fun n1 n2 ⟨i1,j1,e1⟩ ⟨i2,j2,e2⟩=>by
  injection e1 with e1
  injection e2 with e2
  subst e1 e2;exact hr
 have eb:(decide (k=0)&&(decide (k'=0)&&decide (s=s')))=(IQ (.fin n i j)&&IQ (.fin n' i' j')&&decide (n=n')):=by
  rw [J3 hx,J3 hy,hx.2.1,hy.2.1,Bool.and_assoc];simp only [F8]
 refine G6 ((KL (Ac (An (kx _ rfl) AI)) (KL (Ac (An (ky _ rfl) AI)) (Ac (An (sx _ rfl) (sy _ rfl))))).to eb) (fun h1=>?_) (fun h1=>?_)
 ·refine EU (sx _ rfl) ?_;rw [hx.2.1];exact out n (by rw [AG h1])
 ·refine EU (v:=.int (sg (decide (m=2)))) (B5 (Ac (An (AH rfl) AI)) (fun c=>by rw [c];exact AI) (fun c=>by rw [c];exact AI)) ?_;exact out _ (by rw [AD (by rw [h1];decide)])
def wc(C:Addr):Sp:=fun vs H Q _=> ∃(a:Addr)(n:Bool)(m:Nat)(e p:Int),vs=[.ref a,.int p]/\BY C H a (.fin n m e)/\Aq (m:Int)<=300/\p<=e/\e-p<=1000000/\Q (.int (Ed n m e p)) H
def Xh:Df "signed_count" 1 ["number","power"] (wc CP):=by
 refine(AW 31 rfl).go ["number","power","count"] ?_;rintro S _ _ _ _ _ _ H _ Q _ _ ⟨a,n,m,e,p,rfl,⟨dx,k,s,z,e',ha,hk,hs,hz,he⟩,hm,h1,h2,q⟩;subst hs hz he;refine⟨_,(AJ (pS 2 S (AK DF (AR (pv 0) rfl) (AK BP (AR (pv 0) rfl) (pv 1)))) (pR (Bq (AX Ae (AR (pv 0) rfl) AE) (Eu FG (pv 2)) (pv 2)))),?_⟩;have sx: ∀σ:L2.St,σ[0]? =some (some (.ref a))->Ev (BJ K (Aa 0) "sign") σ H (.int (sg n)):=fun σ h=>Ax (AH h) ha AN.cl AN.sign DR
 refine BD (BS (Ax (AH rfl) ha AN.cl AN.size EV) (A1 (Ax (AH rfl) ha AN.cl AN.power DQ) (AH rfl)) ⟨(by lia),(by lia),(by lia)⟩) ?_;refine EU (v:=.int (Ed n m e' p)) (B5 (Ac (An (sx _ rfl) AI)) (fun c=>?_) (fun c=>?_)) q
 ·rw [CL]at c;refine(Ev.un (AH rfl)).to ?_;show V.int (-((m:Int)*2^(e'-p).toNat))=_;unfold Ed;rw [AG c,Ge]
 ·rw [CL]at c;refine(AH rfl).to ?_;show V.int ((m:Int)*2^(e'-p).toNat)=_;unfold Ed;rw [AD (by rw [c];decide),Ge]
end
def gS(i j:Int):(if j<i then j else i)=min i j:=by
 by_cases h:j<i
 ·rw [AG h];lia
 ·rw [AD h];lia
def we(i:Int):(if i<0 then -i else i)=(i.natAbs:Int):=by
 by_cases h:i<0
 ·rw [AG h];lia
 ·rw [AD h];lia
def gT{n:Bool}{m:Nat}{e k:Int}(h:Aq (m:Int)<=300)(h2:e-k<=200000):Aq (Ed n m e k)<=200300:=by
 have h1:m<2^300:=by
  have :=Vd.mp h;simpa using this
 have h3:m*2^(e-k).toNat <2^200300:=by
  have e1:2^200300=2^300*2^200000:=by rw [<-Ap]
  have e2:2^(e-k).toNat<=2^200000:=QM.CG (by lia);rw [e1];exact Bs ((Gw (BR _)).mpr h1) (NA _ e2)
 refine Vd.mpr ?_;unfold Ed;cases n
 ·rw [AD dd,Ht];exact h3
 ·rw [AG rfl,Int.natAbs_neg,Ht];exact h3
def wg(z:Int):Aq ((z.natAbs:Nat):Int)=Aq z:=by
 unfold Aq pN;by_cases h:z=0
 ·subst h;rfl
 ·rw [AD (by simpa using h),AD (by simpa using h),Ht]
section
variable{C:Addr}
def wj(C:Addr):Sp:=fun vs H Q _=> ∃a b x y m,vs=[.ref a,.ref b,.int m]/\BY C H a x/\BY C H b y/\BH x=false/\BH y=false/\JK x/\JK y/\(0<=m/\m<=4)/\
 ∀H' l,A2 H' l (Qu.add QUAD m.toNat x y)->AQ H H'->Q (.ref l) H'
def Xi:mg "min"=none:=rat 7 rfl
def S8:mg "abs"=none:=rat 8 rfl
def Xj:
 Df "add" 8 ["x","y","mode"] (wj CP):=by
 refine(AW 32 rfl).go ["x","y","mode","power","total"] ?_;rintro S _ _ _ _ _ _ H _ Q _ hr ⟨a,b,x,y,m,rfl,px,py,nx,ny,zx,zy,hm,q⟩;obtain⟨dx,k,s,z,e,ha,hx⟩:=id px;obtain⟨dy,k',s',z',e',hb,hy⟩:=id py;refine⟨_,(AJ (Ag (PW.pt (Fb (AX Ae (AR (pv 0) rfl) (pG D7)) (Fn (AX Ae (AR (pv 1) rfl) (pG D7))))) (pR (pD hr wX (pW 0 (pO 1)))) Ai) (AJ (pS 3 S (Cf (WS rfl) (by rfl) Xi Xg (AB (AR (pv 0) rfl) (AB (AR (pv 1) rfl) AL)))) (AJ (pS 4 S (AK BX (pD hr Xh (pW 0 (pO 3))) (pD hr Xh (pW 1 (pO 3))))) (AJ (Ag (AX Ae (pv 4) AE) (pR (Ay (AB (pD hr S4 (AB (pD hr wZ (pW 0 (pW 1 (pO 2)))) AL)) (AB AE AL)))) Ai) (pR (pD hr G8 (AB (pD hr Fe (AB (Bq (AX Fo (pv 4) AE) AE AE) (AB (Cf Rz (by rfl) S8 S7 (pO 4)) (pO 3)))) (pO 2)))))))),?_⟩;have kx: ∀σ:L2.St,σ[0]? =some (some (.ref a))->Ev (BJ K (Aa 0) "kind") σ H (.int k):=fun σ h=>Ax (AH h) ha AN.cl AN.kind C3
 have ky: ∀σ:L2.St,σ[1]? =some (some (.ref b))->Ev (BJ K (Aa 1) "kind") σ H (.int k'):=fun σ h=>Ax (AH h) hb AN.cl AN.kind C3
 refine G6 ((GD (Ac (An (kx _ rfl) AI)) (Ac (An (ky _ rfl) AI))).to (b':=(G9 x||G9 y)) (by rw [FP hx,FP hy])) (fun h1=>?_) (fun h1=>?_)
 ·exact⟨_,rfl,_,rfl,a,b,x,y,m.toNat,rfl,px,py,nx,ny,h1,q⟩
 ·cases x with
  |nan b=>cases nx
  |inf n=>cases h1
  |fin n i j=>
   cases y with
   |nan b=>cases ny
   |inf n=>cases h1
   |fin n' i' j'=>
    obtain⟨k1,k2,k3,k4⟩:=hx;obtain⟨l1,l2,l3,l4⟩:=hy;subst k2 k3 k4 l2 l3 l4;refine⟨_,rfl,a,CP,dx,_,_,rfl,ha,AN.cl,AN.power,DQ,_,rfl,b,CP,dy,_,_,rfl,hb,AN.cl,AN.power,DQ,_,_,rfl,?_⟩;dsimp only;rw [gS];have hz1:=zx.1;have Qs:=zx.2;have hz3:=zy.1;have hz4:=zy.2;generalize hk:min e e'=p;have hW1:=gT (n:=n) (k:=p) hz1 (by lia:e-p<=200000);have hW2:=gT (n:=n') (k:=p) hz3 (by lia:e'-p<=200000);refine⟨_,rfl,_,rfl,a,n,i,e,p,rfl,px,zx.1,by lia,by lia,_,rfl,_,rfl,b,n',i',e',p,rfl,py,zy.1,by lia,by lia,_,_,rfl,rfl,?_⟩;dsimp only;have eA:Qu.add QUAD m.toNat (.fin n i e) (.fin n' i' e')=(if Ed n i e p+Ed n' i' e' p=0 then FX QUAD (if n=n' then n else m.toNat==2)else Es QUAD m.toNat (decide (Ed n i e p+Ed n' i' e' p<0)) (F3 (Ed n i e p+Ed n' i' e' p).natAbs 1 p)):=by
     rw [<-hk];rfl
    have hT:Aq (Ed n i e p+Ed n' i' e' p)<=200301:=intBits_add_le hW1 hW2;have nA:=QM.wV (s:=n) (t:=n') (a:=i) (b:=i') (d:=e) (e:=e') (k:=p) (by lia) (by lia);generalize Ed n i e p+Ed n' i' e' p=t at eA hT nA⊢;refine G6 (Ac (An (AH rfl) AI)) (fun h2=>?_) (fun h2=>?_)
    ·have Fy:t=0:=Au h2;rw [AG Fy]at eA;refine⟨_,rfl,_,rfl,_,rfl,a,b,_,_,m,rfl,px,py,⟨_,_,_,rfl⟩,⟨_,_,_,rfl⟩,fun r hr=>⟨sg r,rfl,C7 r,dz,fun l hl=>q _ l ?_ (AQ.new hl)⟩⟩;have hr':=hr n n' ⟨_,_,rfl⟩ ⟨_,_,rfl⟩;have er:r=(if n=n' then n else m.toNat==2):=by
      rw [hr'];by_cases c:n=n'
      ·obtain⟨i0,j0⟩:=nA Fy c;rw [AG c,AG];show(decide (i=0)&&decide (i'=0)&&decide (n=n'))=true;rw [Bi i0,Bi j0,Bi c];rfl
      ·rw [AD c,AD]
       ·exact Cd.mpr (by lia)
       ·rw [Bh c,ai];decide
     unfold A2;rw [AZ,eA,<-er,CL];rfl
    ·have Fy:t≠0:=BA h2;rw [AD Fy]at eA;refine(B5 (v:=.int (sg (decide (t<0)))) (Ac (CO (AH rfl) AI)) (fun c=>?_) (fun c=>?_)) _ ?_
     ·have c':t<0:=Au c;rw [Bi c'];exact AI
     ·have c': ¬t<0:=BA c;rw [Bh c'];exact AI
     refine⟨_,rfl,_,rfl,_,rfl,?_⟩;rw [we];refine⟨_,_,_,rfl,C7 _,CI _,fun H' c hc s1=>?_⟩;rw [CL,Am]at hc;refine⟨_,rfl,c,_,m,rfl,hc,fun _=>⟨by lia,by rw [wg];lia,by lia,by lia⟩,hm,fun H2 l h3 s2=>q H2 l ?_ (s1.trans s2)⟩;rw [IP (by lia)]at h3;rw [eA];exact h3
def gU(C:Addr):Sp:=fun vs H Q _=> ∃a b x y,vs=[.ref a,.ref b]/\BY C H a x/\BY C H b y/\Q (.bl (Bo x y)) H
def Xk:Df "is_infinity_by_zero" 1 ["x","y"] (gU CP):=by
 refine(AW 33 rfl).go ["x","y"] ?_;rintro _ _ _ _ _ _ _ H _ Q _ _ ⟨a,b,x,y,rfl,⟨dx,k,s,z,e,ha,hx⟩,⟨dy,k',s',z',e',hb,hy⟩,q⟩;refine⟨_,(pR (NL (L5 (C0 Ae (AR (pv 0) rfl) (pG D7)) (HM (C0 Ae (AR (pv 1) rfl) (pG Hb)))) (HM (L5 (C0 Ae (AR (pv 0) rfl) (pG Hb)) (HM (C0 Ae (AR (pv 1) rfl) (pG D7))))))),?_⟩;have kx: ∀σ:L2.St,σ[0]? =some (some (.ref a))->Ev (BJ K (Aa 0) "kind") σ H (.int k):=fun σ h=>Ax (AH h) ha AN.cl AN.kind C3
 have ky: ∀σ:L2.St,σ[1]? =some (some (.ref b))->Ev (BJ K (Aa 1) "kind") σ H (.int k'):=fun σ h=>Ax (AH h) hb AN.cl AN.kind C3
 refine EU ((Uh (OD (An (kx _ rfl) AI) (An (ky _ rfl) AI)) (OD (An (kx _ rfl) AI) (An (ky _ rfl) AI))).to (v':=.bl (Bo x y)) ?_) q;rw [FP hx,FP hy,J3 hx,J3 hy];refine congrArg V.bl ?_;cases x<;>cases y<;>first|rfl| (simp [G9,IQ,Bo];done)| (simp [G9,IQ,Bo];rfl)
def wk(C:Addr):Sp:=fun vs H Q _=> ∃a b x y,vs=[.ref a,.ref b]/\BY C H a x/\BY C H b y/\(BH x||BH y)=false/\Bo x y=false/\JK x/\JK y/\
 ∀H' p,BY C H' p (GV x y)->AQ H H'->Q (.ref p) H'
def Xl:
 Df "product" 4 ["x","y"] (wk CP):=by
 refine(AW 34 rfl).go ["x","y","sign"] ?_;rintro S _ _ _ _ _ _ H _ Q _ hr ⟨a,b,x,y,rfl,⟨dx,k,s,z,e,ha,hx⟩,⟨dy,k',s',z',e',hb,hy⟩,hn,hz,zx,zy,q⟩;refine⟨_,(AJ (pS 2 S (AK NQ (AR (pv 0) rfl) (AR (pv 1) rfl))) (AJ (Ag (PW.pt (Fb (AX Ae (AR (pv 0) rfl) (pG D7)) (Fn (AX Ae (AR (pv 1) rfl) (pG D7))))) (pR (pC hr IM (AB (pG D7) (pW 2 (AB AE (AB AE AL)))))) Ai) (pR (pD hr Fe (pW 2 (AB (AK FJ (AR (pv 0) rfl) (AR (pv 1) rfl)) (AB (AK BX (AR (pv 0) rfl) (AR (pv 1) rfl)) AL))))))),?_⟩;have kx: ∀σ:L2.St,σ[0]? =some (some (.ref a))->Ev (BJ K (Aa 0) "kind") σ H (.int k):=fun σ h=>Ax (AH h) ha AN.cl AN.kind C3
 have ky: ∀σ:L2.St,σ[1]? =some (some (.ref b))->Ev (BJ K (Aa 1) "kind") σ H (.int k'):=fun σ h=>Ax (AH h) hb AN.cl AN.kind C3
 obtain⟨n,hs⟩: ∃n,s=sg n:=by
  cases x with
  |nan b=>cases hn
  |inf n=>exact⟨n,hx.2⟩
  |fin n i j=>exact⟨n,hx.2.1⟩
 obtain⟨n',Zh⟩: ∃n,s'=sg n:=by
  cases y with
  |nan b=>cases x<;>cases hn
  |inf n=>exact⟨n,hy.2⟩
  |fin n i j=>exact⟨n,hy.2.1⟩
 subst hs Zh;refine BD (i:=2) ((A1 (Ax (AH rfl) ha AN.cl AN.sign DR) (Ax (AH rfl) hb AN.cl AN.sign DR)).to (v':=.int (sg (n !=n'))) (congrArg V.int (gR n n'))) ?_;refine G6 ((GD (Ac (An (kx _ rfl) AI)) (Ac (An (ky _ rfl) AI))).to (b':=(G9 x||G9 y)) (by rw [FP hx,FP hy])) (fun h1=>?_) (fun h1=>?_)
 ·refine⟨_,rfl,fun p dp np nd ne=>MM np nd ne fun H' e1 s1=>q H' p ?_ s1⟩;have et:GV x y=.inf (n !=n'):=by
   cases x with
   |nan b=>cases hn
   |inf m=>
    have e1:n=m:=F8.mp hx.2;cases y with
    |nan b=>cases hn
    |inf m'=>
     have e2:n'=m':=F8.mp hy.2;rw [e1,e2];rfl
    |fin m' i j=>
     have e2:n'=m':=F8.mp hy.2.1;have hj:i≠0:=fun z=>by subst z;cases hz
     rw [e1,e2];show(if i=0 then Ec true else .inf (m !=m'))=_;rw [AD hj]
   |fin m i j=>
    have e1:n=m:=F8.mp hx.2.1;cases y with
    |nan b=>cases hn
    |inf m'=>
     have e2:n'=m':=F8.mp hy.2;have hj:i≠0:=fun z=>by subst z;cases hz
     rw [e1,e2];show(if i=0 then Ec true else .inf (m !=m'))=_;rw [AD hj]
    |fin m' i' j'=>cases h1
  rw [et];exact⟨dp,_,_,_,_,e1,rfl,rfl⟩
 ·cases x with
  |nan b=>cases hn
  |inf m=>cases h1
  |fin m i j=>
   cases y with
   |nan b=>cases hn
   |inf m'=>cases h1
   |fin m' i' j'=>
    have e1:n=m:=F8.mp hx.2.1;have e2:n'=m':=F8.mp hy.2.1;have z1:=zx.1;have z2:=zy.1;refine⟨_,rfl,_,rfl,a,CP,dx,_,_,rfl,ha,AN.cl,AN.size,EV,_,rfl,b,CP,dy,_,_,rfl,hb,AN.cl,AN.size,EV,_,_,rfl,rfl,⟨?_,?_⟩,_,rfl,a,CP,dx,_,_,rfl,ha,AN.cl,AN.power,DQ,_,rfl,b,CP,dy,_,_,rfl,hb,AN.cl,AN.power,DQ,_,_,rfl,rfl,_,_,_,rfl,C7 _,?_,fun H' p hp s1=>q H' p ?_ s1⟩
    ·rw [hx.2.2.1];lia
    ·rw [hy.2.2.1];lia
    ·show(0:Int)<=z*z';rw [hx.2.2.1,hy.2.2.1,<-Fl];exact CI _
    ·rw [CL,e1,e2]at hp;have ev:(z*z').toNat=i*i':=by rw [hx.2.2.1,hy.2.2.1,<-Fl,Am]
     have ep:e+e'=j+j':=by rw [hx.2.2.2,hy.2.2.2]
     have nB:BY CP H' p (.fin (m !=m') (z*z').toNat (e+e')):=hp;rw [ev,ep]at nB;exact nB
def JK.times(hx:QN x)(hy:QN y):JK (GV x y)/\Hc (GV x y):=by
 cases x with
 |nan b=>cases y<;>exact⟨Dd,Dd⟩
 |inf n=>
  cases y with
  |nan b=>exact⟨Dd,Dd⟩
  |inf n'=>exact⟨Dd,Dd⟩
  |fin n' i j=>
   show JK (if i=0 then Ec true else _)/\Hc (if i=0 then Ec true else _);split<;>exact⟨Dd,Dd⟩
 |fin n i j=>
  cases y with
  |nan b=>exact⟨Dd,Dd⟩
  |inf n'=>
   show JK (if i=0 then Ec true else _)/\Hc (if i=0 then Ec true else _);split<;>exact⟨Dd,Dd⟩
  |fin n' i' j'=>
   have h1:=hx.2;have h2:=hy.2;have hb:i*i'<2^226:=by
    have e1:2^226=2^113*2^113:=by rw [<-Ap]
    rw [e1];exact Nat.mul_lt_mul'' hx.1 hy.1
   have hi:=Cg hb;refine⟨⟨by show Aq ((i*i':Nat):Int)<=300;lia,by lia,by lia⟩,fun hm=>⟨?_,?_,by lia,by lia⟩⟩
   ·show(0:Int) < ((i*i':Nat):Int);lia
   ·show Aq ((i*i':Nat):Int)<=1000000;lia
def wm(C:Addr):Sp:=fun vs H Q _=> ∃a b x y m,vs=[.ref a,.ref b,.int m]/\BY C H a x/\BY C H b y/\(BH x||BH y)=false/\QN x/\QN y/\(0<=m/\m<=4)/\
 ∀H' l,A2 H' l (Qu.mul QUAD m.toNat x y)->AQ H H'->Q (.ref l) H'
def wo:Df "multiply" 8 ["x","y","mode"] (wm CP):=by
 refine(AW 35 rfl).go ["x","y","mode"] ?_;rintro _ _ _ _ _ _ _ H _ Q _ hr ⟨a,b,x,y,m,rfl,px,py,hn,qx,qy,hm,q⟩;refine⟨_,(AJ (Ag (Bz (pD hr Xk (pW 0 (pO 1)))) (pR (Gg hr MO)) Ai) (pR (pD hr G8 (AB (pD hr Xl (pW 0 (pO 1))) (pO 2))))),?_⟩;refine⟨_,rfl,_,rfl,a,b,x,y,rfl,px,py,_,rfl,D6 (fun h1=>?_) (fun h1=>?_)⟩
 ·rw [QM.wM h1]at q;exact⟨rfl,q⟩
 ·rw [QM.wN h1 hn]at q;exact⟨_,rfl,_,rfl,a,b,x,y,rfl,px,py,hn,h1,IY qx,IY qy,fun H' p hp s1=>⟨_,rfl,p,_,m,rfl,hp,(JK.times qx qy).2,hm,fun H2 l h2 s2=>q H2 l h2 (s1.trans s2)⟩⟩
end
def gV{i:Int}{d:Nat}(h:d<2^9000):HF i (d:Int)=false:=by
 refine PyProof.noPylong_of_log2 ?_;rw [Ht];rcases Dq d with z|z
 ·subst z;decide
 ·exact(Jj (by lia)).mpr h
def S9:Nb i 2:=⟨by decide,az dd⟩
section
variable{C:Addr}
def S_{i j:Nat}(h:i<j*2^4400):HF (i:Int) (j:Int)=false:=by
 rcases Dq i with z|z
 ·subst z;unfold HF;simp
 ·have hj:0<j:=by
   rcases Dq j with y|y
   ·rw [y,Jk]at h;lia
   ·exact y
  have l1:i.log2<j.log2+1+4400:=by
   refine(Jj (by lia)).mpr (Io h ?_);rw [Ap];exact(Gw (BR _)).mpr (QM.Ex j)
  unfold HF;have e1:((i:Int)==0)=false:=by rw [KY];lia
  have e2:((j:Int)==0)=false:=by rw [KY];lia
  simp only [e1,e2,Ht,Jh,GQ,Vh,Iu];right;lia
def DA(b:Nat):Nat:=QM.A7 b+115
def gW(ht:0<t)(hb:0<b):2^114<=t*2^DA b/b:=by
 rw [DN hb];have h1:=QM.Ex b;have e:DA b=b.log2+1+115:=by unfold DA;rw [QM.Fs hb]
 rw [e,Ap];have h2:2^114*b<=2^115*2^(b.log2+1):=RX (QM.CG dd) (KZ h1);have h3:1*(2^(b.log2+1)*2^115)<=t*(2^(b.log2+1)*2^115):=B2 _ ht;rw [B1,Ar (2^(b.log2+1))]at h3;rw [Ar (2^(b.log2+1)) (2^115)];exact A9 h2 h3
def wq{t b T:Nat}(hb:0<b)(ht:t<2^T):t*2^DA b<b*2^(T+117)/\QM.EO (t*2^DA b) b<2^(T+119):=by
 have h1:=QM.IK hb;have e:DA b=b.log2+116:=by unfold DA;rw [QM.Fs hb]
 have h2:t*2^DA b<b*2^(T+117):=by
  rw [e,Ap];have a1:t*(2^b.log2*2^116) <2^T*(2^b.log2*2^116):=Lq ht (BN (BR _) (BR _));refine Bs a1 ?_;have a2:2^T*(2^b.log2*2^116)=2^b.log2*(2^T*2^116):=by ac_rfl
  rw [a2,<-Ap];exact RX h1 (QM.CG (by lia))
 refine⟨h2,?_⟩;unfold QM.EO;have h3:t*2^DA b/b<2^(T+117):=(E_ hb).mpr (by rw [Ar (2^(T+117)) b];exact h2);have e3:2^(T+119)=4*2^(T+117):=by rw [show T+119=(T+117)+2 by lia,Ap,Ar]
 rw [e3];generalize 2^(T+117)=X at *
 split<;>lia
def Xm{t b T:Nat}(hT:T<=3000)(hb:0<b)(ht:t<2^T):t*2^DA b<b*2^4400/\Aq ((QM.EO (t*2^DA b) b:Nat):Int)<=3200:=by
 obtain⟨a,c⟩:=wq hb ht;exact⟨Bs a (NA _ (QM.CG (by lia))),A9 (Cg c) (by lia)⟩
def gX(ht:0<t)(hb:0<b):0<QM.EO (t*2^DA b) b:=by
 have h:=gW ht hb;have p:=BR 114;unfold QM.EO;generalize 2^114=X at *
 split<;>lia
def wt(hb:0<b):QM.EO (0*n) b=0:=by
 rw [Jk];unfold QM.EO;rw [Nat.zero_div,bU,AG rfl]
def gY(ht:0<t)(hb:0<b):Es QUAD m neg (F3 (QM.EO (t*2^DA b) b) 1 (p-DA b-1))=Es QUAD m neg (F3 t b p):=
 QM.ux ht hb (A9 (QM.CG dd) (gW ht hb))
def wu(C:Addr):Sp:=fun vs H Q _=> ∃(s p:Int)(t b T:Nat),vs=[.int s,.int t,.int b,.int p]/\(s=0\/s=1)/\(T<=3000/\t<2^T)/\0<b/\QM.A7 b<=100000/\
 ∀H' a,BY C H' a (.fin (decide (s=1)) (QM.EO (t*2^DA b) b) (p-DA b-1))->AQ H H'->Q (.ref a) H'
def wx:B_ mg "ENOUGH" 115:=CV 16 rfl
def gZ:
 Df "ratio" 4 ["sign","top","bottom","power"] (wu CP):=by
 refine(AW 36 rfl).go ["sign","top","bottom","power","widened_by","widened","left"] ?_;rintro S _ _ _ _ _ _ H _ Q _ hr ⟨s,p,t,b,T,rfl,hs,ht,hb,hl,q⟩;refine⟨_,(AJ (pS 4 S (AK BX (PM Vq Vr Vs PZ (pv 2)) (pG wx))) (AJ (pS 5 S (AK DF (pv 1) (pv 4))) (AJ (pS 6 S (Bq (AX Ef (AK Jv (pv 5) (pv 2)) AE) AE AE)) (pR (pD hr Fe (pW 0 (AB (AK BX (AK FJ (AK FK (pv 5) (pv 2)) AE) (pv 6)) (AB (AK BP (AK BP (pv 3) (pv 4)) AE) AL)))))))),?_⟩;obtain⟨w1,w2⟩:=Xm ht.1 hb ht.2;have bt:Aq (t:Int)<=3000:=A9 (Cg ht.2) ht.1;have nD:(0:Int) <b:=by lia
 refine⟨_,rfl,rfl,_,rfl,rfl,_,_,rfl,rfl,?_⟩;have ew:(Aq (b:Int):Int)+115=((DA b:Nat):Int):=by rw [Dj];rfl
 dsimp only;rw [ew];have wb:DA b<=100115:=by unfold DA;lia
 refine BD ((BS (AH rfl) (AH rfl) (⟨CI _,by lia,by lia⟩:MD (t:Int) (DA b:Nat))).to (v':=.int ((t*2^DA b:Nat):Int)) (congrArg V.int (by rw [Am];exact Ge t (DA b)))) ?_;generalize hw:t*2^DA b=ww at w1 w2 q⊢;refine BD (v:=.int (if ww%b=0 then 0 else 1)) (B5 (Ac (CO (BS (AH rfl) (AH rfl) nD) AI)) (fun c=>?_) (fun c=>?_)) ?_
 ·have c':(0:Int) < (ww:Int)%(b:Int):=Au c;rw [AD (by lia)];exact AI
 ·have c': ¬(0:Int) < (ww:Int)%(b:Int):=BA c;rw [AG (by lia)];exact AI
 have dq:Aq ((ww:Int)/(b:Int))<=3200:=by
  rw [<-Ji];refine A9 ?_ w2;have :=Vd.mp (BO (Aq ((QM.EO ww b:Nat):Int)));rw [Ht]at this;refine Cg (Cb ?_ this);unfold QM.EO;lia
 have SZ: ∀σ:L2.St,σ[5]? =some (some (.int (ww:Int)))->σ[2]? =some (some (.int (b:Int)))->σ[6]? =some (some (.int (if ww%b=0 then 0 else 1)))->Ev (Br (Dv fun i j=>V.int (i+j)) (Br (rI HW fun i j=>V.int (i*j)) (Br (rI Nb fun i j=>V.int (i/j)) (Aa 5) (Aa 2)) (tC (.int 2))) (Aa 6)) σ H (.int ((QM.EO ww b:Nat):Int)):=fun σ i1 i2 i3=>by
  refine(A1 (BS (BS (AH i1) (AH i2) ⟨nD,S_ w1⟩) AI ⟨by lia,by decide⟩) (AH i3)).to ?_;show V.int ((ww:Int)/(b:Int)*2+(if ww%b=0 then 0 else 1))=_;refine congrArg V.int ?_;unfold QM.EO;rw [<-Ji];split<;>lia
 refine⟨_,rfl,?_⟩;refine SZ _ rfl rfl rfl _ ?_;refine(A1 (A1 (AH rfl) (AH rfl)) AI:Ev _ _ _ _) _ ?_;refine⟨_,_,_,rfl,hs,CI _,fun H' c hc s1=>q H' c ?_ s1⟩;rw [Am]at hc;exact hc
def wy(C:Addr):Sp:=fun vs H Q _=> ∃a b x y m,vs=[.ref a,.ref b,.int m]/\BY C H a x/\BY C H b y/\(BH x||BH y)=false/\QN x/\QN y/\(0<=m/\m<=4)/\
 ∀H' l,A2 H' l (Qu.div QUAD m.toNat x y)->AQ H H'->Q (.ref l) H'
def wz:B_ mg "DZ" 8:=CV 17 rfl
def w6:Df "divide" 9 ["x","y","mode"] (wy CP):=by
 refine(AW 37 rfl).go ["x","y","mode","sign"] ?_;rintro S _ _ _ _ _ _ H _ Q _ hr ⟨a,b,x,y,m,rfl,px,py,hn,qx,qy,hm,q⟩;obtain⟨dx,k,s,z,e,ha,hx⟩:=id px;obtain⟨dy,k',s',z',e',hb,hy⟩:=id py;refine⟨_,(AJ (pS 3 S (AK NQ (AR (pv 0) rfl) (AR (pv 1) rfl))) (AJ (Ag (PW.pt (JC (AX Ae (AR (pv 0) rfl) (AR (pv 1) rfl)) (Kp (AX L7 (AR (pv 0) rfl) (pG Nq))))) (pR (Gg hr MO)) Ai) (AJ (Ag (AX Ae (AR (pv 0) rfl) (pG D7)) (pR (Ay (AB (pD hr S5 (pO 3)) (AB AE AL)))) Ai) (AJ (Ag (PW.pt (Fb (AX Ae (AR (pv 0) rfl) (pG Hb)) (Fn (AX Ae (AR (pv 1) rfl) (pG D7))))) (pR (Ay (AB (pD hr S4 (pO 3)) (AB AE AL)))) Ai) (AJ (Ag (AX Ae (AR (pv 1) rfl) (pG Hb)) (pR (Ay (AB (pD hr S5 (pO 3)) (AB (pG wz) AL)))) Ai) (pR (pD hr G8 (AB (pD hr gZ (pW 3 (AB (AR (pv 0) rfl) (AB (AR (pv 1) rfl) (AB (AK BP (AR (pv 0) rfl) (AR (pv 1) rfl)) AL))))) (pO 2))))))))),?_⟩;have kx: ∀σ:L2.St,σ[0]? =some (some (.ref a))->Ev (BJ K (Aa 0) "kind") σ H (.int k):=fun σ h=>Ax (AH h) ha AN.cl AN.kind C3
 have ky: ∀σ:L2.St,σ[1]? =some (some (.ref b))->Ev (BJ K (Aa 1) "kind") σ H (.int k'):=fun σ h=>Ax (AH h) hb AN.cl AN.kind C3
 obtain⟨n,hs⟩: ∃n,s=sg n:=by
  cases x with
  |nan b=>cases hn
  |inf n=>exact⟨n,hx.2⟩
  |fin n i j=>exact⟨n,hx.2.1⟩
 obtain⟨n',Zh⟩: ∃n,s'=sg n:=by
  cases y with
  |nan b=>cases x<;>cases hn
  |inf n=>exact⟨n,hy.2⟩
  |fin n i j=>exact⟨n,hy.2.1⟩
 subst hs Zh;refine BD (i:=3) ((A1 (Ax (AH rfl) ha AN.cl AN.sign DR) (Ax (AH rfl) hb AN.cl AN.sign DR)).to (v':=.int (sg (n !=n'))) (congrArg V.int (gR n n'))) ?_;refine G6 (KL (Ac (An (kx _ rfl) (ky _ rfl))) (Ac (Mh (kx _ rfl) AI))) (fun h1=>?_) (fun h1=>?_)
 ·rw [BK]at h1;have c1:k=k':=Au h1.1;have c2:k≠1:=fun z=>by rw [z]at h1;cases h1.2
  refine⟨rfl,fun H' l h2 s1=>q H' l ?_ s1⟩;cases x with
  |nan b=>cases hn
  |inf m1=>
   cases y with
   |nan b=>cases hn
   |inf m2=>exact h2
   |fin m2 i j=>
    rw [hx.1,hy.1]at c1;split at c1<;>cases c1
  |fin m1 i j=>
   have i0:i=0:=by
    rcases Dq i with w|w
    ·exact w
    ·exact absurd (by rw [hx.1,AD (by lia)]) c2
   cases y with
   |nan b=>cases hn
   |inf m2=>
    rw [hx.1,hy.1]at c1;split at c1<;>cases c1
   |fin m2 i' j'=>
    have i0':i'=0:=by
     rw [hx.1,hy.1,AG i0]at c1;rcases Dq i' with w|w
     ·exact w
     ·rw [AD (by lia)]at c1;cases c1
    show A2 H' l (if i'=0 then(if i=0 then Oq QUAD else _)else _);rw [AG i0',AG i0];exact h2
 ·refine G6 ((Ac (An (kx _ rfl) AI)).to (FP hx)) (fun h2=>?_) (fun h2=>?_)
  ·refine⟨_,rfl,_,rfl,C7 _,dz,fun l hl=>q _ l ?_ (AQ.new hl)⟩;have eq:Qu.div QUAD m.toNat x y=HI QUAD (n !=n'):=by
    cases x with
    |nan b=>cases hn
    |fin m1 i j=>cases h2
    |inf m1=>
     have e1:n=m1:=F8.mp hx.2;cases y with
     |nan b=>cases hn
     |inf m2=>
      rw [hx.1,hy.1]at h1;cases h1
     |fin m2 i j=>
      have e2:n'=m2:=F8.mp hy.2.1;rw [e1,e2];rfl
   unfold A2;rw [AZ,eq,CL];rfl
  ·cases x with
   |nan b=>cases hn
   |inf m1=>cases h2
   |fin m1 i j=>
    have e1:n=m1:=F8.mp hx.2.1;subst e1;refine G6 ((GD (Ac (An (kx _ rfl) AI)) (Ac (An (ky _ rfl) AI))).to (b':=(decide (i=0)||G9 y)) (by rw [J3 hx,FP hy];rfl)) (fun h3=>?_) (fun h3=>?_)
    ·refine⟨_,rfl,_,rfl,C7 _,dz,fun l hl=>q _ l ?_ (AQ.new hl)⟩;have eq:Qu.div QUAD m.toNat (.fin n i j) y=FX QUAD (n !=n'):=by
      cases y with
      |nan b=>cases hn
      |inf m2=>
       have e2:n'=m2:=F8.mp hy.2;rw [e2];rfl
      |fin m2 i' j'=>
       have e2:n'=m2:=F8.mp hy.2.1;have i0:i=0:=by
        rw [Hr]at h3;rcases h3 with h3|h3
        ·exact Au h3
        ·cases h3
       have i1:i'≠0:=fun w=>by
        rw [hx.1,hy.1,AG i0,AG w]at h1;cases h1
       show(if i'=0 then _ else if i=0 then FX QUAD (n !=m2)else _)=_;rw [AD i1,AG i0,e2]
     unfold A2;rw [AZ,eq,CL];rfl
    ·rw [Gv]at h3;have i0:i≠0:=BA h3.1;cases y with
     |nan b=>cases hn
     |inf m2=>cases h3.2
     |fin m2 i' j'=>
      have e2:n'=m2:=F8.mp hy.2.1;subst e2;refine G6 ((Ac (An (ky _ rfl) AI)).to (b':=decide (i'=0)) (by rw [J3 hy];rfl)) (fun h4=>?_) (fun h4=>?_)
      ·have i1:i'=0:=Au h4;refine⟨_,rfl,_,rfl,C7 _,dz,fun l hl=>q _ l ?_ (AQ.new hl)⟩;have eq:Qu.div QUAD m.toNat (.fin n i j) (.fin n' i' j')=((HI QUAD (n !=n')).1,8):=by
        show(if i'=0 then(if i=0 then _ else(Cv QUAD (n !=n') QUAD.infinity,Qu.DZ))else _)=_;rw [AG i1,AD i0];rfl
       unfold A2;rw [AZ,eq,CL];rfl
      ·have i1:i'≠0:=BA h4;obtain⟨k1,k2,k3,k4⟩:=hx;obtain⟨l1,l2,l3,l4⟩:=hy;subst k3 k4 l3 l4;have y1:=qx.2;have y2:=qy.2;have b2:QM.A7 i'<=113:=QM.Fd qy.1;have wb:DA i'<=228:=by unfold DA;lia
       refine⟨_,rfl,?_⟩;refine(Ax (AH rfl) ha AN.cl AN.size EV:Ev _ _ _ _) _ ?_;refine(Ax (AH rfl) hb AN.cl AN.size EV:Ev _ _ _ _) _ ?_;refine(A1 (Ax (AH rfl) ha AN.cl AN.power DQ) (Ax (AH rfl) hb AN.cl AN.power DQ):Ev _ _ _ _) _ ?_;refine⟨_,_,i,i',113,rfl,C7 _,⟨by decide,qx.1⟩,by lia,by lia,fun H' c hc s1=>?_⟩;rw [CL]at hc;have sp:=gX (t:=i) (b:=i') (by lia) (by lia);have sl:=(Xm (t:=i) (b:=i') (T:=113) dd (by lia) qx.1).2;refine⟨_,rfl,c,_,m,rfl,hc,fun _=>⟨by lia,A9 sl dd,by lia,by lia⟩,hm,fun H2 l h3 s2=>q H2 l ?_ (s1.trans s2)⟩;rw [IP (by lia),gY (by lia) (by lia)]at h3;show A2 H2 l (if i'=0 then _ else if i=0 then _ else Es QUAD m.toNat (n !=n') (F3 i i' (e-e')));rw [AD i1,AD i0];exact h3
def Mi(h:H l=some (.lst [.ref a,.ref b]))(ha:BY C H a x)(hb:BY C H b y):JJ C H l [x,y]:=⟨[a,b],h,rfl,fun i c z h1 h2=>by
 match i,h1,h2 with
 |0,h1,h2=>cases (BQ h1);cases (BQ h2);exact ha
 |1,h1,h2=>cases (BQ h1);cases (BQ h2);exact hb
 |i+2,h1,h2=>simp at h1⟩
def lu(h:H l=some (.lst [.ref a,.ref b,.ref c]))(ha:BY C H a x)(hb:BY C H b y)(hc:BY C H c z):JJ C H l [x,y,z]:=⟨[a,b,c],h,rfl,fun i d u h1 h2=>by
 match i,h1,h2 with
 |0,h1,h2=>cases (BQ h1);cases (BQ h2);exact ha
 |1,h1,h2=>cases (BQ h1);cases (BQ h2);exact hb
 |2,h1,h2=>cases (BQ h1);cases (BQ h2);exact hc
 |i+3,h1,h2=>simp at h1⟩
def TB:Sp:=fun vs H Q _=> ∃wh a b m,vs=[.int wh,.int a,.int b,.int m]/\(0<=wh/\wh<=3)/\A3 a/\A3 b/\(0<=m/\m<=4)/\
 ∀H' l,A2 H' l (bW wh.toNat m.toNat (NB a.toNat) (NB b.toNat))->AQ H H'->Q (.ref l) H'
def w8(h:(BH x||BH y)=true):bW wh m x y=M_ QUAD [x,y]:=by
 unfold bW;split
 ·exact QM.gQ h
 ·split
  ·rw [QM.wJ,QM.gQ (by rw [QM.K_];exact h),QM.wI]
  ·split
   ·exact QM.wK h
   ·exact QM.wL h
def LA:([x,y]:List Num).any BH=(BH x||BH y):=by
 simp [Jf]
def w9:
 Df "op" 10 ["which","a","b","mode"] TB:=by
 refine(AW 38 rfl).go ["which","a","b","mode","x","y"] ?_;rintro S _ _ _ _ _ _ H _ Q _ hr ⟨wh,a,b,m,rfl,hw,ba,bb,hm,q⟩;refine⟨_,(AJ (pS 4 S (pD hr DS (pO 1))) (AJ (pS 5 S (pD hr DS (pO 2))) (AJ (Ag (Bz (pD hr J2 (AB (Ay (pW 4 (pO 5))) AL))) (pR (pD hr MP (AB (Ay (pW 4 (pO 5))) AL))) Ai) (AJ (Ag (AX Ae (pv 0) AE) (pR (pD hr Xj (pW 4 (pW 5 (pO 3))))) Ai) (AJ (Ag (AX Ae (pv 0) AE) (pR (pD hr Xj (pW 4 (AB (pD hr XT (pW 5 (AB AE AL))) (pO 3))))) Ai) (AJ (Ag (AX Ae (pv 0) AE) (pR (pD hr wo (pW 4 (pW 5 (pO 3))))) Ai) (pR (pD hr w6 (pW 4 (pW 5 (pO 3))))))))))),?_⟩;refine⟨_,rfl,a,rfl,ba,fun H1 px hx s1=>⟨_,rfl,b,rfl,bb,fun H2 py hy s2=>?_⟩⟩;have GL:=hx.same s2;have qx:QN (AU QUAD a.toNat):=QM.FO _;have qy:QN (AU QUAD b.toNat):=QM.FO _;have q': ∀H' l,A2 H' l (bW wh.toNat m.toNat (AU QUAD a.toNat) (AU QUAD b.toNat))->AQ H2 H'->Q (.ref l) H':=fun H' l h s=>q H' l h ((s1.trans s2).trans s)
 generalize AU QUAD a.toNat=x at hx GL qx q';generalize AU QUAD b.toNat=y at hy qy q';refine⟨_,rfl,_,rfl,dz,fun l hl=>⟨l,[x,y],rfl,Mi AZ (GL.same (AQ.new hl)) (hy.same (AQ.new hl)),(by show 2<=1000;decide),fun H3 s3=>⟨_,rfl,D6 (fun h1=>?_) (fun h1=>?_)⟩⟩⟩
 ·rw [LA]at h1;have s4:AQ H2 H3:=(AQ.new hl).trans s3;refine⟨_,rfl,_,rfl,dz,fun l2 Bp=>⟨l2,[x,y],rfl,Mi AZ ((GL.same s4).same (AQ.new Bp)) ((hy.same s4).same (AQ.new Bp)),(by show 2<=1000;decide),fun H4 p h4 s5=>q' H4 p ?_ ((s4.trans (AQ.new Bp)).trans s5)⟩⟩;rw [w8 h1];exact h4
 ·rw [LA]at h1;have s4:AQ H2 H3:=(AQ.new hl).trans s3;have U6:=GL.same s4;have U7:=hy.same s4;have GK:=Gv.mp h1;refine G6 (Ac (An (AH rfl) AI)) (fun h2=>?_) (fun h2=>?_)
  ·have e:wh.toNat=0:=by have :=Au h2;lia
   exact⟨_,rfl,_,rfl,_,rfl,px,py,x,y,m,rfl,U6,U7,GK.1,GK.2,IY qx,IY qy,hm,fun H4 p h4 s5=>q' H4 p (by rw [e];exact h4) (s4.trans s5)⟩
  ·refine G6 (Ac (An (AH rfl) AI)) (fun h3=>?_) (fun h3=>?_)
   ·have e:wh.toNat=1:=by have :=Au h3;lia
    refine⟨_,rfl,_,rfl,py,y,1,rfl,U7,.inr rfl,fun H4 p h4 s5=>⟨_,rfl,px,p,x,_,m,rfl,U6.same s5,h4,GK.1,?_,IY qx,?_,hm,fun H5 l5 h5 s6=>q' H5 l5 (by rw [e];exact h5) ((s4.trans s5).trans s6)⟩⟩
    ·rw [AG rfl];exact(QM.K_ true y).trans GK.2
    ·rw [AG rfl];have :=IY qy;cases y<;>exact this
   ·refine G6 (Ac (An (AH rfl) AI)) (fun h4=>?_) (fun h4=>?_)
    ·have e:wh.toNat=2:=by have :=Au h4;lia
     exact⟨_,rfl,_,rfl,_,rfl,px,py,x,y,m,rfl,U6,U7,h1,qx,qy,hm,fun H4 p h4 s5=>q' H4 p (by rw [e];exact h4) (s4.trans s5)⟩
    ·have e:wh.toNat=3:=by
      have c2:wh≠0:=BA h2;have c3:wh≠1:=BA h3;have c4:wh≠2:=BA h4;lia
     exact⟨_,rfl,_,rfl,_,rfl,px,py,x,y,m,rfl,U6,U7,h1,qx,qy,hm,fun H4 p h4 s5=>q' H4 p (by rw [e];exact h4) (s4.trans s5)⟩
end
def TC{b:Int}(hb:A3 b){n:Bool}{e:Int}(h:AU QUAD b.toNat=.fin n 0 e):b=(((FX QUAD n).1:Nat):Int):=by
 have hf:=QM.K5 h;have hl:=hb.lt;have h0:=hb.1;rw [QM.Ft hf]at h;injection h with h1 h2 h3
 have p:=BR QUAD.fbits;have mz:QM.A0 QUAD b.toNat=0:=by
  rw [QM.G5];by_cases c:F2 QUAD b.toNat=0
  ·rw [AG c]at h2;rw [c,h2,Jk]
  ·rw [AD c]at h2;lia
 have :=QM.Pw hl;rw [mz,h1]at this;show b=((Cv QUAD n 0:Nat):Int);rw [this];lia
def Xn{b:Int}(hb:A3 b){n:Bool}(h:AU QUAD b.toNat=.inf n):b=(((HI QUAD n).1:Nat):Int):=by
 obtain⟨m1,s1⟩:=QM.Ss h;have :=QM.Pw hb.lt;rw [m1,<-s1]at this;have h0:=hb.1;show b=((Cv QUAD n QUAD.infinity:Nat):Int);rw [this];lia
section
variable{C:Addr}
def w_:Sp:=fun vs H Q _=> ∃n:Nat,vs=[.int (n:Int)]/\0<n/\n<2^1000/\Q (.int (NC n:Nat)) H
def xA:Df "whole_root" 1 ["square"] w_:=by
 refine(AW 39 rfl).go ["square","guess","better"] ?_;rintro S _ _ _ _ _ _ H _ Q _ _ ⟨n,rfl,hn,hb,q⟩;refine⟨_,(AJ (pS 1 S (AK DF AE (AK FK (AK BX (PM Vq Vr Vs PZ (pv 0)) AE) AE))) (AJ (pS 2 S (AK FK (AK BX (pv 1) (AK FK (pv 0) (pv 1))) AE)) (AJ (O7 Gz (AX Fo (pv 2) (pv 1)) (AJ (pS 1 S (pv 2)) (Cj (pS 2 S (AK FK (AK BX (pv 1) (AK FK (pv 0) (pv 1))) AE))))) (pR (pv 1))))),?_⟩;have lg:n.log2<1000:=(Jj (by lia)).mpr hb;have bl:Aq (n:Int)=n.log2+1:=by rw [Dj,QM.Fs hn]
 refine⟨_,rfl,rfl,_,rfl,rfl,_,_,rfl,rfl,_,_,rfl,rfl,S9,_,_,rfl,rfl,⟨?_,?_,by decide⟩,?_⟩
 ·rw [bl];lia
 ·rw [bl];lia
 dsimp only;have e0:(((Aq (n:Int):Nat):Int)+1)/2=(((n.log2+1+1)/2:Nat):Int):=by rw [bl];lia
 rw [e0,Am,Hq];have e1:(2:Int)^((n.log2+1+1)/2)=((2^((n.log2+1+1)/2):Nat):Int):=by rw [Gu];rfl
 rw [e1];have g1:NC n<=2^((n.log2+1+1)/2):=QM.vD hn;have g2:0<2^((n.log2+1+1)/2):=BR _;have g3:2^((n.log2+1+1)/2) <2^1001:=QM.Ha (by lia);generalize 2^((n.log2+1+1)/2)=g at g1 g2 g3;have step: ∀(σ:L2.St)(g:Nat),0<g->g<2^1001->σ[0]? =some (some (.int (n:Int)))->σ[1]? =some (some (.int (g:Int)))->
  Ev (Br (rI Nb fun i j=>V.int (i/j)) (Br (Dv fun i j=>V.int (i+j)) (Aa 1) (Br (rI Nb fun i j=>V.int (i/j)) (Aa 0) (Aa 1))) (tC (.int 2))) σ H (.int (((g+n/g)/2:Nat):Int)):=fun σ g h1 h2 s0 s1=>by
  refine(BS (A1 (AH s1) (BS (AH s0) (AH s1) ⟨by lia,gV (Io h2 (QM.Ha dd))⟩)) AI S9).to ?_;show V.int (((g:Int)+(n:Int)/(g:Int))/2)=_;refine congrArg V.int ?_;rw [<-Ji];lia
 refine BD (step _ g g2 g3 rfl rfl) ?_;refine PB (fun σ H'=>H'=H/\ ∃g:Nat,0<g/\g<2^1001/\NC n<=g/\σ=[some (.int (n:Int)),some (.int (g:Int)),some (.int (((g+n/g)/2:Nat):Int))])
  (fun (σ:L2.St) (_:Hp)=>match σ[1]? with
    |some (some (V.int i))=>i.toNat
    |_=>0) ⟨rfl,g,g2,g3,g1,rfl⟩ ?_ ?_
 ·rintro σ H' ⟨rfl,g,h1,h2,h3,rfl⟩;refine(Ac (CO (AH rfl) (AH rfl)):DK _ _ _ _) _ ?_;refine J0 (fun c=>?_) (fun c=>?_)
  ·have c':(g+n/g)/2<g:=by lia
   have gp:0<NC n:=(QM.XJ hn).2;have ge:=QM.vB (n:=n) h1;refine BD (AH rfl) ?_;refine(step _ ((g+n/g)/2) (by lia) (Io c' h2) rfl rfl) _ ?_;refine⟨⟨rfl,(g+n/g)/2,by lia,Io c' h2,ge,rfl⟩,?_⟩;show(((g+n/g)/2:Nat):Int).toNat < (g:Int).toNat;rw [Am,Am];exact c'
  ·have c':g<=(g+n/g)/2:=by lia
   have e:=QM.vC h1 h3 c';refine⟨_,rfl,?_⟩;rw [e];exact q
 ·rintro σ H' Q1 Q2 h ⟨v1,r1,v2,r2,i,j,e1,e2,b,e3,k⟩;exact⟨v1,r1,v2,r2,i,j,e1,e2,b,e3,h _ _ k⟩
def TF:Sp:=fun vs H Q _=> ∃a m,vs=[.int a,.int m]/\A3 a/\(0<=m/\m<=4)/\ ∀H' l,A2 H' l (Vu QUAD m.toNat (NB a.toNat))->AQ H H'->Q (.ref l) H'
def xB:B_ mg "WIDENED" 228:=CV 18 rfl
def xC:Df "root" 8 ["a","mode"] TF:=by
 have S:Bj ["a","mode","x","widened_by","square","found","left"] ["a","mode"] (sc 66):=fS;refine(AW 40 rfl).ok S (by rintro _ _ _ _ ⟨_,_,rfl,_⟩;rfl) (fun b0 f0 By A outer st H0 vs Q E hr h=>?_);obtain⟨a,m,rfl,ba,hm,q0⟩:=h;refine⟨_,(AJ (pS 2 S.nd (pD hr DS (pO 0))) (AJ (Ag (Bz (pD hr J2 (AB (Ay (pO 2)) AL))) (pR (pD hr MP (AB (Ay (pO 2)) AL))) Ai) (AJ (Ag (AX Ae (AR (pv 2) rfl) (pG Hb)) (pR (Ay (pW 0 (AB AE AL)))) Ai) (AJ (Ag (AX Ae (AR (pv 2) rfl) AE) (pR (Gg hr MO)) Ai) (AJ (Ag (AX Ae (AR (pv 2) rfl) (pG D7)) (pR (Ay (pW 0 (AB AE AL)))) Ai) (AJ (pS 3 S.nd (AK BX (pG xB) (AK Jv (AR (pv 2) rfl) AE))) (AJ (pS 4 S.nd (AK DF (AR (pv 2) rfl) (pv 3))) (AJ (pS 5 S.nd (pD hr xA (pO 4))) (AJ (pS 6 S.nd (Bq (AX Fo (AK FJ (pv 5) (pv 5)) (pv 4)) AE AE)) (pR (pD hr G8 (AB (pD hr Fe (AB AE (AB (AK BX (AK FJ (pv 5) AE) (pv 6)) (AB (AK BP (AK FK (AK BP (AR (pv 2) rfl) (pv 3)) AE) AE) AL)))) (pO 1))))))))))))),?_⟩;refine⟨_,rfl,a,rfl,ba,fun H1 px Dz s1=>?_⟩;have qx:QN (AU QUAD a.toNat):=QM.FO _;have zb:= @TC a ba;have ib:= @Xn a ba;have q1: ∀H' l,A2 H' l (Vu QUAD m.toNat (AU QUAD a.toNat))->AQ H1 H'->Q (.ref l) H':=fun H' l h s=>q0 H' l h (s1.trans s)
 generalize AU QUAD a.toNat=x at Dz qx q1 zb ib;refine⟨_,rfl,dz,fun l hl=>⟨l,[x],rfl,JJ.one AZ (Dz.same (AQ.new hl)),(by show 1<=1000;decide),fun H s3=>⟨_,rfl,D6 (fun h1=>?_) (fun h1=>?_)⟩⟩⟩
 ·have s4:AQ H1 H:=(AQ.new hl).trans s3;refine⟨_,rfl,dz,fun l2 Bp=>⟨l2,[x],rfl,JJ.one AZ ((Dz.same s4).same (AQ.new Bp)),(by show 1<=1000;decide),fun H4 p h4 s5=>q1 H4 p ?_ ((s4.trans (AQ.new Bp)).trans s5)⟩⟩;cases x with
  |nan b=>exact h4
  |inf n=>cases h1
  |fin n i j=>cases h1
 ·have s4:AQ H1 H:=(AQ.new hl).trans s3;have q: ∀H' l,A2 H' l (Vu QUAD m.toNat x)->AQ H H'->Q (.ref l) H':=fun H' l h s=>q1 H' l h (s4.trans s)
  obtain⟨dx,k,s,z,e,ha,hx⟩:=Dz.same s4;have kx: ∀σ:L2.St,σ[2]? =some (some (.ref px))->Ev (BJ K (Aa 2) "kind") σ H (.int k):=fun σ h=>Ax (AH h) ha AN.cl AN.kind C3
  have sx: ∀σ:L2.St,σ[2]? =some (some (.ref px))->Ev (BJ K (Aa 2) "sign") σ H (.int s):=fun σ h=>Ax (AH h) ha AN.cl AN.sign DR
  refine Bf ((Ac (An (kx _ rfl) AI)).to (J3 hx)) (fun h2=>?_) (fun h2=>?_)
  ·cases x with
   |nan b=>cases h2
   |inf n=>cases h2
   |fin n i j=>
    have i0:i=0:=Au h2;subst i0;refine⟨_,rfl,dz,fun l hl=>q _ l ?_ (AQ.new hl)⟩;have e1:Vu QUAD m.toNat (.fin n 0 j)=FX QUAD n:=rfl;unfold A2;rw [AZ,e1,<-zb rfl];rfl
  ·refine Bf (Ac (An (sx _ rfl) AI)) (fun h3=>?_) (fun h3=>?_)
   ·refine⟨rfl,fun H' l h4 s5=>q H' l ?_ s5⟩;have nE:s=1:=Au h3;cases x with
    |nan b=>cases h1
    |inf n=>
     have :n=true:=by rw [<-CL n,<-hx.2,nE];rfl
     subst this;exact h4
    |fin n i j=>
     have :n=true:=by rw [<-CL n,<-hx.2.1,nE];rfl
     subst this;have i0:i≠0:=BA h2;show A2 H' l (if i=0 then _ else if true=true then Oq QUAD else _);rw [AD i0,AG rfl];exact h4
   ·have s0:s≠1:=BA h3;refine Bf ((Ac (An (kx _ rfl) AI)).to (FP hx)) (fun h4=>?_) (fun h4=>?_)
    ·cases x with
     |nan b=>cases h4
     |fin n i j=>cases h4
     |inf n=>
      have :n=false:=by
       cases n
       ·rfl
       ·exact absurd hx.2 s0
      subst this;refine⟨_,rfl,dz,fun l hl=>q _ l ?_ (AQ.new hl)⟩;have e1:Vu QUAD m.toNat (.inf false)=HI QUAD false:=rfl;unfold A2;rw [AZ,e1,<-ib rfl];rfl
    ·cases x with
     |nan b=>cases h1
     |inf n=>cases h4
     |fin n i j=>
      have :n=false:=by
       cases n
       ·rfl
       ·exact absurd hx.2.1 s0
      subst this;have i0:i≠0:=BA h2;obtain⟨k1,k2,k3,k4⟩:=hx;subst k3 k4;have y1:=qx.2;obtain⟨W,hW⟩: ∃W:Nat,228+e%2=(W:Int):=⟨(228+e%2).toNat,by lia⟩;have AE5:(0:Int) <2:=by decide
      refine BD (i:=3) (v:=.int (W:Int)) ?_ ?_
      ·exact(A1 AI (BS (Ax (AH rfl) ha AN.cl AN.power DQ) AI AE5)).to (congrArg V.int hW)
      have bi:Aq (i:Int)<=113:=Cg qx.1;refine BD (i:=4) (v:=.int ((i*2^W:Nat):Int)) ?_ ?_
      ·exact(BS (i:=(i:Int)) (j:=(W:Int)) (Ax (AH rfl) ha AN.cl AN.size EV) (AH rfl) ⟨by lia,by lia,by lia⟩).to (congrArg V.int (Ge i W))
      have Sp:0<i*2^W:=BN (by lia) (BR W);have Sb:i*2^W<2^342:=by
       have e1:2^342=2^113*2^229:=by rw [<-Ap]
       have e2:2^W<=2^229:=QM.CG (by lia);rw [e1];exact Bs ((Gw (BR _)).mpr qx.1) (NA _ e2)
      refine⟨_,rfl,i*2^W,rfl,Sp,Io Sb (QM.Ha dd),?_⟩;have nF:=(QM.MJ (i*2^W)).1;have ip:=(QM.XJ Sp).2;have lge:QUAD.fbits+1<=(i.log2+W)/2:=by
       show 112+1<=_;lia
      have rr:=QM.vA (f:=QUAD) (m:=m.toNat) (neg:=false) (a:=i) (W:=W) (s:=e) (t:=(e-W)/2) (by lia) (by lia) lge;have dst:QM.Jz (i*2^W)=2*NC (i*2^W)+(if NC (i*2^W)*NC (i*2^W)=i*2^W then 0 else 1):=rfl;generalize QM.Jz (i*2^W)=sr at rr dst;dsimp only;generalize hS:i*2^W=Sq at nF ip dst Sb Sp⊢;generalize NC Sq=R at nF ip dst⊢;have hR:R<2^342:=by
       have :R*1<=R*R:=NA _ ip;lia
      have bR:Aq (R:Int)<=342:=Cg hR;refine BD (i:=6) (v:=.int (if R*R=Sq then 0 else 1)) ?_ ?_
      ·refine B5 (Ac (CO (i:=(R:Int)*(R:Int)) (j:=(Sq:Int)) (BS (C:=HW) (i:=(R:Int)) (j:=(R:Int)) (g:=fun i j=>V.int (i*j)) (AH rfl) (AH rfl) ⟨by lia,by lia⟩) (AH rfl))) (fun c=>?_) (fun c=>?_)
       ·have c':(R:Int)*(R:Int) < (Sq:Int):=Au c;rw [<-Fl]at c';rw [AD (by lia)];exact AI
       ·have c': ¬(R:Int)*(R:Int) < (Sq:Int):=BA c;rw [<-Fl]at c';rw [AG (by lia)];exact AI
      refine(A1 (BS (AH rfl) AI ⟨by lia,by decide⟩) (AH rfl):Ev _ _ _ _) _ ?_;refine(A1 (BS (A1 (Ax (AH rfl) ha AN.cl AN.power DQ) (AH rfl)) AI S9) AI:Ev _ _ _ _) _ ?_;have es:(R:Int)*2+(if R*R=Sq then 0 else 1)=(sr:Int):=by
       rw [dst];split<;>lia
      have hsr:sr<2^344:=by
       have e3:2^344=4*2^342:=by decide
       rw [dst,e3];split<;>lia
      refine⟨_,_,_,rfl,.inl rfl,?_,fun H' c hc s5=>?_⟩
      ·show(0:Int)<=(R:Int)*2+(if R*R=Sq then 0 else 1);rw [es];exact CI _
      ·have JY:BY CP H' c (.fin false ((R:Int)*2+(if R*R=Sq then 0 else 1)).toNat ((e-(W:Int))/2-1)):=hc;rw [es,Am]at JY;have srp:sr≠0:=by rw [dst];split<;>lia
       refine⟨_,rfl,c,_,m,rfl,JY,fun _=>⟨by lia,A9 (Cg hsr) dd,by lia,by lia⟩,hm,fun H2 l h5 s6=>q H2 l ?_ (s5.trans s6)⟩;rw [IP srp]at h5;show A2 H2 l (if i=0 then _ else if false=true then _ else Es QUAD m.toNat false (Qu.root i e));rw [AD i0,AD dd,<-rr];exact h5
def TH:Sp:=fun vs H Q _=> ∃a b c h m,vs=[.int a,.int b,.int c,.int h,.int m]/\A3 a/\A3 b/\A3 c/\(0<=h/\h<=3)/\(0<=m/\m<=4)/\
 ∀H' l,A2 H' l (bX m.toNat h.toNat a.toNat b.toNat c.toNat)->AQ H H'->Q (.ref l) H'
def TJ:([x,y,z]:List Num).any BH=(BH x||(BH y||BH z)):=by
 simp [Jf]
def xD:M_ QUAD [BI b x,y,BI c z]=M_ QUAD [x,y,z]:=by
 have e:([BI b x,y,BI c z]:List Num).any Dr=([x,y,z]:List Num).any Dr:=by
  simp only [Jf,List.any_nil,QM.gP]
 unfold M_;rw [e]
def gc(h:JK x):JK (BI b x):=by
 cases b
 ·exact h
 ·cases x<;>exact h
def gd:Df "fused" 9 ["a","b","c","how","mode"] TH:=by
 refine(AW 41 rfl).go ["a","b","c","how","mode","x","y","z"] ?_;rintro S _ _ _ _ _ _ H _ Q _ hr ⟨a,b,c,h,m,rfl,ba,bb,bc,hh,hm,q⟩;refine⟨_,(AJ (pS 5 S (pD hr DS (pO 0))) (AJ (pS 6 S (pD hr DS (pO 1))) (AJ (pS 7 S (pD hr DS (pO 2))) (AJ (Ag (Bz (pD hr Xk (pW 5 (pO 6)))) (pR (Gg hr MO)) Ai) (AJ (Ag (Bz (pD hr J2 (AB (Ay (pW 5 (pW 6 (pO 7)))) AL))) (pR (pD hr MP (AB (Ay (pW 5 (pW 6 (pO 7)))) AL))) Ai) (pR (pD hr Xj (AB (pD hr XT (AB (pD hr Xl (pW 5 (pO 6))) (AB (AK EH (pv 3) AE) AL))) (AB (pD hr XT (pW 7 (AB (AK GZ (pv 3) AE) AL))) (pO 4)))))))))),?_⟩;refine⟨_,rfl,a,rfl,ba,fun H1 px hx s1=>⟨_,rfl,b,rfl,bb,fun H2 py hy s2=>⟨_,rfl,c,rfl,bc,fun H3 pz hz s3=>?_⟩⟩⟩;have Qt:=(hx.same s2).same s3;have Qv:=hy.same s3;have qx:QN (AU QUAD a.toNat):=QM.FO _;have qy:QN (AU QUAD b.toNat):=QM.FO _;have qz:QN (AU QUAD c.toNat):=QM.FO _;have e0:bX m.toNat h.toNat a.toNat b.toNat c.toNat=Lr QUAD m.toNat (BI (decide (h.toNat%2=1)) (AU QUAD a.toNat)) (AU QUAD b.toNat) (BI (decide (h.toNat/2%2=1)) (AU QUAD c.toNat)):=by
  unfold bX BI;simp only [Bw]
 rw [e0]at q;have q': ∀H' l,A2 H' l (Lr QUAD m.toNat (BI (decide (h.toNat%2=1)) (AU QUAD a.toNat)) (AU QUAD b.toNat) (BI (decide (h.toNat/2%2=1)) (AU QUAD c.toNat)))->AQ H3 H'->Q (.ref l) H':=fun H' l h s=>q H' l h (((s1.trans s2).trans s3).trans s)
 generalize AU QUAD a.toNat=x at Qt qx q';generalize AU QUAD b.toNat=y at Qv qy q';generalize AU QUAD c.toNat=z at hz qz q';refine⟨_,rfl,_,rfl,px,py,x,y,rfl,Qt,Qv,_,rfl,D6 (fun h1=>?_) (fun h1=>?_)⟩
 ·refine⟨rfl,fun H' l h4 s5=>q' H' l ?_ s5⟩;rw [QM.wO (by rw [QM.Xf];exact h1)];exact h4
 ·refine⟨_,rfl,_,rfl,_,rfl,dz,fun l hl=>⟨l,[x,y,z],rfl,lu AZ (Qt.same (AQ.new hl)) (Qv.same (AQ.new hl)) (hz.same (AQ.new hl)),(by show 3<=1000;decide),fun H4 s4=>⟨_,rfl,D6 (fun h2=>?_) (fun h2=>?_)⟩⟩⟩
  ·have s5:AQ H3 H4:=(AQ.new hl).trans s4;refine⟨_,rfl,_,rfl,_,rfl,dz,fun l2 Bp=>⟨l2,[x,y,z],rfl,lu AZ ((Qt.same s5).same (AQ.new Bp)) ((Qv.same s5).same (AQ.new Bp)) ((hz.same s5).same (AQ.new Bp)),(by show 3<=1000;decide),fun H5 p h5 s6=>q' H5 p ?_ ((s5.trans (AQ.new Bp)).trans s6)⟩⟩;rw [QM.wQ (by rw [QM.Xf];exact h1) (by rw [TJ,QM.K_,QM.K_,<-TJ];exact h2),xD];exact h5
  ·have s5:AQ H3 H4:=(AQ.new hl).trans s4;rw [TJ,Gv,Gv]at h2;obtain⟨nx,ny,nz⟩:=h2;have nG:(BH x||BH y)=false:=by rw [nx,ny];rfl
   have t1:D0 h 1=0\/D0 h 1=1:=by rw [bitAnd_m1];lia
   have t2:h/2^(1:Int).toNat=0\/h/2^(1:Int).toNat=1:=by
    show h/2=0\/h/2=1;lia
   refine⟨_,rfl,_,rfl,px,py,x,y,rfl,Qt.same s5,Qv.same s5,nG,h1,IY qx,IY qy,fun H5 p h5 s6=>⟨_,rfl,_,_,rfl,rfl,p,_,_,rfl,h5,t1,fun H6 p2 h6 s7=>⟨_,rfl,_,rfl,_,_,rfl,rfl,(by show(0:Int)<=1;decide),pz,z,_,rfl,((hz.same s5).same s6).same s7,t2,fun H7 p3 h7 s8=>?_⟩⟩⟩;have e1:(if D0 h 1=1 then bV (GV x y)else GV x y)=BI (decide (h.toNat%2=1)) (GV x y):=by
    unfold BI;rw [bitAnd_m1];by_cases c:h%2=1
    ·rw [AG c,AG (Bi (by lia))]
    ·rw [AD c,AD (by rw [Bh (by lia)];decide)]
   have e2:(if h/2^(1:Int).toNat=1 then bV z else z)=BI (decide (h.toNat/2%2=1)) z:=by
    unfold BI;show(if h/2=1 then bV z else z)=_;by_cases c:h/2=1
    ·rw [AG c,AG (Bi (by lia))]
    ·rw [AD c,AD (by rw [Bh (by lia)];decide)]
   have h6':BY CP H6 p2 (BI (decide (h.toNat%2=1)) (GV x y)):=by rw [<-e1];exact h6
   have h7':BY CP H7 p3 (BI (decide (h.toNat/2%2=1)) z):=by rw [<-e2];exact h7
   have nt:BH (GV x y)=false:=by
    cases x with
    |nan b=>cases nx
    |inf n=>
     cases y with
     |nan b=>cases ny
     |inf n'=>rfl
     |fin n' i j=>
      have i0:i≠0:=fun w=>by subst w;cases h1
      show BH (if i=0 then Ec true else _)=false;rw [AD i0];rfl
    |fin n i j=>
     cases y with
     |nan b=>cases ny
     |inf n'=>
      have i0:i≠0:=fun w=>by subst w;cases h1
      show BH (if i=0 then Ec true else _)=false;rw [AD i0];rfl
     |fin n' i' j'=>rfl
   refine⟨_,rfl,p2,p3,_,_,m,rfl,h6'.same s8,h7',by rw [QM.K_];exact nt,by rw [QM.K_];exact nz,gc (JK.times qx qy).1,gc (IY qz),hm,fun H8 l8 h8 s9=>q' H8 l8 ?_ ((((s5.trans s6).trans s7).trans s8).trans s9)⟩;rw [QM.wR (by rw [QM.Xf];exact h1) (by rw [TJ,QM.K_,QM.K_,nx,ny,nz];rfl),QM.wU _ nG h1];exact h8
end
end Q3
namespace QM
open Qu
def P4(h:g<=p):ratioAt n 1 p g=(n*2^(p-g).toNat,0):=by
 rw [Ci (p-g).toNat 0 (by lia),B7,Cc,bT,qA];rfl
def TK(h:p<=g):ratioAt n 1 p g=(n/2^(g-p).toNat,restOf (n%2^(g-p).toNat) (2^(g-p).toNat)):=by
 rw [Ci 0 (g-p).toNat (by lia),B7,Cc,B1]
def xE(hq:0<q)(h:q<=2^113)(m m':Mode)(neg:Bool):round QUAD m neg (ratio q 1 0)=round QUAD m' neg (ratio q 1 0)/\(round QUAD m neg (ratio q 1 0)).2=0:=by
 have b1:QUAD.bias=16383:=by decide
 have u1:QUAD.unit= -16494:=by decide
 have f1:(QUAD.fbits:Int)=112:=rfl;have l1:q.log2<=113:=by
  have :q<2^114:=Cb h (Ha (by decide));have :=(Jj (by lia:q≠0)).mpr this;lia
 obtain⟨k,hk⟩: ∃k:Int,k=max ((q.log2:Int)+0) (1-QUAD.bias)-QUAD.fbits:=⟨_,rfl⟩;have Us:k=(q.log2:Int)-112:=by rw [b1,f1]at hk;lia
 have hx: ∃r,ratioAt q 1 0 k=(r,0)/\r<=2^113:=by
  rcases Gx 0 k with c|c
  ·have lq:q.log2=113:=by lia
   have e:q=2^113:=by
    have :=IK hq;rw [lq]at this;lia
   have k1:k=1:=by lia
   refine⟨2^112,?_,CG (by decide)⟩;rw [k1,TK (by decide),e];decide
  ·refine⟨q*2^(0-k).toNat,P4 c,?_⟩;have hl:=Ex q;have e1:(0-k).toNat+(q.log2+1)=113\/113<=q.log2:=by lia
   rcases e1 with e1|e1
   ·have :q*2^(0-k).toNat <2^(q.log2+1)*2^(0-k).toNat:=(Gw (Al _)).mpr hl;rw [<-Ap,Nat.add_comm,e1]at this;lia
   ·have k0:k=0\/0<k:=by lia
    rcases k0 with k0|k0
    ·lia
    ·lia
 obtain⟨r,hx,hr⟩:=hx;have hm:magnitude QUAD r k<QUAD.infinity:=by
  unfold magnitude M6;have e1:2^QUAD.ebits-1=32767:=by decide
  have e2:2^QUAD.fbits=2^112:=rfl;have e3:2^113=2*2^112:=by decide
  rw [e1,e2,u1];have hK:(k- -16494).toNat<=16495:=by lia
  have :=B2 (2^112) hK;have p:=Al 112;lia
 have a1:=Sl (f:=QUAD) (m:=m) (neg:=neg) (p:=0) (by decide) hq hk hx hm;have a2:=Sl (f:=QUAD) (m:=m') (neg:=neg) (p:=0) (by decide) hq hk hx hm;exact⟨a1.trans a2.symm,by rw [a1]⟩
def xF(hi:0<i)(h:(ratioAt i 1 e 0).2=0):0< (ratioAt i 1 e 0).1/\ratio (ratioAt i 1 e 0).1 1 0=ratio i 1 e:=by
 rcases Vv 0 e with c|c
 ·rw [P4 c];have e1:((0:Int)+((e-0).toNat:Int))=e:=by lia
  refine⟨BN hi (Al _),?_⟩;show ratio (i*2^(e-0).toNat) 1 0=_;rw [Nm _ hi (by decide),e1]
 ·rw [TK c]at h⊢;have h':i%2^(0-e).toNat=0:=Sj.mp h;have e2:i=i/2^(0-e).toNat*2^(0-e).toNat:=by
   have :=Gy i (2^(0-e).toNat);rw [h',Iq,Ar]at this;exact this.symm
  have hp:0<i/2^(0-e).toNat:=by
   rcases Dq (i/2^(0-e).toNat)with z|z
   ·rw [z,Jk]at e2;lia
   ·exact z
  refine⟨hp,?_⟩;show ratio (i/2^(0-e).toNat) 1 0=ratio i 1 e;have e3:e+((0-e).toNat:Int)=0:=by lia
  have :=Nm (a:=i/2^(0-e).toNat) (b:=1) (s:=e) (0-e).toNat hp (by decide);rw [<-e2,e3]at this;exact this.symm
def xG(hi:0<i)(h:i<2^113)(neg:Bool)(m:Mode):(round QUAD m neg (ratio i 1 (-(i.log2:Int)))).2=0:=by
 have b1:QUAD.bias=16383:=by decide
 have u1:QUAD.unit= -16494:=by decide
 have l1:i.log2<113:=(Jj (by lia)).mpr h;have hk:(-112:Int)=max ((i.log2:Int)+(-(i.log2:Int))) (1-QUAD.bias)-QUAD.fbits:=by
  rw [b1];have :(QUAD.fbits:Int)=112:=rfl;lia
 have hx:ratioAt i 1 (-(i.log2:Int)) (-112)=(i*2^(-(i.log2:Int)- -112).toNat,0):=P4 (by lia);have hr:i*2^(-(i.log2:Int)- -112).toNat <2^113:=by
  have hl:=Ex i;have e1:(i.log2+1)+(-(i.log2:Int)- -112).toNat=113:=by lia
  have :i*2^(-(i.log2:Int)- -112).toNat <2^(i.log2+1)*2^(-(i.log2:Int)- -112).toNat:=(Gw (Al _)).mpr hl;rw [<-Ap,e1]at this;exact this
 have hm:magnitude QUAD (i*2^(-(i.log2:Int)- -112).toNat) (-112) <QUAD.infinity:=by
  generalize i*2^(-(i.log2:Int)- -112).toNat=r at hr;unfold magnitude M6;have e1:2^QUAD.ebits-1=32767:=by decide
  have e2:2^QUAD.fbits=2^112:=rfl;have e3:2^113=2*2^112:=by decide
  rw [e1,e2,u1];have hK:((-112:Int)- -16494).toNat=16382:=by decide
  rw [hK];have p:=Al 112;lia
 rw [Sl (f:=QUAD) (m:=m) (neg:=neg) (by decide) hi hk hx hm]
def xH(h:A0 f a=A0 f b):isNan (num f a)=isNan (num f b):=by
 have e:expoOf f a=expoOf f b/\fracOf f a=fracOf f b:=by
  rw [G5,G5]at h;have ha:=F7 f a;have hb:=F7 f b;have d1:(expoOf f a*2^f.fbits+fracOf f a)/2^f.fbits=expoOf f a:=by rw [Ar,Vp (Al _),FW ha,Iq]
  have d2:(expoOf f b*2^f.fbits+fracOf f b)/2^f.fbits=expoOf f b:=by rw [Ar,Vp (Al _),FW hb,Iq]
  have e1:expoOf f a=expoOf f b:=by rw [<-d1,<-d2,h]
  rw [e1]at h;exact⟨e1,by lia⟩
 by_cases c:expoOf f a=2^f.ebits-1
 ·rw [MK c,MK (e.1▸c),e.2];split<;>rfl
 ·rw [Ft c,Ft (e.1▸c)];rfl
def xI(h:x<f.signBit):A0 f (signed f n x)=x/\negOf f (signed f n x)=n:=by
 have hs:0<f.signBit:=Al _;unfold A0 negOf signed;cases n
 ·rw [AD (by decide),M5 h,FW h];exact⟨rfl,rfl⟩
 ·rw [AG rfl,Nat.add_mod_left,M5 h,Nat.add_div_left _ hs,FW h];exact⟨rfl,rfl⟩
end QM
namespace Q3
open PySem PySem.Spec PyProof.Rows L2
open Qu (Fmt Num restOf ratioAt rounded QUAD)
open QM (Bo BI QN)
def xJ{n:Nat}{j:Int}(h:n<2^4000):HF (n:Int) j=false:=by
 have k1:(if((n:Int))==0 then 0 else(n:Int).natAbs.log2/30+1)<=134:=by
  split
  ·lia
  ·rename_i q;rw [Ht];have hn:n≠0:=by simpa using q
   have :=(Jj hn).mpr h;lia
 show(decide ((if j==0 then 0 else j.natAbs.log2/30+1) >300)&&decide ((if(n:Int)==0 then 0 else(n:Int).natAbs.log2/30+1) > (if j==0 then 0 else j.natAbs.log2/30+1)+150))=false;rw [Vh];right;exact Bh (by lia)
section
variable{C:Addr}
def xK:Sp:=fun vs H Q _=> ∃u r d,vs=[.int u,.int r,.int d]/\Aq r<=1000000/\Q (.bl (decide (d<2*r)||(decide (2*r=d)&&decide (u%2=1)))) H
def xM:Df "nearest_is_above" 1 ["quotient","rest","divisor"] xK:=by
 refine(AW 42 rfl).go ["quotient","rest","divisor"] ?_;rintro _ _ _ _ _ _ _ H _ Q _ _ ⟨u,r,d,rfl,hb,q⟩;refine⟨_,(pR (NL (C0 Ef (AK FJ AE (pv 1)) (pv 2)) (HM (L5 (C0 Ae (AK FJ AE (pv 1)) (pv 2)) (HM (C0 Ae (AK Jv (pv 0) AE) AE)))))),?_⟩;have c1:HW 2 r:=⟨by decide,by lia⟩;have c2:(0:Int) <2:=by decide
 refine EU (Uh (CO (BS AI (AH rfl) c1) (AH rfl)) (OD (An (BS AI (AH rfl) c1) (AH rfl)) (An (BS (AH rfl) AI c2) AI))) ?_;exact q
def xN(C:Addr):Sp:=fun vs H Q _=> ∃(a b:Addr)(n n':Bool)(i i':Nat)(e e' h:Int),vs=[.ref a,.ref b,.int h]/\BY C H a (.fin n i e)/\BY C H b (.fin n' i' e')/\i'≠0/\QN (.fin n i e)/\QN (.fin n' i' e')/\(h=0\/h=1)/\
 ∀H' l,A2 H' l (Kg QUAD (h.toNat==1) (.fin n i e) (.fin n' i' e'))->AQ H H'->Q (.ref l) H'
def xO(f:Fmt)(m:Nat)(n:Bool)(a:Nat)(e:Int):Ds f m (.fin n a e)=if a=0 then FX f n else Es f m n (F3 a 1 e):=rfl
def xP(f:Fmt)(tr s t:Bool)(a b:Nat)(d e:Int)(hb:b≠0):Kg f tr (.fin s a d) (.fin t b e)=
 (if(if(tr||decide (2*(a*2^(d-min d e).toNat%(b*2^(e-min d e).toNat)) <b*2^(e-min d e).toNat)||(decide (2*(a*2^(d-min d e).toNat%(b*2^(e-min d e).toNat))=b*2^(e-min d e).toNat)&&a*2^(d-min d e).toNat/(b*2^(e-min d e).toNat)%2==0))=true
   then a*2^(d-min d e).toNat%(b*2^(e-min d e).toNat)else b*2^(e-min d e).toNat-a*2^(d-min d e).toNat%(b*2^(e-min d e).toNat))=0 then FX f s
   else Es f 0 (if(tr||decide (2*(a*2^(d-min d e).toNat%(b*2^(e-min d e).toNat)) <b*2^(e-min d e).toNat)||(decide (2*(a*2^(d-min d e).toNat%(b*2^(e-min d e).toNat))=b*2^(e-min d e).toNat)&&a*2^(d-min d e).toNat/(b*2^(e-min d e).toNat)%2==0))=true then s else !s)
    (F3 (if(tr||decide (2*(a*2^(d-min d e).toNat%(b*2^(e-min d e).toNat)) <b*2^(e-min d e).toNat)||(decide (2*(a*2^(d-min d e).toNat%(b*2^(e-min d e).toNat))=b*2^(e-min d e).toNat)&&a*2^(d-min d e).toNat/(b*2^(e-min d e).toNat)%2==0))=true
    then a*2^(d-min d e).toNat%(b*2^(e-min d e).toNat)else b*2^(e-min d e).toNat-a*2^(d-min d e).toNat%(b*2^(e-min d e).toNat)) 1 (min d e))):=by
 unfold Kg;dsimp only;rw [AD hb]
def xQ(hb:b≠0)(hk:k=min d e)(hA:A=a*2^(d-k).toNat)(hB:B=b*2^(e-k).toNat):
 Kg QUAD tr (.fin s a d) (.fin t b e)=(if(!tr&&(decide (B<2*(A%B))||(decide (2*(A%B)=B)&&decide (A/B%2=1))))=true then Ds QUAD 0 (.fin (!s) (B-A%B) k)else Ds QUAD 0 (.fin s (A%B) k)):=by
 subst hk hA hB;rw [xP QUAD tr s t a b d e hb];have pB:0<b*2^(e-min d e).toNat:=BN (by lia) (BR _);generalize hB:b*2^(e-min d e).toNat=B at pB;generalize hA:a*2^(d-min d e).toNat=A;have hr:A%B<B:=Dg _ pB;generalize A%B=r at hr;generalize A/B=u;have eb:(tr||decide (2*r<B)||(decide (2*r=B)&&u%2==0))= !(!tr&&(decide (B<2*r)||(decide (2*r=B)&&decide (u%2=1)))):=by
  cases tr
  ·rw [Im,Bool.not_false,GU];have hu:u%2=0\/u%2=1:=by lia
   rcases HG (2*r) B with c|c|c
   ·rw [Bi c,Bh (by lia: ¬B<2*r),Bh (by lia: ¬2*r=B)];rfl
   ·rw [Bh (by lia: ¬2*r<B),Bh (by lia: ¬B<2*r),Bi c];rcases hu with hu|hu<;>rw [hu]<;>rfl
   ·rw [Bh (by lia: ¬2*r<B),Bi c,Bh (by lia: ¬2*r=B)];rfl
  ·rfl
 rw [eb];generalize (!tr&&(decide (B<2*r)||(decide (2*r=B)&&decide (u%2=1))))=c;cases c
 ·simp only [Bool.not_false,E8,Jh,GQ];exact(xO QUAD 0 s r (min d e)).symm
 ·simp only [p6,E8,Jh,GQ];rw [AD (show ¬B-r=0 by lia),IP (show B-r≠0 by lia)]
def P5:B_ mg "TO_EVEN" 0:=CV 19 rfl
def xR:Df "remainder_finite" 8 ["x","y","how"] (xN CP):=by
 refine(AW 43 rfl).go ["x","y","how","power","dividend","divisor","rest"] ?_;rintro S _ _ _ _ _ _ H _ Q _ hr ⟨a,b,n,n',i,i',e,e',h,rfl,px,py,hi',qx,qy,hh,q⟩;obtain⟨dx,k,sx,z,ex,ha,k1,k2,k3,k4⟩:=id px;obtain⟨dy,k',sy,z',ey,hb,l1,l2,l3,l4⟩:=id py;subst k2 k3 k4 l2 l3 l4;refine⟨_,(AJ (pS 3 S (Cf (WS rfl) (by rfl) Xi Xg (AB (AR (pv 0) rfl) (AB (AR (pv 1) rfl) AL)))) (AJ (pS 4 S (AK DF (AR (pv 0) rfl) (AK BP (AR (pv 0) rfl) (pv 3)))) (AJ (pS 5 S (AK DF (AR (pv 1) rfl) (AK BP (AR (pv 1) rfl) (pv 3)))) (AJ (pS 6 S (AK Jv (pv 4) (pv 5))) (AJ (Ag (PW.pt (JC (AX Ae (pv 2) AE) (Kp (Bz (pD hr xM (AB (AK FK (pv 4) (pv 5)) (pW 6 (pO 5)))))))) (pR (pD hr G8 (AB (pD hr Fe (AB (AK BP AE (AR (pv 0) rfl)) (AB (AK BP (pv 5) (pv 6)) (pO 3)))) (AB (pG P5) AL)))) Ai) (pR (pD hr G8 (AB (pD hr Fe (AB (AR (pv 0) rfl) (pW 6 (pO 3)))) (AB (pG P5) AL))))))))),?_⟩;have y1:=qx.2;have y2:=qy.2;refine⟨_,rfl,a,CP,dx,_,_,rfl,ha,AN.cl,AN.power,DQ,_,rfl,b,CP,dy,_,_,rfl,hb,AN.cl,AN.power,DQ,_,_,rfl,?_⟩;dsimp only;rw [gS];obtain⟨p,hp⟩: ∃p,p=min ex ey:=⟨_,rfl⟩;rw [<-hp];have b1:Aq (i:Int)<=113:=Cg qx.1;have b2:Aq (i':Int)<=113:=Cg qy.1;obtain⟨AA,hA⟩: ∃AA,AA=i*2^(ex-p).toNat:=⟨_,rfl⟩;obtain⟨BB,hB⟩: ∃BB,BB=i'*2^(ey-p).toNat:=⟨_,rfl⟩;refine BD (i:=4) (v:=.int (AA:Int)) ?_ ?_
 ·refine(BS (i:=(i:Int)) (j:=ex-p) (Ax (AH rfl) ha AN.cl AN.size EV) (A1 (Ax (AH rfl) ha AN.cl AN.power DQ) (AH rfl)) ⟨by lia,by lia,by lia⟩).to ?_;rw [hA];exact congrArg V.int (Ge i _)
 refine BD (i:=5) (v:=.int (BB:Int)) ?_ ?_
 ·refine(BS (i:=(i':Int)) (j:=ey-p) (Ax (AH rfl) hb AN.cl AN.size EV) (A1 (Ax (AH rfl) hb AN.cl AN.power DQ) (AH rfl)) ⟨by lia,by lia,by lia⟩).to ?_;rw [hB];exact congrArg V.int (Ge i' _)
 have re:=fun tr=>xQ (tr:=tr) (s:=n) (t:=n') (a:=i) (b:=i') (d:=ex) (e:=ey) hi' hp hA hB
 have pB:0<BB:=by rw [hB];exact BN (by lia) (BR _)
 have bB:BB<2^40000:=by
  rw [hB];have e1:2^40000=2^113*2^39887:=by rw [<-Ap]
  have e2:2^(ey-p).toNat<=2^39887:=QM.CG (by lia);rw [e1];exact Bs ((Gw (BR _)).mpr qy.1) (NA _ e2)
 have py':HF (AA:Int) (BB:Int)=false:=by
  rcases Vv ex ey with c|c
  ·refine xJ ?_;have e1:(ex-p).toNat=0:=by lia
   rw [hA,e1,B7,Cc];exact Io qx.1 (QM.Ha dd)
  ·refine gV ?_;have e1:(ey-p).toNat=0:=by lia
   rw [hB,e1,B7,Cc];exact Io qy.1 (QM.Ha dd)
 have bi:(0:Int) < (BB:Int):=by lia
 refine BD (i:=6) (v:=.int ((AA%BB:Nat):Int)) ?_ ?_
 ·exact(BS (i:=(AA:Int)) (j:=(BB:Int)) (AH rfl) (AH rfl) bi).to (congrArg V.int (qC AA BB).symm)
 have hr:AA%BB<BB:=Dg _ pB;have brr:Aq ((AA%BB:Nat):Int)<=40000:=Cg (Io hr bB);have u2:((AA:Int)/(BB:Int))%2=1↔AA/BB%2=1:=by rw [<-Ji];lia
 generalize hR:AA%BB=r at hr brr re;have fin: ∀(s:Bool)(rr:Nat)(c:Bool)(h1:rr<=BB)(_:Kg QUAD (h.toNat==1) (.fin n i ex) (.fin n' i' ey)=Ds QUAD 0 (.fin s rr p)),XR CP [.int (sg s),.int (rr:Int),.int p] H (fun v H1=>gN CP [v,.int 0] H1 Q E0) E0:=fun s rr c h1 h2=>
  ⟨_,_,_,rfl,C7 s,CI _,fun H' c hc s1=>⟨c,_,0,rfl,hc,fun hz=>⟨by lia,by
   rw [Am]at hz⊢;exact A9 (Cg (Cb h1 bB)) dd,by lia,by lia⟩,⟨by decide,by decide⟩,fun H2 l h3 s2=>q H2 l (by
    rw [h2];rw [CL,Am]at h3;exact h3) (s1.trans s2)⟩⟩
 refine⟨_,rfl,rfl,_,rfl,FN (fun h0=>⟨_,rfl,_,rfl,?_⟩) (fun h0=>?_)⟩
 ·refine⟨_,_,rfl,rfl,⟨bi,py'⟩,_,rfl,_,rfl,_,_,_,rfl,by lia,_,rfl,D6 (fun h1=>?_) (fun h1=>?_)⟩
  ·have GK:(decide (BB<2*r)||(decide (2*r=BB)&&decide (AA/BB%2=1)))=true:=by
    rw [<-h1];have c1:decide (BB<2*r)=decide ((BB:Int) <2*(r:Int)):=Cd.mpr (by lia);have c2:decide (2*r=BB)=decide (2*(r:Int)=(BB:Int)):=Cd.mpr (by lia);have c3:decide (AA/BB%2=1)=decide ((AA:Int)/(BB:Int)%2=1):=Cd.mpr u2.symm;rw [c1,c2,c3]
   have e0:(h.toNat==1)=false:=by rw [h0];rfl
   refine⟨_,rfl,a,CP,dx,_,_,rfl,ha,AN.cl,AN.sign,DR,_,_,rfl,rfl,_,rfl,_,rfl,_,_,rfl,rfl,_,rfl,?_⟩;have :=fin (!n) (BB-r) true (by lia) (by rw [re,e0,AG (by rw [GK];rfl)]);rw [<-XS,Ve (by lia)]at this;exact this
  ·have GK:(decide (BB<2*r)||(decide (2*r=BB)&&decide (AA/BB%2=1)))=false:=by
    rw [<-h1];have c1:decide (BB<2*r)=decide ((BB:Int) <2*(r:Int)):=Cd.mpr (by lia);have c2:decide (2*r=BB)=decide (2*(r:Int)=(BB:Int)):=Cd.mpr (by lia);have c3:decide (AA/BB%2=1)=decide ((AA:Int)/(BB:Int)%2=1):=Cd.mpr u2.symm;rw [c1,c2,c3]
   have e0:(h.toNat==1)=false:=by rw [h0];rfl
   refine⟨_,rfl,a,CP,dx,_,_,rfl,ha,AN.cl,AN.sign,DR,_,rfl,_,rfl,?_⟩;exact fin n r true (by lia) (by rw [re,e0,AD (by rw [GK];decide)])
 ·have e0:(h.toNat==1)=true:=by
   rcases hh with hh|hh
   ·exact absurd hh h0
   ·rw [hh];rfl
  refine⟨_,rfl,a,CP,dx,_,_,rfl,ha,AN.cl,AN.sign,DR,_,rfl,_,rfl,?_⟩;exact fin n r true (by lia) (by rw [re,e0,AD (by rw [p6,RG];decide)])
def TM:Sp:=fun vs H Q _=> ∃a b h,vs=[.int a,.int b,.int h]/\A3 a/\A3 b/\(h=0\/h=1)/\ ∀H' l,A2 H' l (Kg QUAD (h.toNat==1) (NB a.toNat) (NB b.toNat))->AQ H H'->Q (.ref l) H'
def xS(h:(BH x||BH y)=true):Kg QUAD tr x y=M_ QUAD [x,y]:=by
 cases x<;>cases y<;>first|rfl|cases h
def xT:Df "remainder" 9 ["a","b","how"] TM:=by
 refine(AW 44 rfl).go ["a","b","how","x","y"] ?_;rintro S _ _ _ _ _ _ H _ Q _ hr ⟨a,b,h,rfl,ba,bb,hh,q⟩;refine⟨_,(AJ (pS 3 S (pD hr DS (pO 0))) (AJ (pS 4 S (pD hr DS (pO 1))) (AJ (Ag (Bz (pD hr J2 (AB (Ay (pW 3 (pO 4))) AL))) (pR (pD hr MP (AB (Ay (pW 3 (pO 4))) AL))) Ai) (AJ (Ag (PW.pt (Fb (AX Ae (AR (pv 3) rfl) (pG D7)) (Fn (AX Ae (AR (pv 4) rfl) (pG Hb))))) (pR (Gg hr MO)) Ai) (AJ (Ag (AX Ae (AR (pv 4) rfl) (pG D7)) (pR (Ay (pW 0 (AB AE AL)))) Ai) (pR (pD hr xR (pW 3 (pW 4 (pO 2)))))))))),?_⟩;refine⟨_,rfl,a,rfl,ba,fun H1 px hx s1=>⟨_,rfl,b,rfl,bb,fun H2 py hy s2=>?_⟩⟩;have GL:=hx.same s2;have qx:QN (AU QUAD a.toNat):=QM.FO _;have qy:QN (AU QUAD b.toNat):=QM.FO _;have zb:= @TC a ba;have rb:=fun n m e=> @QM.fo QUAD 0 a.toNat n m e dd ba.lt
 have q': ∀H' l,A2 H' l (Kg QUAD (h.toNat==1) (AU QUAD a.toNat) (AU QUAD b.toNat))->AQ H2 H'->Q (.ref l) H':=fun H' l h s=>q H' l h ((s1.trans s2).trans s)
 generalize AU QUAD a.toNat=x at hx GL qx q' zb rb;generalize AU QUAD b.toNat=y at hy qy q';refine⟨_,rfl,_,rfl,dz,fun l hl=>⟨l,[x,y],rfl,Mi AZ (GL.same (AQ.new hl)) (hy.same (AQ.new hl)),(by show 2<=1000;decide),fun H3 s3=>⟨_,rfl,D6 (fun h1=>?_) (fun h1=>?_)⟩⟩⟩
 ·rw [LA]at h1;have s4:AQ H2 H3:=(AQ.new hl).trans s3;refine⟨_,rfl,_,rfl,dz,fun l2 Bp=>⟨l2,[x,y],rfl,Mi AZ ((GL.same s4).same (AQ.new Bp)) ((hy.same s4).same (AQ.new Bp)),(by show 2<=1000;decide),fun H4 p h4 s5=>q' H4 p ?_ ((s4.trans (AQ.new Bp)).trans s5)⟩⟩;rw [xS h1];exact h4
 ·rw [LA]at h1;have s4:AQ H2 H3:=(AQ.new hl).trans s3;have nH:=GL.same s4;have nI:=hy.same s4;have q3: ∀H' l,A2 H' l (Kg QUAD (h.toNat==1) x y)->AQ H3 H'->Q (.ref l) H':=fun H' l h s=>q' H' l h (s4.trans s)
  obtain⟨dx,k,s,z,e,ha,La⟩:=id nH;obtain⟨dy,k',s',z',e',hb,nJ⟩:=id nI;have kx: ∀σ:L2.St,σ[3]? =some (some (.ref px))->Ev (BJ K (Aa 3) "kind") σ H3 (.int k):=fun σ h=>Ax (AH h) ha AN.cl AN.kind C3
  have ky: ∀σ:L2.St,σ[4]? =some (some (.ref py))->Ev (BJ K (Aa 4) "kind") σ H3 (.int k'):=fun σ h=>Ax (AH h) hb AN.cl AN.kind C3
  refine Bf ((GD (Ac (An (kx _ rfl) AI)) (Ac (An (ky _ rfl) AI))).to (b':=(G9 x||IQ y)) (by rw [FP La,J3 nJ])) (fun h2=>?_) (fun h2=>?_)
  ·refine⟨rfl,fun H4 l h4 s5=>q3 H4 l ?_ s5⟩;cases x with
   |nan b=>cases h1
   |inf n=>cases y<;>first|exact h4|cases h1
   |fin n i j=>
    cases y with
    |nan b=>cases h1
    |inf n'=>cases h2
    |fin n' i' j'=>
     have i0:i'=0:=Au h2;subst i0;exact h4
  ·rw [Gv]at h2;refine Bf ((Ac (An (ky _ rfl) AI)).to (FP nJ)) (fun h3=>?_) (fun h3=>?_)
   ·refine⟨_,rfl,dz,fun l hl=>q3 _ l ?_ (AQ.new hl)⟩;cases x with
    |nan b=>cases h1
    |inf n=>cases h2.1
    |fin n i j=>
     cases y with
     |nan b=>cases h1
     |fin n' i' j'=>cases h3
     |inf n'=>
      unfold A2;rw [AZ];have e1:Kg QUAD (h.toNat==1) (.fin n i j) (.inf n')=(a.toNat,0):=by
       show(if i=0 then FX QUAD n else Es QUAD 0 n (F3 i 1 j))=_;by_cases c:i=0
       ·subst c;rw [AG rfl];have :=zb (n:=n) (e:=j) rfl;have h0:=ba.1;show((FX QUAD n).1,0)=_;congr 1;lia
       ·rw [AD c];exact rb n i j rfl c
      rw [e1];show some (HO.lst [.int a,.int 0])=some (HO.lst [.int ((a.toNat:Nat):Int),.int 0]);rw [FA ba.1]
   ·cases x with
    |nan b=>cases h1
    |inf n=>cases h2.1
    |fin n i j=>
     cases y with
     |nan b=>cases h1
     |inf n'=>cases h3
     |fin n' i' j'=>
      have i0:i'≠0:=BA h2.2;exact⟨_,rfl,_,rfl,_,rfl,px,py,n,n',i,i',j,j',h,rfl,nH,nI,i0,qx,qy,hh,q3⟩
def P6{C:Addr}{H:Hp}{x dx:Addr}{k s z e:Int}{R:Hp->Prop}(nx:H x=none)(nd:H dx=none)(ne:dx≠x)(h: ∀H',H' x=some (.ins C dx (PF k s z e))->AQ H H'->R H'):
 Py C [.ref x,.int k,.int s,.int z,.int e] (upd (upd H dx (.own x)) x (.ins C dx [])) (fun v H2=>v=.BZ/\R H2) E0:=
 ⟨x,dx,k,s,z,e,rfl,AZ,fun H' e1 kp=>⟨rfl,h H' e1 (Qb nx nd kp)⟩⟩
def TN:Sp:=fun vs H Q _=> ∃a n m,vs=[.int a,.int n,.int m]/\A3 a/\(-40000<=n/\n<=40000)/\(0<=m/\m<=4)/\ ∀H' l,A2 H' l (Qu.scale QUAD m.toNat (NB a.toNat) n)->AQ H H'->Q (.ref l) H'
def xU:
 Df "scale" 8 ["a","n","mode"] TN:=by
 refine(AW 45 rfl).go ["a","n","mode","x"] ?_;rintro S _ _ _ _ _ _ H _ Q _ hr ⟨a,n,m,rfl,ba,hn,hm,q⟩;refine⟨_,(AJ (pS 3 S (pD hr DS (pO 0))) (pR (pD hr G8 (AB (pC hr IM (AB (AR (pv 3) rfl) (AB (AR (pv 3) rfl) (AB (AR (pv 3) rfl) (AB (AK BX (AR (pv 3) rfl) (pv 1)) AL))))) (pO 2))))),?_⟩;refine⟨_,rfl,a,rfl,ba,fun H1 px hx s1=>?_⟩;have qx:QN (AU QUAD a.toNat):=QM.FO _;have q': ∀H' l,A2 H' l (Qu.scale QUAD m.toNat (AU QUAD a.toNat) n)->AQ H1 H'->Q (.ref l) H':=fun H' l h s=>q H' l h (s1.trans s)
 generalize AU QUAD a.toNat=x at hx qx q';obtain⟨dx,k,s,z,e,ha,La⟩:=hx;refine⟨_,rfl,px,CP,dx,_,_,rfl,ha,AN.cl,AN.kind,C3,_,rfl,px,CP,dx,_,_,rfl,ha,AN.cl,AN.sign,DR,_,rfl,px,CP,dx,_,_,rfl,ha,AN.cl,AN.size,EV,_,rfl,px,CP,dx,_,_,rfl,ha,AN.cl,AN.power,DQ,_,rfl,_,_,rfl,rfl,
  fun y dy ny nd ne=>P6 ny nd ne fun H' e1 s2=>?_⟩
 cases x with
 |nan b=>exact⟨_,rfl,y,.nan b,m,rfl,⟨dy,_,_,_,_,e1,La⟩,Dd,hm,fun H2 l h2 s3=>q' H2 l h2 (s2.trans s3)⟩
 |inf b=>exact⟨_,rfl,y,.inf b,m,rfl,⟨dy,_,_,_,_,e1,La⟩,Dd,hm,fun H2 l h2 s3=>q' H2 l h2 (s2.trans s3)⟩
 |fin b i j=>
  have y1:=qx.2;refine⟨_,rfl,y,.fin b i (j+n),m,rfl,⟨dy,_,_,_,_,e1,La.1,La.2.1,La.2.2.1,by rw [La.2.2.2]⟩,fun hi=>⟨by lia,A9 (Cg qx.1) dd,by lia,by lia⟩,hm,fun H2 l h2 s3=>q' H2 l h2 (s2.trans s3)⟩
end
def gf(h:ML k s z e x)(hn:BH x=false):(!decide (k=1))=(G9 x||IQ x):=by
 cases x with
 |nan q=>cases hn
 |inf n=>rw [h.1];rfl
 |fin n m p=>
  rw [h.1];show _=(false||decide (m=0));by_cases c:m=0
  ·rw [AG c,Bi c];rfl
  ·rw [AD c,Bh c];rfl
def Xo:DX (x::r) 0=some x:=by
 have :=HQ (xs:=x::r) (j:=0) (v:=x) rfl;exact this
def Xp(f:Fmt)(m:Nat)(nx n:Bool)(a:Nat)(e:Int):Vw f m nx (.fin n a e)=
 ((if rounded m n (ratioAt a 1 e 0)=0 then Cv f n 0 else(Es f 1 n (F3 (rounded m n (ratioAt a 1 e 0)) 1 0)).1),if nx=true/\(ratioAt a 1 e 0).2≠0 then Qu.NX else 0):=rfl
section
variable{C:Addr}
def TQ:Sp:=fun vs H Q _=> ∃a x m,vs=[.int a,.int x,.int m]/\A3 a/\(x=0\/x=1)/\(0<=m/\m<=4)/\ ∀H' l,A2 H' l (Vw QUAD m.toNat (x.toNat==1) (NB a.toNat))->AQ H H'->Q (.ref l) H'
def xV:Df "whole" 8 ["a","exact","mode"] TQ:=by
 have S:Bj ["a","exact","mode","x","count","bits"] ["a","exact","mode"] (sc 122):=fS;refine(AW 46 rfl).ok S (by rintro _ _ _ _ ⟨_,_,_,rfl,_⟩;rfl) (fun b0 f0 By A outer st H0 vs Q E hr h=>?_);obtain⟨a,nx,m,rfl,ba,hnx,hm,q0⟩:=h;refine⟨_,(AJ (pS 3 S.nd (pD hr DS (pO 0))) (AJ (Ag (Bz (pD hr J2 (AB (Ay (pO 3)) AL))) (pR (pD hr MP (AB (Ay (pO 3)) AL))) Ai) (AJ (Ag (PW.pt (Fb (AX L7 (AR (pv 3) rfl) (pG Nq)) (Fn (Bz (pD hr XU (AB (AR (pv 3) rfl) (AB (AR (pv 3) rfl) (AB AE AL)))))))) (pR (Ay (pW 0 (AB AE AL)))) Ai) (AJ (pS 4 S.nd (pD hr Sz (AB (AR (pv 3) rfl) (AB (AR (pv 3) rfl) (AB (AR (pv 3) rfl) (AB AE (pO 2))))))) (AJ (pS 5 S.nd (AY Ah (pD hr G8 (AB (pD hr Fe (AB (AR (pv 3) rfl) (pW 4 (AB AE AL)))) (AB (pG P5) AL))) AE)) (pR (Ay (pW 5 (AB (Bq (AX Ae (pv 1) AE) (pG P1) AE) AL))))))))),?_⟩;refine⟨_,rfl,a,rfl,ba,fun H1 px Dz s1=>?_⟩;have qx:QN (AU QUAD a.toNat):=QM.FO _;have zb:= @TC a ba;have ib:= @Xn a ba;have rb:=fun md n m e=> @QM.fo QUAD md a.toNat n m e dd ba.lt
 have q1: ∀H' l,A2 H' l (Vw QUAD m.toNat (nx.toNat==1) (AU QUAD a.toNat))->AQ H1 H'->Q (.ref l) H':=fun H' l h s=>q0 H' l h (s1.trans s)
 generalize AU QUAD a.toNat=x at Dz qx q1 zb ib rb;refine⟨_,rfl,dz,fun l hl=>⟨l,[x],rfl,JJ.one AZ (Dz.same (AQ.new hl)),(by show 1<=1000;decide),fun H s3=>⟨_,rfl,D6 (fun h1=>?_) (fun h1=>?_)⟩⟩⟩
 ·have s4:AQ H1 H:=(AQ.new hl).trans s3;refine⟨_,rfl,dz,fun l2 Bp=>⟨l2,[x],rfl,JJ.one AZ ((Dz.same s4).same (AQ.new Bp)),(by show 1<=1000;decide),fun H4 p h4 s5=>q1 H4 p ?_ ((s4.trans (AQ.new Bp)).trans s5)⟩⟩;cases x with
  |nan b=>exact h4
  |inf n=>cases h1
  |fin n i j=>cases h1
 ·have s4:AQ H1 H:=(AQ.new hl).trans s3;have hn:BH x=false:=by cases x<;>first|rfl|cases h1
  have q: ∀H' l,A2 H' l (Vw QUAD m.toNat (nx.toNat==1) x)->AQ H H'->Q (.ref l) H':=fun H' l h s=>q1 H' l h (s4.trans s)
  obtain⟨dx,k,s,z,e,ha,hx⟩:=Dz.same s4;have kx: ∀σ:L2.St,σ[3]? =some (some (.ref px))->Ev (BJ K (Aa 3) "kind") σ H (.int k):=fun σ h=>Ax (AH h) ha AN.cl AN.kind C3
  have same:Vw QUAD m.toNat (nx.toNat==1) x=(a.toNat,0)-> ∀σ:L2.St,σ[0]? =some (some (.int a))->(NT (Ba (Aa 0) (Ba (tC (.int 0)) B3))) σ H Q:=fun e1 σ h0=>by
   refine⟨_,h0,dz,fun l hl=>q _ l ?_ (AQ.new hl)⟩;unfold A2;rw [AZ,e1];show some (HO.lst [.int a,.int 0])=some (HO.lst [.int ((a.toNat:Nat):Int),.int 0]);rw [FA ba.1]
  refine(Ac (Mh (kx _ rfl) AI):DK _ _ _ _) _ ?_;rw [gf hx hn];refine D6 (fun h2=>ID (same ?_ _ rfl)) (fun h2=>?_)
  ·cases x with
   |nan b=>cases hn
   |inf n=>
    have :=ib rfl;have h0:=ba.1;show((HI QUAD n).1,0)=_;congr 1;lia
   |fin n i j=>
    have i0:i=0:=Au h2;subst i0;have :=zb rfl;have h0:=ba.1;have e1:ratioAt 0 1 j 0=(0,0):=by
     rcases Vv 0 j with c|c
     ·rw [QM.P4 c,Jk]
     ·rw [QM.TK c,Nat.zero_div,bU,f7]
    rw [Xp,e1,QM.Pu _ _ rfl];have e2:(FX QUAD n).1=a.toNat:=by lia
    show((FX QUAD n).1,if(nx.toNat==1)=true/\(0:Nat)≠0 then Qu.NX else 0)=_;rw [e2,AD (fun z=>z.2 rfl)]
  ·cases x with
   |nan b=>cases hn
   |inf n=>cases h2
   |fin n i j=>
    have i0:i≠0:=BA h2;obtain⟨k1,k2,k3,k4⟩:=hx;subst k2 k3 k4;have y1:=qx.2;have bi:Aq (i:Int)<=113:=Cg qx.1;refine⟨_,rfl,px,CP,dx,_,_,rfl,ha,AN.cl,AN.size,EV,_,rfl,px,CP,dx,_,_,rfl,ha,AN.cl,AN.power,DQ,_,_,_,rfl,CI _,by lia,_,rfl,J0 (fun h3=>same ?_ _ rfl) (fun h3=>?_)⟩
    ·rw [Am]at h3;obtain⟨w1,w2⟩:=QM.xF (by lia:0<i) h3;rw [Xp,QM.Pu _ _ h3,AD (by lia),w2,rb 1 n i e rfl i0,AD (fun z=>z.2 h3)]
    ·rw [Am]at h3;refine⟨_,rfl,px,CP,dx,_,_,rfl,ha,AN.cl,AN.sign,DR,_,rfl,px,CP,dx,_,_,rfl,ha,AN.cl,AN.size,EV,_,rfl,px,CP,dx,_,_,rfl,ha,AN.cl,AN.power,DQ,_,rfl,_,_,_,_,_,rfl,C7 n,⟨CI _,by lia⟩,⟨by lia,by lia⟩,hm,?_⟩;rw [CL,Am];have ii:=Xp QUAD m.toNat (nx.toNat==1) n i e;have cb:rounded m.toNat n (ratioAt i 1 e 0)<=2^113:=by
      have e0:e<=0:=by
       rcases Vv e 0 with c|c
       ·exact c
       ·rw [QM.P4 c]at h3;exact absurd rfl h3
      rw [QM.TK e0];have :=qD i (2^(0-e).toNat);have hq:=qx.1;rcases QM.K4 m.toNat n (i/2^(0-e).toNat,restOf (i%2^(0-e).toNat) (2^(0-e).toNat))with r|r<;>rw [r]<;>lia
     generalize rounded m.toNat n (ratioAt i 1 e 0)=c at ii cb;have bc:Aq (c:Int)<=114:=Cg (Cb cb (QM.Ha dd));refine⟨_,rfl,px,CP,dx,_,_,rfl,ha,AN.cl,AN.sign,DR,_,rfl,_,_,_,rfl,C7 n,CI _,fun H2 p2 h4 s5=>⟨p2,_,0,rfl,h4,fun hz=>⟨by lia,by
      rw [Am];exact A9 bc dd,by decide,by decide⟩,⟨by decide,by decide⟩,fun H3 l3 h5 s6=>?_⟩⟩
     rw [CL,Am]at h5;refine⟨l3,_,0,_,rfl,rfl,BL h5,Xo,?_⟩;refine⟨_,rfl,(B5 (v:=.int (if(nx.toNat==1)=true then 1 else 0)) (Ac (An (AH rfl) AI)) (fun c=>?_) (fun c=>?_):Ev _ _ _ _) _ ?_⟩
     ·have :nx=1:=Au c;rw [this];exact AI
     ·have :nx≠1:=BA c;have e9:nx=0:=by lia
      rw [e9];exact AI
     refine⟨dz,fun l hl=>q _ l ?_ ((s5.trans s6).trans (AQ.new hl))⟩;unfold A2;rw [AZ,ii];have e5:(Ds QUAD (0:Int).toNat (.fin n c 0)).1=(if c=0 then Cv QUAD n 0 else(Es QUAD 1 n (F3 c 1 0)).1):=by
      by_cases c0:c=0
      ·subst c0;rfl
      ·rw [AD c0];show(Ds QUAD 0 (.fin n c 0)).1=_;rw [IP c0,(QM.xE (by lia) cb 0 1 n).1]
     rw [e5];have e6:(if(nx.toNat==1)=true/\(ratioAt i 1 e 0).2≠0 then Qu.NX else 0)=(if(nx.toNat==1)=true then 1 else 0):=by
      by_cases c:(nx.toNat==1)=true
      ·rw [AG ⟨c,h3⟩,AG c];rfl
      ·rw [AD (fun z=>c z.1),AD c]
     rw [e6];by_cases c:(nx.toNat==1)=true
     ·rw [AG c,AG c];rfl
     ·rw [AD c,AD c];rfl
end
abbrev SB:Int:=170141183460469231731687303715884105728
def J4:QUAD.signBit=170141183460469231731687303715884105728:=by decide
def xW(n i:Nat):n&&& 2^i=if n.testBit i=true then 2^i else 0:=by
 refine Nat.eq_of_testBit_eq fun j=>?_
 rw [Nat.testBit_and,qE];by_cases c:i=j
 ·subst c;rw [Bi rfl,B8];cases h:n.testBit i
  ·rw [AD dd,Nat.zero_testBit]
  ·rw [AG rfl,qE,Bi rfl]
 ·rw [Bh c,ai];split
  ·rw [qE,Bh c]
  ·rw [Nat.zero_testBit]
def P7(h:A3 b):D0 b SB=if Bt QUAD b.toNat=true then SB else 0:=by
 obtain⟨n,rfl⟩: ∃n:Nat,b=(n:Int):=⟨b.toNat,by have :=h.1;lia⟩;have hl:=h.lt;rw [Am]at hl⊢;rw [bitAnd_pp (CI _) dd,Am];have e:SB.toNat=2^127:=by decide
 have e1:Bt QUAD n=decide (n/2^127%2=1):=rfl;rw [e,xW,Nat.testBit_eq_decide_div_mod_eq,e1];by_cases c:n/2^127%2=1
 ·rw [Bi c,AG rfl,AG rfl];decide
 ·rw [Bh c,AD dd,AD dd];rfl
def TR(h:A3 b):b=(if Bt QUAD b.toNat=true then SB else 0)+((QM.A0 QUAD b.toNat:Nat):Int):=by
 have e:=QM.Pw h.lt;have h0:=h.1;unfold Cv at e;rw [J4]at e;by_cases c:Bt QUAD b.toNat=true
 ·rw [AG c]at e⊢;show b=170141183460469231731687303715884105728+_;lia
 ·rw [AD c]at e⊢;lia
def Xq(h:A3 b):Mz b SB=((Ot QUAD b.toNat:Nat):Int):=by
 rw [bitXor_and,P7 h];have e:=TR h;unfold Ot Cv;have em:b.toNat%QUAD.signBit=QM.A0 QUAD b.toNat:=rfl;rw [em,J4];cases hn:Bt QUAD b.toNat
 ·rw [hn,AD dd]at e;rw [AD dd,AG dd];show b+170141183460469231731687303715884105728-2*0=_;lia
 ·rw [hn,AG rfl]at e;rw [AG rfl,AD dd];show b+170141183460469231731687303715884105728-2*170141183460469231731687303715884105728=_;have e':b=170141183460469231731687303715884105728+((QM.A0 QUAD b.toNat:Nat):Int):=e;lia
def P8(b:Nat):QM.A0 QUAD b<170141183460469231731687303715884105728:=by
 have :=QM.fk QUAD b;rw [J4]at this;exact this
def xX(b:Nat):A3 ((Ot QUAD b:Nat):Int):=by
 have h:=P8 b;unfold Ot Cv;have em:b%QUAD.signBit=QM.A0 QUAD b:=rfl;rw [em,J4];constructor
 ·lia
 ·split<;>lia
def xY(hn:BH (AU QUAD b)=false):A3 (((Kh QUAD b).1:Nat):Int):=by
 have h:=P8 b;have em:b%QUAD.signBit=QM.A0 QUAD b:=rfl;unfold Kh;rw [hn,AD dd,em,J4];constructor
 ·lia
 ·split
  ·split<;>(dsimp only;lia)
  ·split
   ·decide
   ·dsimp only;lia
section
variable{C:Addr}
def xZ:Sp:=fun vs H Q _=> ∃b,vs=[.int b]/\A3 b/\BH (AU QUAD b.toNat)=false/\Q (.int ((Kh QUAD b.toNat).1:Nat)) H
def gh:
 Df "above" 2 ["a"] xZ:=by
 refine(AW 47 rfl).go ["a"] ?_;rintro _ _ _ _ _ _ _ H _ Q _ hr ⟨b,rfl,hb,hn,q⟩;refine⟨_,(AJ (Ag (AX Ae (pD hr K8 (pO 0)) AE) (pR AE) Ai) (AJ (Ag (AX Ae (pv 0) (pG gJ)) (pR (pv 0)) Ai) (pR (Bq (AX Ae (pD hr Xc (pO 0)) AE) (AK BP (pv 0) AE) (AK BX (pv 0) AE))))),?_⟩;have es:=TR hb;have ml:=P8 b.toNat;have h0:=hb.1;have up:(Kh QUAD b.toNat).1=(if Bt QUAD b.toNat=false then(if QM.A0 QUAD b.toNat=QUAD.infinity then QM.A0 QUAD b.toNat else QM.A0 QUAD b.toNat+1)else if QM.A0 QUAD b.toNat=0 then 1 else QUAD.signBit+(QM.A0 QUAD b.toNat-1)):=by
  have em:b.toNat%QUAD.signBit=QM.A0 QUAD b.toNat:=rfl;unfold Kh;rw [hn,AD dd,em];split
  ·rfl
  ·split<;>rfl
 have ei:QUAD.infinity=170135991163610696904058773219554885632:=by decide
 rw [up,J4,ei]at q;refine⟨_,rfl,b,rfl,hb,rfl,_,rfl,FN (fun h1=>?_) (fun h1=>?_)⟩
 ·have m0:QM.A0 QUAD b.toNat=0:=by lia
  rw [m0]at q;show Q (.int 1) H;cases hg:Bt QUAD b.toNat
  ·rw [hg,AG rfl,AD dd]at q;exact q
  ·rw [hg,AD dd,AG rfl]at q;exact q
 ·refine⟨_,rfl,rfl,_,rfl,FN (fun h2=>?_) (fun h2=>?_)⟩
  ·refine⟨_,rfl,?_⟩;have hg:Bt QUAD b.toNat=false:=by
    cases hg:Bt QUAD b.toNat
    ·rfl
    ·rw [hg,AG rfl]at es;have Qh:b=170141183460469231731687303715884105728+((QM.A0 QUAD b.toNat:Nat):Int):=es;lia
   rw [hg,AD dd]at es;rw [hg,AG rfl,AG (by lia)]at q;have e:((QM.A0 QUAD b.toNat:Nat):Int)=b:=by lia
   rw [e]at q;exact q
  ·refine⟨_,rfl,b,rfl,hb,rfl,_,rfl,FN (fun h3=>?_) (fun h3=>?_)⟩
   ·have hg:Bt QUAD b.toNat=true:=by
     cases hg:Bt QUAD b.toNat
     ·rw [hg]at h3;cases h3
     ·rfl
    rw [hg,AG rfl]at es;have Qh:b=170141183460469231731687303715884105728+((QM.A0 QUAD b.toNat:Nat):Int):=es;rw [hg,AD dd,AD (by lia)]at q;refine⟨_,rfl,_,_,rfl,rfl,?_⟩;have e:((170141183460469231731687303715884105728+(QM.A0 QUAD b.toNat-1):Nat):Int)=b-1:=by lia
    rw [e]at q;exact q
   ·have hg:Bt QUAD b.toNat=false:=by
     cases hg:Bt QUAD b.toNat
     ·rfl
     ·rw [hg]at h3;exact absurd rfl h3
    rw [hg,AD dd]at es;rw [hg,AG rfl,AD (by lia)]at q;refine⟨_,rfl,_,_,rfl,rfl,?_⟩;have e:((QM.A0 QUAD b.toNat+1:Nat):Int)=b+1:=by lia
    rw [e]at q;exact q
def TU:Sp:=fun vs H Q _=> ∃a d,vs=[.int a,.int d]/\A3 a/\(d=0\/d=1)/\ ∀H' l,A2 H' l (Vx QUAD d.toNat a.toNat)->AQ H H'->Q (.ref l) H'
def xa(h:A3 b):BH (AU QUAD (Ot QUAD b.toNat))=BH (AU QUAD b.toNat):=
 QM.xH (QM.xI (f:=QUAD) (n:= !Bt QUAD b.toNat) (x:=b.toNat%QUAD.signBit) (QM.fk QUAD _)).1
def xb:Df "next_number" 7 ["a","down"] TU:=by
 have S:Bj ["a","down","x"] ["a","down"] (sc 124):=fS;refine(AW 48 rfl).ok S (by rintro _ _ _ _ ⟨_,_,rfl,_⟩;rfl) (fun b0 f0 By A outer st H0 vs Q E hr h=>?_);obtain⟨a,d,rfl,ba,hd,q0⟩:=h;refine⟨_,(AJ (pS 2 S.nd (pD hr DS (pO 0))) (AJ (Ag (Bz (pD hr J2 (AB (Ay (pO 2)) AL))) (pR (pD hr MP (AB (Ay (pO 2)) AL))) Ai) (AJ (Ag (AX Ae (pv 1) AE) (pR (Ay (AB (AK NQ (pD hr gh (AB (AK NQ (pv 0) (pG Nt)) AL)) (pG Nt)) (AB AE AL)))) Ai) (pR (Ay (AB (pD hr gh (pO 0)) (AB AE AL))))))),?_⟩;refine⟨_,rfl,a,rfl,ba,fun H1 px Dz s1=>?_⟩;refine⟨_,rfl,dz,fun l hl=>⟨l,[_],rfl,JJ.one AZ (Dz.same (AQ.new hl)),(by show 1<=1000;decide),fun H s3=>⟨_,rfl,D6 (fun h1=>?_) (fun h1=>?_)⟩⟩⟩
 ·have s4:AQ H1 H:=(AQ.new hl).trans s3;have hn:BH (AU QUAD a.toNat)=true:=by simpa using h1
  refine⟨_,rfl,dz,fun l2 Bp=>⟨l2,[_],rfl,JJ.one AZ ((Dz.same s4).same (AQ.new Bp)),(by show 1<=1000;decide),fun H4 p h4 s5=>q0 H4 p ?_ (s1.trans ((s4.trans (AQ.new Bp)).trans s5))⟩⟩;unfold Vx;split
  ·unfold Kh;rw [AG hn];exact h4
  ·unfold qF;rw [AG hn];exact h4
 ·have s4:AQ H1 H:=(AQ.new hl).trans s3;have hn:BH (AU QUAD a.toNat)=false:=by simpa using h1
  have q: ∀H' l,A2 H' l (Vx QUAD d.toNat a.toNat)->AQ H H'->Q (.ref l) H':=fun H' l h s=>q0 H' l h (s1.trans (s4.trans s))
  refine Bf (Ac (An (AH rfl) AI)) (fun h2=>?_) (fun h2=>?_)
  ·have d1:d=1:=Au h2;have hx:=Xq ba;have tq:=xX a.toNat;have tn:=(xa ba).trans hn;refine⟨_,rfl,_,_,rfl,rfl,Mz a SB,rfl,by rw [hx];exact tq,by rw [hx,Am];exact tn,?_⟩;rw [hx,Am];have uq:=xY tn;refine⟨_,_,rfl,rfl,dz,fun l hl=>q _ l ?_ (AQ.new hl)⟩;have e1:Vx QUAD d.toNat a.toNat=(Ot QUAD (Kh QUAD (Ot QUAD a.toNat)).1,0):=by
    rw [d1];show qF QUAD a.toNat=_;unfold qF;rw [hn,AD dd]
   have e2:=Xq uq;rw [Am]at e2;unfold A2;rw [AZ,e1];show some (HO.lst [.int (Mz _ SB),.int 0])=_;rw [e2];rfl
  ·have d0:d=0:=by have :=BA h2;lia
   refine⟨_,rfl,a,rfl,ba,hn,dz,fun l hl=>q _ l ?_ (AQ.new hl)⟩;have e1:Vx QUAD d.toNat a.toNat=((Kh QUAD a.toNat).1,0):=by
    rw [d0];show Kh QUAD a.toNat=_;unfold Kh;rw [hn,AD dd];split
    ·rfl
    ·split<;>rfl
   unfold A2;rw [AZ,e1];rfl
def P9(H:Hp)(l:Addr)(x:(Nat×Nat)×Int):Prop:=H l=some (.lst [.int (x.1.1:Int),.int x.2,.int (x.1.2:Int)])
def TV:Sp:=fun vs H Q _=> ∃a,vs=[.int a]/\A3 a/\ ∀H' l,P9 H' l (Vy QUAD (NB a.toNat))->AQ H H'->Q (.ref l) H'
def xc:DX (x::y::r) 1=some y:=by
 have :=HQ (xs:=x::y::r) (j:=1) (v:=y) rfl;exact this
def gj(f:Fmt)(n:Bool)(a:Nat)(d:Int):Vy f (.fin n a d)=if a=0 then(FX f n,0)else(Es f 0 n (F3 a 1 (-(a.log2:Int))),(a.log2:Int)+d):=rfl
def xf:
 Df "split_number" 8 ["a"] TV:=by
 have S:Bj ["a","x","answer","e"] ["a"] (sc 125):=fS;refine(AW 49 rfl).ok S (by rintro _ _ _ _ ⟨_,rfl,_⟩;rfl) (fun b0 f0 By A outer st H0 vs Q E hr h=>?_);obtain⟨a,rfl,ba,q0⟩:=h;refine⟨_,(AJ (pS 1 S.nd (pD hr DS (pO 0))) (AJ (Ag (Bz (pD hr J2 (AB (Ay (pO 1)) AL))) (AJ (pS 2 S.nd (pD hr MP (AB (Ay (pO 1)) AL))) (pR (Ay (AB (AY Ah (pv 2) AE) (AB AE (AB (AY Ah (pv 2) AE) AL)))))) Ai) (AJ (Ag (AX L7 (AR (pv 1) rfl) (pG Nq)) (pR (Ay (pW 0 (AB AE (AB AE AL))))) Ai) (AJ (pS 3 S.nd (pD hr MN (AB (AR (pv 1) rfl) (AB (AR (pv 1) rfl) AL)))) (pR (Ay (AB (AY Ah (pD hr G8 (AB (pD hr Fe (AB (AR (pv 1) rfl) (AB (AR (pv 1) rfl) (AB (AK BP (AR (pv 1) rfl) (pv 3)) AL)))) (AB (pG P5) AL))) AE) (pW 3 (AB AE AL))))))))),?_⟩;refine⟨_,rfl,a,rfl,ba,fun H1 px Dz s1=>?_⟩;have qx:QN (AU QUAD a.toNat):=QM.FO _;have zb:= @TC a ba;have ib:= @Xn a ba;have q1: ∀H' l,P9 H' l (Vy QUAD (AU QUAD a.toNat))->AQ H1 H'->Q (.ref l) H':=fun H' l h s=>q0 H' l h (s1.trans s)
 generalize AU QUAD a.toNat=x at Dz qx q1 zb ib;refine⟨_,rfl,dz,fun l hl=>⟨l,[x],rfl,JJ.one AZ (Dz.same (AQ.new hl)),(by show 1<=1000;decide),fun H s3=>⟨_,rfl,D6 (fun h1=>?_) (fun h1=>?_)⟩⟩⟩
 ·have s4:AQ H1 H:=(AQ.new hl).trans s3;refine⟨_,rfl,dz,fun l2 Bp=>⟨l2,[x],rfl,JJ.one AZ ((Dz.same s4).same (AQ.new Bp)),(by show 1<=1000;decide),fun H4 p h4 s5=>?_⟩⟩;refine⟨_,rfl,p,_,0,_,rfl,rfl,BL h4,Xo,_,rfl,p,_,1,_,rfl,rfl,BL h4,xc,dz,fun l hl=>q1 _ l ?_ (((s4.trans (AQ.new Bp)).trans s5).trans (AQ.new hl))⟩;cases x with
  |nan b=>exact AZ
  |inf n=>cases h1
  |fin n i j=>cases h1
 ·have s4:AQ H1 H:=(AQ.new hl).trans s3;have hn:BH x=false:=by cases x<;>first|rfl|cases h1
  have q: ∀H' l,P9 H' l (Vy QUAD x)->AQ H H'->Q (.ref l) H':=fun H' l h s=>q1 H' l h (s4.trans s)
  obtain⟨dx,k,s,z,e,ha,hx⟩:=Dz.same s4;have kx: ∀σ:L2.St,σ[1]? =some (some (.ref px))->Ev (BJ K (Aa 1) "kind") σ H (.int k):=fun σ h=>Ax (AH h) ha AN.cl AN.kind C3
  refine Bf ((Ac (Mh (kx _ rfl) AI)).to (gf hx hn)) (fun h2=>?_) (fun h2=>?_)
  ·refine⟨_,rfl,dz,fun l hl=>q _ l ?_ (AQ.new hl)⟩;have e1:Vy QUAD x=((a.toNat,0),0):=by
    have h0:=ba.1;cases x with
    |nan b=>cases hn
    |inf n=>
     have :=ib rfl;show(((HI QUAD n).1,0),(0:Int))=_;have e2:(HI QUAD n).1=a.toNat:=by lia
     rw [e2]
    |fin n i j=>
     have i0:i=0:=Au h2;subst i0;have :=zb rfl;have e2:(FX QUAD n).1=a.toNat:=by lia
     rw [gj,AG rfl];show(((FX QUAD n).1,0),(0:Int))=_;rw [e2]
   unfold P9;rw [AZ,e1];show some (HO.lst [.int a,.int 0,.int 0])=some (HO.lst [.int ((a.toNat:Nat):Int),.int 0,.int 0]);rw [FA ba.1]
  ·cases x with
   |nan b=>cases hn
   |inf n=>cases h2
   |fin n i j=>
    have i0:i≠0:=BA h2;obtain⟨k1,k2,k3,k4⟩:=hx;subst k2 k3 k4;have y1:=qx.2;have bi:Aq (i:Int)<=113:=Cg qx.1;have eb:=XW (z:=(i:Int)) (by lia);rw [Am]at eb;refine⟨_,rfl,px,CP,dx,_,_,rfl,ha,AN.cl,AN.size,EV,_,rfl,px,CP,dx,_,_,rfl,ha,AN.cl,AN.power,DQ,_,_,rfl,?_⟩;refine⟨_,rfl,px,CP,dx,_,_,rfl,ha,AN.cl,AN.sign,DR,_,rfl,px,CP,dx,_,_,rfl,ha,AN.cl,AN.size,EV,_,rfl,px,CP,dx,_,_,rfl,ha,AN.cl,AN.power,DQ,_,rfl,_,_,rfl,rfl,_,_,_,rfl,C7 n,CI _,fun H2 p2 h4 s5=>⟨p2,_,0,rfl,h4,fun hz=>⟨by lia,by
     rw [Am];exact A9 bi dd,by lia,by lia⟩,⟨by decide,by decide⟩,fun H3 l3 h5 s6=>?_⟩⟩
    rw [CL,Am]at h5;refine⟨l3,_,0,_,rfl,rfl,BL h5,Xo,_,rfl,dz,fun l hl=>q _ l ?_ ((s5.trans s6).trans (AQ.new hl))⟩;have ep:e-(e+(Aq (i:Int):Int)-1)= -(i.log2:Int):=by lia
    have ep2:e+(Aq (i:Int):Int)-1=(i.log2:Int)+e:=by lia
    have ec:Ds QUAD (0:Int).toNat (.fin n i (e-(e+(Aq (i:Int):Int)-1)))=Es QUAD 0 n (F3 i 1 (-(i.log2:Int))):=by
     rw [ep];exact IP i0
    unfold P9;rw [AZ,gj,AD i0];have e0:=QM.xG (by lia:0<i) qx.1 n 0;show some (HO.lst [.int ((Ds QUAD (0:Int).toNat (.fin n i (e-(e+(Aq (i:Int):Int)-1)))).1:Int),.int (e+(Aq (i:Int):Int)-1),.int 0])=_;rw [ec,ep2];dsimp only;rw [e0];rfl
end
section
variable{C:Addr}
def P_:Sp:=fun vs H Q _=> ∃b,vs=[.int b]/\A3 b/\Q (.int (DI QUAD b.toNat)) H
def TX:sg n=1↔n=true:=by cases n<;>simp [sg]
def LB:Df "place" 2 ["bits"] P_:=by
 refine(AW 50 rfl).go ["bits"] ?_;rintro _ _ _ _ _ _ _ H _ Q _ hr ⟨b,rfl,hb,q⟩;refine⟨_,(pR (Bq (AX Ae (pD hr Xc (pO 0)) AE) (AK BP (Eu FG AE) (pD hr K8 (pO 0))) (pD hr K8 (pO 0)))),?_⟩;unfold DI at q;refine⟨_,rfl,b,rfl,hb,rfl,_,rfl,FN (fun h1=>?_) (fun h1=>?_)⟩
 ·rw [AG (TX.mp h1)]at q;refine⟨_,rfl,_,rfl,b,rfl,hb,_,_,rfl,rfl,?_⟩;have e:(-1-((QM.A0 QUAD b.toNat:Nat):Int))= -((b.toNat%QUAD.signBit:Nat):Int)-1:=by
   show -1-((b.toNat%QUAD.signBit:Nat):Int)=_;lia
  show Q (.int (-1-((QM.A0 QUAD b.toNat:Nat):Int))) H;rw [e];exact q
 ·rw [AD (fun z=>h1 (TX.mpr z))]at q;exact⟨_,rfl,b,rfl,hb,q⟩
def Xr:Sp:=fun vs H Q _=> ∃b,vs=[.int b]/\A3 b/\Q (.int (QM.Ck QUAD b.toNat)) H
def Nv:Df "height" 2 ["bits"] Xr:=by
 refine(AW 51 rfl).go ["bits"] ?_;rintro _ _ _ _ _ _ _ H _ Q _ hr ⟨b,rfl,hb,q⟩;refine⟨_,(pR (Bq (AX Ae (pD hr Xc (pO 0)) AE) (Eu FG (pD hr K8 (pO 0))) (pD hr K8 (pO 0)))),?_⟩;unfold QM.Ck at q;refine⟨_,rfl,b,rfl,hb,rfl,_,rfl,FN (fun h1=>?_) (fun h1=>?_)⟩
 ·rw [AG (TX.mp h1)]at q;exact⟨_,rfl,b,rfl,hb,_,rfl,q⟩
 ·rw [AD (fun z=>h1 (TX.mpr z))]at q;exact⟨_,rfl,b,rfl,hb,q⟩
noncomputable def He(wh a b:Nat):Nat×Nat:=if wh=0 then RY QUAD a b else RZ QUAD a b
def xg:Sp:=fun vs H Q _=> ∃a b wh,vs=[.int a,.int b,.int wh]/\A3 a/\A3 b/\(wh=0\/wh=1)/\ ∀H',AQ H H'->Q (.int ((He wh.toNat a.toNat b.toNat).1:Nat)) H'
def gk(ha:A3 a)(hb:A3 b):(QM.Ck QUAD a.toNat<QM.Ck QUAD b.toNat->DI QUAD a.toNat<DI QUAD b.toNat)/\
 (QM.Ck QUAD a.toNat=QM.Ck QUAD b.toNat->(Bt QUAD a.toNat=Bt QUAD b.toNat->a=b)/\(Bt QUAD a.toNat=true->Bt QUAD b.toNat=false->DI QUAD a.toNat<DI QUAD b.toNat)):=by
 have ea:=TR ha;have eb:=TR hb;unfold QM.Ck DI;have m1:a.toNat%QUAD.signBit=QM.A0 QUAD a.toNat:=rfl;have m2:b.toNat%QUAD.signBit=QM.A0 QUAD b.toNat:=rfl;rw [m1,m2];clear m1 m2;generalize Bt QUAD a.toNat=s at ea⊢;generalize Bt QUAD b.toNat=t at eb⊢;generalize QM.A0 QUAD a.toNat=x at ea⊢;generalize QM.A0 QUAD b.toNat=y at eb⊢;cases s
 ·rw [AD dd]at ea;cases t
  ·rw [AD dd]at eb;rw [AD dd,AD dd,AD dd,AD dd];exact⟨fun h=>h,fun h=>⟨fun _=>by lia,fun h2=>E9 h2⟩⟩
  ·rw [AG rfl]at eb;rw [AD dd,AG rfl,AD dd,AG rfl];exact⟨fun h=>by lia,fun h=>⟨fun h2=>E9 h2,fun h2=>E9 h2⟩⟩
 ·rw [AG rfl]at ea;cases t
  ·rw [AD dd]at eb;rw [AG rfl,AD dd,AG rfl,AD dd];exact⟨fun h=>by lia,fun h=>⟨fun h2=>E9 h2,fun _ _=>by lia⟩⟩
  ·rw [AG rfl]at eb;rw [AG rfl,AG rfl,AG rfl,AG rfl];exact⟨fun h=>by lia,fun h=>⟨fun _=>by lia,fun _ h3=>E9 h3⟩⟩
def xh:(He wh a b).2=(if(Dr (AU QUAD a)||(Dr (AU QUAD b)))=true then 16 else 0):=by
 unfold He RY RZ;simp only [Hr];split<;>rfl
def xi(hx:BH (AU QUAD a)=true)(hy:BH (AU QUAD b)=true):(He wh a b).1=QUAD.canonical:=by
 unfold He RY RZ;split<;>(dsimp only;rw [AG ⟨hx,hy⟩])
def xj(hx:BH (AU QUAD a)=true)(hy:BH (AU QUAD b)=false):(He wh a b).1=b:=by
 unfold He RY RZ;split<;>(dsimp only;rw [AD (fun z=>by rw [hy]at z;exact E9 z.2),AG hx])
def xk(hx:BH (AU QUAD a)=false)(hy:BH (AU QUAD b)=true):(He wh a b).1=a:=by
 have nx: ¬BH (AU QUAD a)=true:=by rw [hx];decide
 unfold He RY RZ;split<;>(dsimp only;rw [AD (fun z=>nx z.1),AD nx,AG hy])
def xm(ha:A3 a)(hb:A3 b)(hx:BH (AU QUAD a.toNat)=false)(hy:BH (AU QUAD b.toNat)=false):
 ((He wh a.toNat b.toNat).1:Int)=if wh=0 then(if DI QUAD a.toNat<DI QUAD b.toNat then a else b)else(if DI QUAD b.toNat<DI QUAD a.toNat then a else b):=by
 have nx: ¬BH (AU QUAD a.toNat)=true:=by rw [hx];decide
 have ny: ¬BH (AU QUAD b.toNat)=true:=by rw [hy];decide
 have l1:=(QM.XO (f:=QUAD) dd hx hy).1;have l2:=(QM.XO (f:=QUAD) dd hy hx).1;have r1:=gk ha hb;have r2:=gk hb ha;have ea:((a.toNat:Nat):Int)=a:=FA ha.1;have eb:((b.toNat:Nat):Int)=b:=FA hb.1;have same:a=b->DI QUAD a.toNat=DI QUAD b.toNat:=fun z=>by rw [z]
 unfold He RY RZ;by_cases c:wh=0
 ·rw [AG c,AG c];dsimp only;rw [AD (fun z=>nx z.1),AD nx,AD ny,l1,l2];rcases RR (QM.Ck QUAD a.toNat) (QM.Ck QUAD b.toNat)with h|h|h
  ·rw [AG (Bi h),AG (r1.1 h)];exact ea
  ·rw [AD (by rw [Bh (by lia)];decide),AD (by rw [Bh (by lia)];decide)];cases na:Bt QUAD a.toNat<;>cases nb:Bt QUAD b.toNat
   ·have e:=(r1.2 h).1 (by rw [na,nb]);rw [AD dd,AD (by rw [same e];lia)];exact eb
   ·have :=(r2.2 h.symm).2 nb na;rw [AD dd,AD (by lia)];exact eb
   ·have :=(r1.2 h).2 na nb;rw [AG rfl,AG this];exact ea
   ·have e:=(r1.2 h).1 (by rw [na,nb]);rw [AG rfl,AD (by rw [same e];lia)];rw [ea];exact e
  ·have :=r2.1 h;rw [AD (by rw [Bh (by lia)];decide),AG (Bi h),AD (by lia)];exact eb
 ·rw [AD c,AD c];dsimp only;rw [AD (fun z=>nx z.1),AD nx,AD ny,l1,l2];rcases RR (QM.Ck QUAD a.toNat) (QM.Ck QUAD b.toNat)with h|h|h
  ·have :=r1.1 h;rw [AG (Bi h),AD (by lia)];exact eb
  ·rw [AD (by rw [Bh (by lia)];decide),AD (by rw [Bh (by lia)];decide)];cases na:Bt QUAD a.toNat<;>cases nb:Bt QUAD b.toNat
   ·have e:=(r1.2 h).1 (by rw [na,nb]);rw [AD dd,AD (by rw [same e];lia)];rw [ea];exact e
   ·have :=(r2.2 h.symm).2 nb na;rw [AD dd,AG this];exact ea
   ·have :=(r1.2 h).2 na nb;rw [AG rfl,AD (by lia)];exact eb
   ·have e:=(r1.2 h).1 (by rw [na,nb]);rw [AG rfl,AD (by rw [same e];lia)];exact eb
  ·have :=r2.1 h;rw [AD (by rw [Bh (by lia)];decide),AG (Bi h),AG this];exact ea
def xn:Df "picked" 7 ["a","b","which"] xg:=by
 have S:Bj ["a","b","which","x","y"] ["a","b","which"] (sc 91):=fS;refine(AW 52 rfl).ok S (by rintro _ _ _ _ ⟨_,_,_,rfl,_⟩;rfl) (fun b0 f0 By A outer st H0 vs Q E hr h=>?_);obtain⟨a,b,wh,rfl,ba,bb,hw,q0⟩:=h;refine⟨_,(AJ (pS 3 S.nd (pD hr DS (pO 0))) (AJ (pS 4 S.nd (pD hr DS (pO 1))) (AJ (Ag (PW.pt (JC (Bz (pD hr K9 (pO 3))) (Kp (Bz (pD hr K9 (pO 4)))))) (pR (pG S6)) Ai) (AJ (Ag (Bz (pD hr K9 (pO 3))) (pR (pv 1)) Ai) (AJ (Ag (Bz (pD hr K9 (pO 4))) (pR (pv 0)) Ai) (AJ (Ag (AX Ae (pv 2) AE) (pR (Bq (AX Fo (pD hr LB (pO 0)) (pD hr LB (pO 1))) (pv 0) (pv 1))) Ai) (pR (Bq (AX Ef (pD hr LB (pO 0)) (pD hr LB (pO 1))) (pv 0) (pv 1))))))))),?_⟩;refine⟨_,rfl,a,rfl,ba,fun H1 px Dz s1=>⟨_,rfl,b,rfl,bb,fun H py hy s2=>?_⟩⟩;have hx:=Dz.same s2;have q:=q0 H (s1.trans s2);have ea:((a.toNat:Nat):Int)=a:=FA ba.1;have eb:((b.toNat:Nat):Int)=b:=FA bb.1;have nx: ∀σ:L2.St,σ[3]? =some (some (.ref px))->Ev (DE (Xd CP) [] E0 (Ba (Aa 3) B3)) σ H (.bl (BH (AU QUAD a.toNat))):=fun σ h Q k=>⟨_,h,px,_,rfl,hx,k⟩
 have ny: ∀σ:L2.St,σ[4]? =some (some (.ref py))->Ev (DE (Xd CP) [] E0 (Ba (Aa 4) B3)) σ H (.bl (BH (AU QUAD b.toNat))):=fun σ h Q k=>⟨_,h,py,_,rfl,hy,k⟩
 have pa: ∀σ:L2.St,σ[0]? =some (some (.int a))->Ev (DE P_ [] E0 (Ba (Aa 0) B3)) σ H (.int (DI QUAD a.toNat)):=fun σ h Q k=>⟨_,h,a,rfl,ba,k⟩
 have pb: ∀σ:L2.St,σ[1]? =some (some (.int b))->Ev (DE P_ [] E0 (Ba (Aa 1) B3)) σ H (.int (DI QUAD b.toNat)):=fun σ h Q k=>⟨_,h,b,rfl,bb,k⟩
 refine Bf (KL (Ej (nx _ rfl)) (Ej (ny _ rfl))) (fun h1=>?_) (fun h1=>?_)
 ·rw [BK]at h1;have ec:((QUAD.canonical:Nat):Int)=170138587312039964317873038467719495680:=by decide
  rw [xi h1.1 h1.2,ec]at q;exact q
 ·refine Bf (Ej (nx _ rfl)) (fun h2=>?_) (fun h2=>?_)
  ·rw [h2,GU]at h1;rw [xj h2 h1,eb]at q;exact⟨_,rfl,q⟩
  ·refine Bf (Ej (ny _ rfl)) (fun h3=>?_) (fun h3=>?_)
   ·rw [xk h2 h3,ea]at q;exact⟨_,rfl,q⟩
   ·rw [xm ba bb h2 h3]at q;refine Bf (Ac (An (AH rfl) AI)) (fun h4=>?_) (fun h4=>?_)
    ·have :wh=0:=Au h4;rw [AG (by lia)]at q;refine EU (v:=.int (if DI QUAD a.toNat<DI QUAD b.toNat then a else b)) (B5 (Ac (CO (pa _ rfl) (pb _ rfl))) (fun c=>?_) (fun c=>?_)) q
     ·rw [AG (Au c)];exact AH rfl
     ·rw [AD (BA c)];exact AH rfl
    ·have :wh≠0:=BA h4;rw [AD (by lia)]at q;refine EU (v:=.int (if DI QUAD b.toNat<DI QUAD a.toNat then a else b)) (B5 (Ac (CO (pa _ rfl) (pb _ rfl))) (fun c=>?_) (fun c=>?_)) q
     ·rw [AG (Au c)];exact AH rfl
     ·rw [AD (BA c)];exact AH rfl
def TY:Sp:=fun vs H Q _=> ∃a b wh,vs=[.int a,.int b,.int wh]/\A3 a/\A3 b/\(wh=0\/wh=1)/\ ∀H' l,A2 H' l (He wh.toNat a.toNat b.toNat)->AQ H H'->Q (.ref l) H'
def xo:
 Df "pick" 8 ["a","b","which"] TY:=by
 have S:Bj ["a","b","which"] ["a","b","which"] (sc 92):=fS;refine(AW 53 rfl).ok S (by rintro _ _ _ _ ⟨_,_,_,rfl,_⟩;rfl) (fun b0 f0 By A outer st H0 vs Q E hr h=>?_);obtain⟨a,b,wh,rfl,ba,bb,hw,q0⟩:=h;refine⟨_,(pR (Ay (AB (pD hr xn (pW 0 (pW 1 (pO 2)))) (AB (pD hr Xe (AB (Ay (AB (pD hr DS (pO 0)) (AB (pD hr DS (pO 1)) AL))) AL)) AL)))),?_⟩;refine⟨_,rfl,_,rfl,_,rfl,a,b,wh,rfl,ba,bb,hw,fun H1 s1=>⟨_,rfl,a,rfl,ba,fun H2 px hx s2=>⟨_,rfl,b,rfl,bb,fun H3 py hy s3=>⟨dz,fun l hl=>⟨l,[_,_],rfl,Mi AZ ((hx.same s3).same (AQ.new hl)) (hy.same (AQ.new hl)),(by show 2<=1000;decide),fun H4 s4=>⟨dz,fun l2 Bp=>q0 _ l2 ?_ (((((s1.trans s2).trans s3).trans (AQ.new hl)).trans s4).trans (AQ.new Bp))⟩⟩⟩⟩⟩⟩;have e:(([AU QUAD a.toNat,AU QUAD b.toNat]:List Num).any Dr)=(Dr (AU QUAD a.toNat)||Dr (AU QUAD b.toNat)):=by simp [Jf]
 unfold A2;rw [AZ,xh,e];split<;>rfl
def TZ:Sp:=fun vs H Q _=> ∃a b h,vs=[.int a,.int b,.int h]/\A3 a/\A3 b/\(0<=h/\h<=2)/\ ∀H' l,A2 H' l (Qu.withSign QUAD h.toNat a.toNat b.toNat,0)->AQ H H'->Q (.ref l) H'
def gm{x:Nat}{n:Bool}(hx:x<170141183460469231731687303715884105728):Lj (x:Int) (if n=true then SB else 0)=((Cv QUAD n x:Nat):Int):=by
 rw [bitOr_and];have qb:A3 (x:Int):=⟨by lia,by lia⟩;have nn:Bt QUAD x=false:=by
  have :=QM.vI (f:=QUAD) (b:=x) (by rw [J4];lia);rw [J4]at this;cases c:Bt QUAD x
  ·rfl
  ·have :=this.mp c;lia
 unfold Cv;rw [J4];cases n
 ·rw [AD dd,AD dd,bitAnd_zero];lia
 ·rw [AG rfl,AG rfl,P7 qb,Am,nn,AD dd];show(x:Int)+170141183460469231731687303715884105728-0=_;lia
def xq(h:A3 b):D0 (RH b) SB=if(!Bt QUAD b.toNat)=true then SB else 0:=by
 rw [bitAnd_comm,bitAnd_not,bitAnd_comm SB b,P7 h];cases Bt QUAD b.toNat
 ·rw [AD dd,AG dd];decide
 ·rw [AG rfl,AD dd];decide
def xr(ha:A3 a)(hb:A3 b):Mz a (if Bt QUAD b.toNat=true then SB else 0)=((Qu.fsgnjx QUAD a.toNat b.toNat:Nat):Int):=by
 unfold Qu.fsgnjx;have e:=QM.Pw ha.lt;have em:a.toNat%QUAD.signBit=QM.A0 QUAD a.toNat:=rfl;cases hn:Bt QUAD b.toNat
 ·rw [AD dd,bitXor_zero,em];have e2:(Bt QUAD a.toNat !=false)=Bt QUAD a.toNat:=by cases Bt QUAD a.toNat<;>rfl
  rw [e2,e,FA ha.1]
 ·rw [AG rfl,Xq ha];have e2:(Bt QUAD a.toNat !=true)= !Bt QUAD a.toNat:=by cases Bt QUAD a.toNat<;>rfl
  rw [e2];rfl
def xt:Df "with_sign" 2 ["a","b","how"] TZ:=by
 refine(AW 54 rfl).go ["a","b","how"] ?_;rintro _ _ _ _ _ _ _ H _ Q _ hr ⟨a,b,h,rfl,ba,bb,hh,q⟩;refine⟨_,(AJ (Ag (AX Ae (pv 2) AE) (pR (Ay (AB (AK JE (pD hr K8 (pO 0)) (AK EH (pv 1) (pG Nt))) (AB AE AL)))) Ai) (AJ (Ag (AX Ae (pv 2) AE) (pR (Ay (AB (AK JE (pD hr K8 (pO 0)) (AK EH (Eu rL (pv 1)) (pG Nt))) (AB AE AL)))) Ai) (pR (Ay (AB (AK NQ (pv 0) (AK EH (pv 1) (pG Nt))) (AB AE AL)))))),?_⟩;have fin: ∀(v:Int),v=((Qu.withSign QUAD h.toNat a.toNat b.toNat:Nat):Int)-> ∀l,H l=none->Q (.ref l) (upd H l (.lst [.int v,.int 0])):=fun v hv l hl=>q _ l (by unfold A2;rw [AZ,hv];rfl) (AQ.new hl)
 refine Bf (Ac (An (AH rfl) AI)) (fun h1=>?_) (fun h1=>?_)
 ·have e1:h=0:=Au h1;refine⟨_,rfl,a,rfl,ba,_,rfl,_,_,rfl,rfl,_,_,rfl,rfl,dz,fun l hl=>fin _ ?_ l hl⟩;rw [e1];show Lj ((QM.A0 QUAD a.toNat:Nat):Int) (D0 b SB)=((Qu.fsgnj QUAD a.toNat b.toNat:Nat):Int);rw [P7 bb,gm (P8 _)];rfl
 ·refine Bf (Ac (An (AH rfl) AI)) (fun h2=>?_) (fun h2=>?_)
  ·have e1:h=1:=Au h2;refine⟨_,rfl,a,rfl,ba,_,rfl,_,rfl,_,_,rfl,rfl,_,_,rfl,rfl,dz,fun l hl=>fin _ ?_ l hl⟩;rw [e1];show Lj ((QM.A0 QUAD a.toNat:Nat):Int) (D0 (RH b) SB)=((Qu.fsgnjn QUAD a.toNat b.toNat:Nat):Int);rw [xq bb,gm (P8 _)];rfl
  ·have e1:h=2:=by
    have c1:=BA h1;have c2:=BA h2;lia
   refine⟨_,rfl,_,rfl,_,_,rfl,rfl,_,_,rfl,rfl,dz,fun l hl=>fin _ ?_ l hl⟩;rw [e1];show Mz a (D0 b SB)=((Qu.fsgnjx QUAD a.toNat b.toNat:Nat):Int);rw [P7 bb,xr ba bb]
def Ta:Sp:=fun vs H Q _=> ∃a b,vs=[.int a,.int b]/\A3 a/\A3 b/\ ∀H' l,H' l=some (.lst [.int (Qu.orderOf QUAD a.toNat b.toNat)])->AQ H H'->Q (.ref l) H'
def xu:Df "order" 3 ["a","b"] Ta:=by
 refine(AW 55 rfl).go ["a","b"] ?_;rintro _ _ _ _ _ _ _ H _ Q _ hr ⟨a,b,rfl,ba,bb,q⟩;refine⟨_,(AJ (Ag (AX Ae (pD hr LB (pO 0)) (pD hr LB (pO 1))) (pR (Ay (AB AE AL))) Ai) (pR (Ay (AB (Bq (AX Fo (pD hr LB (pO 0)) (pD hr LB (pO 1))) (Eu FG AE) AE) AL)))),?_⟩;have pa: ∀σ:L2.St,σ[0]? =some (some (.int a))->Ev (DE P_ [] E0 (Ba (Aa 0) B3)) σ H (.int (DI QUAD a.toNat)):=fun σ h Q k=>⟨_,h,a,rfl,ba,k⟩
 have pb: ∀σ:L2.St,σ[1]? =some (some (.int b))->Ev (DE P_ [] E0 (Ba (Aa 1) B3)) σ H (.int (DI QUAD b.toNat)):=fun σ h Q k=>⟨_,h,b,rfl,bb,k⟩
 unfold Qu.orderOf at q;refine Bf (Ac (An (pa _ rfl) (pb _ rfl))) (fun h1=>?_) (fun h1=>?_)
 ·have c:DI QUAD a.toNat=DI QUAD b.toNat:=Au h1;rw [AD (by lia),AD (by lia)]at q;exact⟨dz,fun l hl=>q _ l AZ (AQ.new hl)⟩
 ·have c:DI QUAD a.toNat≠DI QUAD b.toNat:=BA h1;refine(B5 (v:=.int (if DI QUAD a.toNat<DI QUAD b.toNat then -1 else if DI QUAD b.toNat<DI QUAD a.toNat then 1 else 0)) (Ac (CO (pa _ rfl) (pb _ rfl))) (fun d=>?_) (fun d=>?_):Ev _ _ _ _) _ ?_
  ·rw [AG (Au d)];exact Ev.un AI
  ·have d':=BA d;rw [AD d',AG (by lia)];exact AI
  exact⟨dz,fun l hl=>q _ l AZ (AQ.new hl)⟩
end
section
variable{C:Addr}
def xw(C:Addr):Sp:=fun vs H Q _=> ∃(l:Addr)(xs:List Num)(k:Int),vs=[.ref l,.int k]/\JJ C H l xs/\xs.length<=1000/\ ∀H' p,A2 H' p (0,if k=1\/k=2 then 16 else if xs.any Dr=true then 16 else 0)->AQ H H'->Q (.ref p) H'
def xx:Df "compare_nan" 3 ["numbers","kind"] (xw CP):=by
 refine(AW 56 rfl).go ["numbers","kind"] ?_;rintro _ _ _ _ _ _ _ H _ Q _ hr ⟨l,xs,k,rfl,hL,hz,q⟩;refine⟨_,(pR (Ay (AB AE (AB (Bq (PW.pt (Fb (AX Ae (pv 1) AE) (Fn (AX Ae (pv 1) AE)))) (pG P2) (pD hr Xe (pO 0))) AL)))),?_⟩;refine(GD (Ac (An (AH rfl) AI)) (Ac (An (AH rfl) AI)):DK _ _ _ _) _ ?_;refine D6 (fun h1=>?_) (fun h1=>?_)
 ·rw [Hr]at h1;have c:k=1\/k=2:=h1.imp Au Au;refine⟨dz,fun p hp=>q _ p ?_ (AQ.new hp)⟩;rw [AG c];exact AZ
 ·rw [Gv]at h1;have c: ¬(k=1\/k=2):=fun z=>z.elim (BA h1.1) (BA h1.2)
  refine⟨_,rfl,l,xs,rfl,hL,hz,fun H1 s1=>⟨dz,fun p hp=>q _ p ?_ (s1.trans (AQ.new hp))⟩⟩;rw [AD c];unfold A2;rw [AZ];split<;>rfl
def Tb:Sp:=fun vs H Q _=> ∃a b k,vs=[.int a,.int b,.int k]/\A3 a/\A3 b/\(0<=k/\k<=4)/\ ∀H' l,A2 H' l (Vz QUAD k.toNat a.toNat b.toNat)->AQ H H'->Q (.ref l) H'
def xy(hk:k<=4)(h:(BH (AU QUAD a)||BH (AU QUAD b))=true):Vz QUAD k a b=(0,if k=1\/k=2 then 16 else if([AU QUAD a,AU QUAD b]:List Num).any Dr=true then 16 else 0):=by
 have e:(([AU QUAD a,AU QUAD b]:List Num).any Dr)=(Dr (AU QUAD a)||Dr (AU QUAD b)):=by simp [Jf]
 unfold Vz;rw [e];dsimp only;generalize AU QUAD a=x at h⊢;generalize AU QUAD b=y at h⊢;have l:Qu.less x y=false:=by cases x<;>cases y<;>first|rfl|cases h
 have q:Qu.equal x y=false:=by cases x<;>cases y<;>first|rfl|cases h
 have n:(BH x=true\/BH y=true):=by rw [Hr]at h;exact h
 unfold Qu.feq Qu.flt Qu.fle Qu.answer;simp only [l,q,Im,Hr,AG n,Jh,GQ];have Zi:k<5:=by lia
 match k,Zi with
 |0,_=>rfl
 |1,_=>rfl
 |2,_=>rfl
 |3,_=>rfl
 |4,_=>rfl
noncomputable def J7(k:Nat)(x y:Int):Bool:=if k=0 then decide (x=y)else if k=1\/k=3 then decide (x<y)else decide (x<=y)
def gn(h:BH x=false):Dr x=false:=by cases x<;>first|rfl|cases h
def x5(hk:k<=4)(hx:BH (AU QUAD a)=false)(hy:BH (AU QUAD b)=false):Vz QUAD k a b=(if J7 k (QM.Ck QUAD a) (QM.Ck QUAD b)=true then 1 else 0,0):=by
 obtain⟨l,q⟩:=QM.XO (f:=QUAD) dd hx hy;have sx:=gn hx;have sy:=gn hy;unfold Vz;dsimp only;generalize AU QUAD a=x at *
 generalize AU QUAD b=y at *
 generalize QM.Ck QUAD a=u at *
 generalize QM.Ck QUAD b=v at *
 have le:(decide (u<v)||decide (u=v))=decide (u<=v):=by
  by_cases c:u<v
  ·rw [Bi c,Bi (by lia:u<=v)];rfl
  ·rw [Bh c,Im];exact Cd.mpr (by lia)
 unfold Qu.feq Qu.flt Qu.fle Qu.answer J7;have Zi:k<5:=by lia
 rw [l,q,sx,sy,hx,hy,le]
 match k,Zi with
 |0,_=>rfl
 |1,_=>rfl
 |2,_=>rfl
 |3,_=>rfl
 |4,_=>rfl
def x6:
 Df "compare" 7 ["a","b","kind"] Tb:=by
 have S:Bj ["a","b","kind","numbers","holds"] ["a","b","kind"] (sc 95):=fS;refine(AW 57 rfl).ok S (by rintro _ _ _ _ ⟨_,_,_,rfl,_⟩;rfl) (fun b0 f0 By A outer st H0 vs Q E hr h=>?_);obtain⟨a,b,k,rfl,ba,bb,hk,q0⟩:=h;refine⟨_,(AJ (pS 3 S.nd (Ay (AB (pD hr DS (pO 0)) (AB (pD hr DS (pO 1)) AL)))) (AJ (Ag (Bz (pD hr J2 (pO 3))) (pR (pD hr xx (pW 3 (pO 2)))) Ai) (AJ (Ag (AX Ae (pv 2) AE) (Cj (pS 4 S.nd (C0 Ae (pD hr Nv (pO 0)) (pD hr Nv (pO 1))))) (Cj (Ag (PW.pt (Fb (AX Ae (pv 2) AE) (Fn (AX Ae (pv 2) AE)))) (Cj (pS 4 S.nd (C0 Fo (pD hr Nv (pO 0)) (pD hr Nv (pO 1))))) (Cj (pS 4 S.nd (C0 PK (pD hr Nv (pO 0)) (pD hr Nv (pO 1)))))))) (pR (Ay (AB (Bq (Bz (pv 4)) AE AE) (AB AE AL))))))),?_⟩;refine⟨_,rfl,a,rfl,ba,fun H1 px hx s1=>⟨_,rfl,b,rfl,bb,fun H2 py hy s2=>⟨dz,fun l hl=>?_⟩⟩⟩;have s3:AQ H0 (upd H2 l (.lst [.ref px,.ref py])):=(s1.trans s2).trans (AQ.new hl);have L:JJ CP (upd H2 l (.lst [.ref px,.ref py])) l [AU QUAD a.toNat,AU QUAD b.toNat]:=Mi AZ ((hx.same s2).same (AQ.new hl)) (hy.same (AQ.new hl));refine⟨_,rfl,l,_,rfl,L,(by show 2<=1000;decide),fun H s4=>⟨_,rfl,D6 (fun h1=>?_) (fun h1=>?_)⟩⟩
 ·rw [LA]at h1;have L':JJ CP H l [AU QUAD a.toNat,AU QUAD b.toNat]:=by
   obtain⟨as,e1,e2,e3⟩:=L;exact⟨as,s4 _ _ e1,e2,fun i c x h1 h2=>(e3 i c x h1 h2).same s4⟩
  refine⟨_,rfl,_,rfl,l,_,k,rfl,L',(by show 2<=1000;decide),fun H5 p h5 s5=>q0 H5 p ?_ ((s3.trans s4).trans s5)⟩;rw [xy (by lia) h1];have e:(if k=1\/k=2 then 16 else if([AU QUAD a.toNat,AU QUAD b.toNat]:List Num).any Dr=true then 16 else 0)=(if k.toNat=1\/k.toNat=2 then 16 else if([AU QUAD a.toNat,AU QUAD b.toNat]:List Num).any Dr=true then 16 else 0):=by
   have :(k=1\/k=2)↔(k.toNat=1\/k.toNat=2):=by lia
   simp only [this]
  rw [<-e];exact h5
 ·rw [LA,Gv]at h1;have q: ∀H' l,A2 H' l (if J7 k.toNat (QM.Ck QUAD a.toNat) (QM.Ck QUAD b.toNat)=true then 1 else 0,0)->AQ H H'->Q (.ref l) H':=fun H' l h s=>q0 H' l (by rw [x5 (by lia) h1.1 h1.2];exact h) ((s3.trans s4).trans s)
  have pa: ∀σ:L2.St,σ[0]? =some (some (.int a))->Ev (DE Xr [] E0 (Ba (Aa 0) B3)) σ H (.int (QM.Ck QUAD a.toNat)):=fun σ h Q k=>⟨_,h,a,rfl,ba,k⟩
  have pb: ∀σ:L2.St,σ[1]? =some (some (.int b))->Ev (DE Xr [] E0 (Ba (Aa 1) B3)) σ H (.int (QM.Ck QUAD b.toNat)):=fun σ h Q k=>⟨_,h,b,rfl,bb,k⟩
  generalize QM.Ck QUAD a.toNat=u at q pa;generalize QM.Ck QUAD b.toNat=v at q pb;have fin: ∀(σ:L2.St),σ[4]? =some (some (.bl (J7 k.toNat u v)))->(NT (Ba (Kq (tB (Aa 4)) (tC (.int 1)) (tC (.int 0))) (Ba (tC (.int 0)) B3))) σ H Q:=fun σ h=>by
   refine(B5 (v:=.int (if J7 k.toNat u v=true then 1 else 0)) (Ej (AH h)) (fun c=>by rw [c];exact AI) (fun c=>by rw [c];exact AI):Ev _ _ _ _) _ ?_;refine⟨dz,fun p hp=>q _ p ?_ (AQ.new hp)⟩;unfold A2;rw [AZ];split<;>rfl
  have go: ∀(t:TE)(σ:L2.St)(b:Bool),4<σ.length->Ev t σ H (.bl b)->b=J7 k.toNat u v->NO t (HN 4) {nx:=Jt (NT (Ba (Kq (tB (Aa 4)) (tC (.int 1)) (tC (.int 0))) (Ba (tC (.int 0)) B3))) {nx:=fun _ H'=>Q .BZ H',rt:=Q},rt:=Q} σ H:=fun t σ b hl ev e=>by
   subst e;refine ev _ (fin _ ?_);rw [My hl]
  refine G6 (Ac (An (AH rfl) AI)) (fun h2=>?_) (fun h2=>?_)
  ·have c:k=0:=Au h2;refine go _ _ (decide (u=v)) (by show 4<5;decide) (An (pa _ rfl) (pb _ rfl)) ?_;unfold J7;rw [AG (by lia)]
  ·have c:k≠0:=BA h2;refine IL (GD (Ac (An (AH rfl) AI)) (Ac (An (AH rfl) AI))) (fun h3=>?_) (fun h3=>?_)
   ·rw [Hr]at h3;have d:k=1\/k=3:=h3.imp Au Au;refine go _ _ (decide (u<v)) (by show 4<5;decide) (CO (pa _ rfl) (pb _ rfl)) ?_;unfold J7;rw [AD (by lia),AG (by lia)]
   ·rw [Gv]at h3;have d1:=BA h3.1;have d2:=BA h3.2;refine go _ _ (decide (u<=v)) (by show 4<5;decide) (CO (pa _ rfl) (pb _ rfl)) ?_;unfold J7;rw [AD (by lia),AD (by lia)]
noncomputable def Gh(b:Nat):Nat:=match AU QUAD b with
 |.inf _=>7
 |.nan _=>0
 |.fin _ m _=>if m=0 then 4 else if F2 QUAD b=0 then 5 else 6
def x8(C:Addr):Sp:=fun vs H Q _=> ∃a p,vs=[.int a,.ref p]/\A3 a/\BY C H p (AU QUAD a.toNat)/\BH (AU QUAD a.toNat)=false/\Q (.int (Gh a.toNat:Nat)) H
def x9:Df "positive_class" 2 ["a","number"] (x8 CP):=by
 refine(AW 58 rfl).go ["a","number"] ?_;rintro _ _ _ _ _ _ _ H _ Q _ hr ⟨a,p,rfl,ba,⟨dx,k,s,z,e,ha,hx⟩,hn,q⟩;refine⟨_,(AJ (Ag (AX Ae (AR (pv 1) rfl) (pG Hb)) (pR AE) Ai) (AJ (Ag (AX Ae (AR (pv 1) rfl) (pG D7)) (pR AE) Ai) (pR (Bq (AX Ae (AK GZ (pD hr K8 (pO 0)) AE) AE) AE AE)))),?_⟩;have kx: ∀σ:L2.St,σ[1]? =some (some (.ref p))->Ev (BJ K (Aa 1) "kind") σ H (.int k):=fun σ h=>Ax (AH h) ha AN.cl AN.kind C3
 refine Bf ((Ac (An (kx _ rfl) AI)).to (J3 hx)) (fun h1=>?_) (fun h1=>?_)
 ·have e1:Gh a.toNat=4:=by
   unfold Gh;cases hq:AU QUAD a.toNat with
   |nan b=>rw [hq]at h1;cases h1
   |inf n=>rw [hq]at h1;cases h1
   |fin n i j=>
    rw [hq]at h1;have i0:i=0:=Au h1;dsimp only;rw [AG i0]
  rw [e1]at q;exact q
 ·refine Bf ((Ac (An (kx _ rfl) AI)).to (FP hx)) (fun h2=>?_) (fun h2=>?_)
  ·have e1:Gh a.toNat=7:=by
    unfold Gh;cases hq:AU QUAD a.toNat with
    |nan b=>rw [hq]at h2;cases h2
    |inf n=>rfl
    |fin n i j=>rw [hq]at h2;cases h2
   rw [e1]at q;exact q
  ·have e1:Gh a.toNat=if F2 QUAD a.toNat=0 then 5 else 6:=by
    unfold Gh;cases hq:AU QUAD a.toNat with
    |nan b=>rw [hq]at hn;cases hn
    |inf n=>rw [hq]at h2;cases h2
    |fin n i j=>
     rw [hq]at h1;have i0:i≠0:=BA h1;dsimp only;rw [AD i0]
   have ex:((QM.A0 QUAD a.toNat:Nat):Int)/2^(112:Int).toNat=((F2 QUAD a.toNat:Nat):Int):=by
    show((QM.A0 QUAD a.toNat:Nat):Int)/2^112=_;rw [IF,QM.G5];have hf:Lp QUAD a.toNat<2^112:=QM.F7 QUAD _;have e2:2^QUAD.fbits=2^112:=rfl;rw [e2,Ar,Vp (BR _),FW hf,Iq]
   rw [e1]at q;have eh:(0:Int)<=112:=by decide
   refine⟨_,rfl,a,rfl,ba,_,_,rfl,rfl,eh,rfl,_,rfl,FN (fun h3=>?_) (fun h3=>?_)⟩
   ·rw [ex]at h3;rw [AG (by lia)]at q;exact q
   ·rw [ex]at h3;rw [AD (by lia)]at q;exact q
def Tc:Sp:=fun vs H Q _=> ∃a,vs=[.int a]/\A3 a/\ ∀H' l,H' l=some (.lst [.int (Ra QUAD a.toNat:Nat)])->AQ H H'->Q (.ref l) H'
def x_(h:(∃m e,AU QUAD b=.fin n m e)\/AU QUAD b=.inf n):(Ra QUAD b:Int)=1*2^((if n=true then 7-((Gh b:Nat):Int)else((Gh b:Nat):Int))).toNat:=by
 unfold Ra Gh;rcases h with⟨m,e,h⟩|h
 ·rw [h];dsimp only;cases n<;>by_cases c:m=0<;>by_cases d:F2 QUAD b=0<;>simp only [c,d,E8,GQ,Jh]<;>rfl
 ·rw [h];dsimp only;cases n<;>rfl
def yA(b:Nat):Gh b<=7:=by
 unfold Gh;split
 ·lia
 ·lia
 ·split
  ·lia
  ·split<;>lia
def yB:
 Df "class_of" 7 ["a"] Tc:=by
 have S:Bj ["a","number","bit"] ["a"] (sc 98):=fS;refine(AW 59 rfl).ok S (by rintro _ _ _ _ ⟨_,rfl,_⟩;rfl) (fun b0 f0 By A outer st H0 vs Q E hr h=>?_);obtain⟨a,rfl,ba,q0⟩:=h;refine⟨_,(AJ (pS 1 S.nd (pD hr DS (pO 0))) (AJ (Ag (Bz (pD hr K9 (pO 1))) (pR (Ay (AB (AK DF AE (Bq (AX Ae (AR (pv 1) rfl) (pG J1)) AE AE)) AL))) Ai) (AJ (pS 2 S.nd (pD hr x9 (pW 0 (pO 1)))) (pR (Ay (AB (AK DF AE (Bq (AX Ae (AR (pv 1) rfl) AE) (AK BP AE (pv 2)) (pv 2))) AL)))))),?_⟩;refine⟨_,rfl,a,rfl,ba,fun H px Dz s1=>?_⟩;have q: ∀H' l,H' l=some (.lst [.int (Ra QUAD a.toNat:Nat)])->AQ H H'->Q (.ref l) H':=fun H' l h s=>q0 H' l h (s1.trans s)
 obtain⟨dx,k,s,z,e,ha,hx⟩:=id Dz;have kx: ∀σ:L2.St,σ[1]? =some (some (.ref px))->Ev (BJ K (Aa 1) "kind") σ H (.int k):=fun σ h=>Ax (AH h) ha AN.cl AN.kind C3
 have sx: ∀σ:L2.St,σ[1]? =some (some (.ref px))->Ev (BJ K (Aa 1) "sign") σ H (.int s):=fun σ h=>Ax (AH h) ha AN.cl AN.sign DR
 refine⟨_,rfl,px,_,rfl,Dz,_,rfl,D6 (fun h1=>?_) (fun h1=>?_)⟩
 ·have hs:=Nu hx;refine(B5 (v:=.int (if Dr (AU QUAD a.toNat)=true then 8 else 9)) (Ac (An (kx _ rfl) AI)) (fun c=>by rw [hs]at c;rw [c];exact AI) (fun c=>by rw [hs]at c;rw [c];exact AI):Ev _ _ _ _) _ ?_;refine⟨_,_,rfl,rfl,⟨by split<;>decide,by split<;>decide,by decide⟩,dz,fun l hl=>q _ l ?_ (AQ.new hl)⟩;rw [AZ];cases hq:AU QUAD a.toNat with
  |nan b=>
   have :Ra QUAD a.toNat=if b=true then 256 else 512:=by unfold Ra;rw [hq]
   rw [this];cases b<;>rfl
  |inf n=>rw [hq]at h1;cases h1
  |fin n i j=>rw [hq]at h1;cases h1
 ·refine⟨_,rfl,_,rfl,a,px,rfl,ba,Dz,h1,?_⟩;have pl:=yA a.toNat;obtain⟨n,hs,hc⟩: ∃n,s=sg n/\((∃m e,AU QUAD a.toNat=.fin n m e)\/AU QUAD a.toNat=.inf n):=by
   cases hq:AU QUAD a.toNat with
   |nan b=>rw [hq]at h1;cases h1
   |inf n=>rw [hq]at hx;exact⟨n,hx.2,.inr rfl⟩
   |fin n i j=>rw [hq]at hx;exact⟨n,hx.2.1,.inl ⟨_,_,rfl⟩⟩
  have ce:=x_ hc;refine(B5 (v:=.int (if n=true then 7-((Gh a.toNat:Nat):Int)else((Gh a.toNat:Nat):Int))) (Ac (An (sx _ rfl) AI)) (fun c=>?_) (fun c=>?_):Ev _ _ _ _) _ ?_
  ·rw [hs,CL]at c;rw [AG c];exact A1 AI (AH rfl)
  ·rw [hs,CL]at c;rw [AD (by rw [c];decide)];exact AH rfl
  refine⟨_,_,rfl,rfl,⟨by split<;>lia,by split<;>lia,by decide⟩,dz,fun l hl=>q _ l ?_ (AQ.new hl)⟩;rw [AZ,ce]
end
def Nw(t:TA)(σ:L2.St)(H:Hp)(vs:List V):Prop:= ∀Q:List V->Hp->Prop,Q vs H->t σ H Q
section
variable{ta:TE}{t:TA}{σ:L2.St}{H:Hp}
def Nw.nil:Nw B3 σ H []:=fun Q q=>q
def Nw.cons{v:V}{vs:List V}(ha:Ev ta σ H v)(ht:Nw t σ H vs):Nw (Ba ta t) σ H (v::vs):=fun Q q=>ha _ (ht _ q)
def Ev.df(ha:Nw t σ H vs)(h: ∀Q:VK,Q r H->sp vs H Q E0):Ev (DE sp [] E0 t) σ H r:=fun Q q=>ha _ (by
 show sp (vs++[]) H Q E0;rw [VS];exact h Q q)
def EX(ha:Nw t σ H vs)(h: ∀Q:VK,Q r H->rr vs H Q):Ev (G3 rr t) σ H r:=fun Q q=>ha _ (h Q q)
end
def OG{t:TE}{σ:L2.St}{H:Hp}{n:Nat}(h:Ev t σ H (.int n))(hn:n<=2000000):Ev (DE Sv [] E0 (Ba t B3)) σ H (.int ((2^n-1:Nat):Int)):=
 Ev.df (Nw.cons h Nw.nil) fun Q q=>⟨_,rfl,⟨CI _,by lia⟩,by rw [Am,S1];exact q⟩
def Ny(x n:Nat):D0 (x:Int) ((2^n-1:Nat):Int)=((x%2^n:Nat):Int):=by rw [<-S1];exact ME x n
noncomputable def Ff(f:Nat):Nat:=if f=3 then 80 else(ND f).width
def Xs(h1:f.ebits<=15)(h2:f.fbits<=112)(b:Nat):Hc (AU f b):=by
 by_cases h:F2 f b=2^f.ebits-1
 ·rw [QM.MK h];split<;>exact Dd
 ·rw [QM.Ft h];have hf:=QM.F7 f b;have he:=QM.Sm f b;have hp:2^f.ebits<=2^15:=QM.CG h1;have XE:2^15=32768:=by decide
  have bb:=gD h1;have hu:f.unit=1-f.bias-(f.fbits:Int):=rfl;intro hm;have hm0:0< (if F2 f b=0 then Lp f b else 2^f.fbits+Lp f b):=by
   have :(if F2 f b=0 then Lp f b else 2^f.fbits+Lp f b)≠0:=hm;lia
  refine⟨by lia,?_,by lia,by lia⟩;refine A9 (Cg (k:=f.fbits+1) ?_) (by lia);rw [CQ];split<;>lia
section
variable{C:Addr}
def yC:Sp:=fun vs H Q _=> ∃f b,vs=[.int f,.int b]/\(0<=f/\f<=3)/\A3 b/\Q (.bl (decide (b.toNat<2^Ff f.toNat))) H
def yD:mg "WIDTHS"=some (.ref aw):=rat 9 rfl
def hW: ∀H,B9 L2.K H aw [.int 16,.int 32,.int 64,.int 80]:=K3 (xs:=[16,32,64,80]) (by kernel_rfl)
def yE:Df "has_room" 1 ["form","bits"] yC:=by
 refine(AW 60 rfl).go ["form","bits"] ?_;rintro _ _ _ _ _ _ _ H _ Q _ _ ⟨f,b,rfl,hf,bb,q⟩;refine⟨_,(pR (C0 Ae (AK GZ (pv 1) (AY Dx (F6 rfl yD) (pv 0))) AE)),?_⟩;have ix:DX ([.int 16,.int 32,.int 64,.int 80]:List V) f=some (.int (Ff f.toNat:Nat)):=by
  have :f=0\/f=1\/f=2\/f=3:=by lia
  rcases this with e|e|e|e<;>subst e<;>rfl
 have hw0:(0:Int)<=(Ff f.toNat:Nat):=CI _;refine⟨_,rfl,_,rfl,aw,_,f,_,rfl,rfl,hW _,ix,_,_,rfl,rfl,hw0,rfl,?_⟩;obtain⟨n,rfl⟩: ∃n:Nat,b=(n:Int):=⟨b.toNat,by have :=bb.1;lia⟩;show Q (.bl (decide (V.int ((n:Int)/2^((Ff f.toNat:Nat):Int).toNat)=V.int 0))) H;rw [K6,Am,IF];rw [Am]at q;have p:=BR (Ff f.toNat);have e:decide (((n/2^Ff f.toNat:Nat):Int)=0)=decide (n<2^Ff f.toNat):=Cd.mpr (by
  constructor
  ·intro h;have h':n/2^Ff f.toNat=0:=by lia
   exact(Nat.div_eq_zero_iff_lt p).mp h'
  ·intro h;rw [FW h];rfl)
 rw [e];exact q
def yF(C:Addr):Sp:=fun vs H Q _=> ∃b,vs=[.int b]/\(0<=b/\b.toNat<2^80)/\ ∀H' p,BY C H' p (V0 b.toNat)->AQ H H'->Q (.ref p) H'
def yG:Df "take_apart_extended" 4 ["bits"] (yF CP):=by
 refine(AW 61 rfl).go ["bits","significand","field","sign"] ?_;rintro S _ _ _ _ _ _ H _ Q _ hr ⟨b,rfl,hb,q⟩;obtain⟨n,rfl⟩: ∃n:Nat,b=(n:Int):=⟨b.toNat,by lia⟩;rw [Am]at hb q;have hn:=hb.2;refine⟨_,(AJ (pS 1 S (AK EH (pv 0) (pD hr Fv (AB AE AL)))) (AJ (pS 2 S (AK EH (AK GZ (pv 0) AE) (pD hr Fv (AB AE AL)))) (AJ (pS 3 S (AK GZ (pv 0) AE)) (AJ (Ag (AX Ae (pv 2) AE) (pR (pD hr Fe (pW 3 (pW 1 (AB (Eu FG AE) AL))))) Ai) (AJ (Ag (AX Ae (AK GZ (pv 1) AE) AE) (pR (pC hr IM (AB (pG J1) (pW 3 (AB AE (AB AE AL)))))) Ai) (AJ (Ag (AX Ae (pv 2) AE) (pR (pD hr fy (pW 3 (AB (AK EH (pv 1) (pD hr Fv (AB AE AL))) (AB AE AL))))) Ai) (pR (pD hr Fe (pW 3 (pW 1 (AB (AK BP (pv 2) AE) AL))))))))))),?_⟩;have k64:(0:Int)<=64:=by decide
 have k79:(0:Int)<=79:=by decide
 refine⟨_,rfl,_,rfl,⟨by decide,by decide⟩,_,_,rfl,rfl,?_⟩;refine⟨_,rfl,_,_,rfl,rfl,k64,_,rfl,⟨by decide,by decide⟩,_,_,rfl,rfl,?_⟩;refine⟨_,rfl,_,_,rfl,rfl,k79,?_⟩;have t1:(64:Int).toNat=64:=rfl;have t2:(15:Int).toNat=15:=rfl;have t3:(79:Int).toNat=79:=rfl;simp only [t1,t2,t3,IF,ME];have x3:((n/2^79:Nat):Int)=sg (n/2^79%2==1):=by
  have hs:n/2^79<2:=(E_ (BR _)).mpr (by have e:2^80=2*2^79:=dd;lia);generalize n/2^79=y at *
  have :y=0\/y=1:=by lia
  rcases this with z|z<;>subst z<;>rfl
 rw [x3];have hg:n%2^64<2^64:=Dg _ (BR _);have he:n/2^64%2^15<2^15:=Dg _ (BR _);have eu:Hu.unit= -16445:=by decide
 have q': ∀H' p,BY CP H' p (if n/2^64%2^15=0 then Num.fin (n/2^79%2==1) (n%2^64) (-16445)else if n%2^64<2^63 then .nan true else if n/2^64%2^15=2^15-1 then(if n%2^64=2^63 then .inf (n/2^79%2==1)else .nan (decide (n%2^64<2^63+2^62)))
  else .fin (n/2^79%2==1) (n%2^64) (-16445+((n/2^64%2^15:Nat):Int)-1))->AQ H H'->Q (.ref p) H':=fun H' p h s=>q H' p (by
  have e0:V0 n=(if n/2^64%2^15=0 then Num.fin (n/2^79%2==1) (n%2^64) Hu.unit else if n%2^64<2^63 then .nan true else if n/2^64%2^15=2^15-1 then(if n%2^64=2^63 then .inf (n/2^79%2==1)else .nan (decide (n%2^64<2^63+2^62)))
   else .fin (n/2^79%2==1) (n%2^64) (Hu.unit+((n/2^64%2^15:Nat):Int)-1)):=rfl
  rw [e0,eu];exact h) s
 clear q x3;generalize (n/2^79%2==1)=s at q'⊢;generalize n%2^64=g at hg q'⊢;generalize n/2^64%2^15=ee at he q'⊢;have OY:2^63=9223372036854775808:=by decide
 have Zj:2^64=18446744073709551616:=by decide
 have OZ:2^15=32768:=by decide
 have Zk:2^62=4611686018427387904:=by decide
 rw [Zj]at hg;rw [OZ]at he;rw [OY,OZ,Zk]at q';have Lb:(g:Int)/2^(63:Int).toNat=((g/2^63:Nat):Int):=by
  show(g:Int)/2^63=_;exact IF g 63
 have Zl:(0:Int)<=63:=by decide
 refine Bf (Ac (An (AH rfl) AI)) (fun h1=>?_) (fun h1=>?_)
 ·have c:ee=0:=by have :=Au h1;lia
  rw [AG c]at q';refine⟨_,rfl,_,rfl,_,rfl,_,_,_,rfl,C7 s,CI _,fun H' p h s1=>q' H' p ?_ s1⟩;rw [CL,Am]at h;exact h
 ·have c:ee≠0:=by have :=BA h1;lia
  rw [AD c]at q';refine⟨_,rfl,_,_,rfl,rfl,Zl,rfl,_,rfl,FN (fun h2=>?_) (fun h2=>?_)⟩
  ·rw [Lb]at h2;have c2:g<9223372036854775808:=by rw [OY]at h2;lia
   rw [AG c2]at q';refine⟨_,rfl,fun p dp np nd ne=>P6 np nd ne fun H' e1 s1=>q' H' p ⟨dp,_,_,_,_,e1,rfl,C7 s⟩ s1⟩
  ·rw [Lb]at h2;have c2: ¬g<9223372036854775808:=by rw [OY]at h2;lia
   rw [AD c2]at q';refine Bf (Ac (An (AH rfl) AI)) (fun h3=>?_) (fun h3=>?_)
   ·have c3:ee=32768-1:=by have :=Au h3;lia
    rw [AG c3]at q';refine⟨_,rfl,_,rfl,_,rfl,⟨by decide,by decide⟩,_,_,rfl,rfl,?_⟩;have em:D0 (g:Int) (1*2^(63:Int).toNat-1)=((g%2^63:Nat):Int):=ME g 63;dsimp only;rw [em];refine⟨_,_,_,rfl,C7 s,⟨CI _,by rw [Am];exact Dg _ (BR _)⟩,by decide,fun H' p h s1=>q' H' p ?_ s1⟩;have z1:g%2^63=g-9223372036854775808:=by rw [OY];lia
    have z2:(2:Nat)^((63:Int).toNat-1)=4611686018427387904:=by decide
    rw [CL,Am,z1,z2]at h;by_cases c4:g=9223372036854775808
    ·rw [AG (by lia)]at h;rw [AG c4];exact h
    ·rw [AD (by lia)]at h;rw [AD c4];have e5:decide (g<9223372036854775808+4611686018427387904)=decide (g-9223372036854775808<4611686018427387904):=Cd.mpr (by lia);rw [e5];exact h
   ·have c3:ee≠32768-1:=by have :=BA h3;lia
    rw [AD c3]at q';refine⟨_,rfl,_,rfl,_,rfl,_,_,rfl,rfl,_,_,_,rfl,C7 s,CI _,fun H' p h s1=>q' H' p ?_ s1⟩;rw [CL,Am]at h;have e5:(-16445+(ee:Int)-1)=(ee:Int)-16446:=by lia
    rw [e5];exact h
noncomputable def J8(f b:Nat):Num:=if f=3 then V0 b else AU (ND f) b
def yH(C:Addr):Sp:=fun vs H Q _=> ∃f b,vs=[.int f,.int b]/\(0<=f/\f<=3)/\(0<=b/\b.toNat<2^Ff f.toNat)/\ ∀H' p,BY C H' p (J8 f.toNat b.toNat)->AQ H H'->Q (.ref p) H'
noncomputable def QA(n:Nat):Fmt:=if n=3 then Hu else ND n
def gq(K:Aj)(a:Addr):Prop:= ∃a0 a1 a2 a3:Addr,(∀H,B9 K H a [.ref a0,.ref a1,.ref a2,.ref a3])/\(∀H,Fu K H a0 Qu.HALF)/\(∀H,Fu K H a1 Qu.SINGLE)/\(∀H,Fu K H a2 Qu.DOUBLE)/\(∀H,Fu K H a3 Hu)
def gq.get(h:gq K a)(hf:0<=f/\f<=3): ∃(xs:List V)(b:Addr),(∀H,B9 K H a xs)/\DX xs f=some (.ref b)/\ ∀H,Fu K H b (QA f.toNat):=by
 obtain⟨a0,a1,a2,a3,h1,h2,h3,h4,h5⟩:=h;have :f=0\/f=1\/f=2\/f=3:=by lia
 rcases this with e|e|e|e<;>subst e
 ·exact⟨_,a0,h1,rfl,h2⟩
 ·exact⟨_,a1,h1,rfl,h3⟩
 ·exact⟨_,a2,h1,rfl,h4⟩
 ·exact⟨_,a3,h1,rfl,h5⟩
def gr:mg "FORMS"=some (.ref af):=rat 10 rfl
def gu:gq L2.K af:=⟨327,328,329,330,uv (xs:=[327,328,329,330]) (by kernel_rfl),fun H=>⟨K3 (xs:=[5,10]) (by kernel_rfl) H,by decide,by decide,by decide,by decide⟩,fun H=>⟨K3 (xs:=[8,23]) (by kernel_rfl) H,by decide,by decide,by decide,by decide⟩,fun H=>⟨K3 (xs:=[11,52]) (by kernel_rfl) H,by decide,by decide,by decide,by decide⟩,fun H=>⟨K3 (xs:=[15,63]) (by kernel_rfl) H,by decide,by decide,by decide,by decide⟩⟩
def gv:B_ mg "EXTENDED" 3:=CV 20 rfl
def yI:Df "take_apart_other" 5 ["form","bits"] (yH CP):=by
 refine(AW 62 rfl).go ["form","bits"] ?_;rintro _ _ _ _ _ _ _ H _ Q _ hr ⟨f,b,rfl,hf,hb,q⟩;refine⟨_,(AJ (Ag (AX Ae (pv 0) (pG gv)) (pR (pD hr yG (pO 1))) Ai) (pR (pD hr fz (AB (AY Dx (F6 rfl gr) (pv 0)) (pO 1))))),?_⟩;refine Bf (Ac (An (AH rfl) AI)) (fun c1=>?_) (fun c1=>?_)
 ·have e:f=3:=Au c1;subst e;exact⟨_,rfl,b,rfl,⟨hb.1,hb.2⟩,q⟩
 ·have e:f≠3:=BA c1;obtain⟨xs,fa,h1,h2,h3⟩:=gu.get hf;have e3:f.toNat≠3:=by lia
  have ef:QA f.toNat=ND f.toNat:=by unfold QA;rw [AD e3]
  have en:J8 f.toNat b.toNat=AU (ND f.toNat) b.toNat:=by unfold J8;rw [AD e3]
  have ew:Ff f.toNat=(ND f.toNat).width:=by unfold Ff;rw [AD e3]
  rw [ef]at h3;rw [en]at q;rw [ew]at hb;refine⟨_,rfl,af,xs,f,_,rfl,rfl,h1 _,h2,_,rfl,fa,_,b,rfl,h3 _,⟨hb.1,?_⟩,q⟩;have Zm:=hb.2;unfold Qu.Fmt.width at Zm;unfold p_;rw [V1,Ap,V2]at Zm;exact Zm
def yJ:Sp:=fun vs H Q _=> ∃f b,vs=[.int f,.int b]/\(0<=f/\f<=3)/\(0<=b/\b.toNat<2^Ff f.toNat)/\ ∀H' l,A2 H' l (Ds QUAD 0 (J8 f.toNat b.toNat))->AQ H H'->Q (.ref l) H'
def yK(b:Nat):Hc (V0 b):=by
 unfold V0;dsimp only;have eu:Hu.unit= -16445:=by decide
 have hg:b%2^64<2^64:=Dg _ (BR _);have he:b/2^64%2^15<2^15:=Dg _ (BR _);have OZ:2^15=32768:=by decide
 rw [eu];rw [OZ]at he⊢;split
 ·intro hm;exact⟨by lia,A9 (Cg hg) dd,by lia,by lia⟩
 ·split
  ·exact Dd
  ·split
   ·split<;>exact Dd
   ·intro hm;exact⟨by lia,A9 (Cg hg) dd,by lia,by lia⟩
def yL(b:Nat):Hc (J8 f b):=by
 unfold J8 ND;split
 ·exact yK b
 ·split
  ·exact Xs dd dd b
  ·split
   ·exact Xs dd dd b
   ·exact Xs dd dd b
def yM:Df "from_other" 8 ["form","bits"] yJ:=by
 refine(AW 63 rfl).go ["form","bits"] ?_;rintro _ _ _ _ _ _ _ H _ Q _ hr ⟨f,b,rfl,hf,hb,q⟩;refine⟨_,(pR (pD hr G8 (AB (pD hr yI (pW 0 (pO 1))) (AB (pG P5) AL)))),?_⟩;exact⟨_,rfl,_,rfl,f,b,rfl,hf,hb,fun H1 p hp s1=>⟨p,_,0,rfl,hp,yL _,⟨by decide,by decide⟩,fun H2 l h2 s2=>q H2 l h2 (s1.trans s2)⟩⟩
def yN(h:b<2^79):Qu.tell b=b/2^63*2^64+(if b/2^63%2^15=0 then 0 else 1)*2^63+b%2^63:=by
 have e1:F2 Hu b=b/2^63%2^15:=rfl;have e2:Lp Hu b=b%2^63:=rfl;have e3:Bt Hu b=(b/2^78%2==1):=rfl;unfold Qu.tell;rw [e1,e2,e3];have d:b/2^63=b/2^78*2^15+b/2^63%2^15:=by
  have :=Gy (b/2^63) (2^15);rw [RT,<-Ap]at this;lia
 have hn:b/2^78<2:=(E_ (BR _)).mpr (by
  have :2^79=2*2^78:=by decide
  lia)
 generalize b/2^78=n at *
 generalize b/2^63%2^15=x at *
 generalize b%2^63=r at *
 rw [d];have Xt:2^79=604462909807314587353088:=by decide
 have Zj:2^64=18446744073709551616:=by decide
 have OY:2^63=9223372036854775808:=by decide
 have OZ:2^15=32768:=by decide
 rw [Xt,Zj,OY,OZ];have :n=0\/n=1:=by lia
 rcases this with z|z
 ·subst z;by_cases q:x=0
  ·rw [AG q,AG q,AD dd];lia
  ·rw [AD q,AD q,AD dd];lia
 ·subst z;by_cases q:x=0
  ·rw [AG q,AG q,AG dd];lia
  ·rw [AD q,AD q,AG dd];lia
def yO:Sp:=fun vs H Q _=> ∃(b:Nat),vs=[.int b]/\b<2^79/\Q (.int (Qu.tell b:Nat)) H
def yP:Df "with_top_bit" 2 ["bits"] yO:=by
 refine(AW 64 rfl).go ["bits","sign_and_field","top"] ?_;rintro S _ _ _ _ _ _ H _ Q _ hr ⟨b,rfl,hb,q⟩;rw [yN hb]at q;have hx:b/2^63<2^16:=(E_ (BR _)).mpr (by rw [<-Ap];exact hb);refine⟨_,(AJ (pS 1 S (AK GZ (pv 0) AE)) (AJ (pS 2 S (Bq (AX Ef (AK EH (pv 1) (pD hr Fv (AB AE AL))) AE) AE AE)) (pR (AK BX (AK BX (AK DF (pv 1) AE) (AK DF (pv 2) AE)) (AK EH (pv 0) (pD hr Fv (AB AE AL))))))),?_⟩;have Zl:(0:Int)<=63:=by decide
 refine BD ((BS (C:=fun _ j=>0<=j) (g:=fun i j=>V.int (i/2^j.toNat)) (AH rfl) AI Zl).to (v':=.int ((b/2^63:Nat):Int)) (congrArg V.int (IF b 63))) ?_;have M15: ∀σ:L2.St,σ[1]? =some (some (.int ((b/2^63:Nat):Int)))->Ev (Br (Dv fun i j=>V.int (D0 i j)) (Aa 1) (DE Sv [] E0 (Ba (tC (.int 15)) B3))) σ H (.int ((b/2^63%2^15:Nat):Int)):=fun σ h=>
  (A1 (AH h) (OG (n:=15) AI dd)).to (congrArg V.int (Ny _ 15))
 have M63: ∀σ:L2.St,σ[0]? =some (some (.int (b:Int)))->Ev (Br (Dv fun i j=>V.int (D0 i j)) (Aa 0) (DE Sv [] E0 (Ba (tC (.int 63)) B3))) σ H (.int ((b%2^63:Nat):Int)):=fun σ h=>
  (A1 (AH h) (OG (n:=63) AI dd)).to (congrArg V.int (Ny _ 63))
 generalize Zn:b/2^63=x at *
 refine BD (v:=.int ((if x%2^15=0 then 0 else 1:Nat):Int)) (B5 (Ac (CO (M15 _ rfl) AI)) (fun c=>?_) (fun c=>?_)) ?_
 ·have c':(0:Int) < ((x%2^15:Nat):Int):=Au c;rw [AD (by lia)];exact AI
 ·have c': ¬(0:Int) < ((x%2^15:Nat):Int):=BA c;rw [AG (by lia)];exact AI
 have bx:Aq (x:Int)<=16:=Cg hx;have bt:Aq ((if x%2^15=0 then 0 else 1:Nat):Int)<=1:=Cg (by split<;>decide);generalize (if x%2^15=0 then 0 else 1:Nat)=tp at bt q⊢;refine EU ((A1 (A1 (BS (AH rfl) AI ⟨by decide,by decide,by lia⟩) (BS (AH rfl) AI ⟨by decide,by decide,by lia⟩)) (M63 _ rfl)).to (v':=.int ((x*2^64+tp*2^63+b%2^63:Nat):Int)) (congrArg V.int ?_)) q;show(x:Int)*2^64+(tp:Int)*2^63+((b%2^63:Nat):Int)=_;rw [Ge,Ge,M8,M8]
noncomputable def QB(f m:Nat)(x:Num):Nat×Nat:=if f=3 then Qu.toExt m x else Ds (ND f) m x
def Td:Sp:=fun vs H Q _=> ∃f a m,vs=[.int f,.int a,.int m]/\(0<=f/\f<=3)/\A3 a/\(0<=m/\m<=4)/\ ∀H' l,A2 H' l (QB f.toNat m.toNat (AU QUAD a.toNat))->AQ H H'->Q (.ref l) H'
def AEX(h:QN x):Hc x:=by
 cases x with
 |nan b=>trivial
 |inf n=>trivial
 |fin n m e=>
  intro hm;have h1:=h.1;have h2:=h.2;exact⟨by lia,A9 (Cg h1) dd,by lia,by lia⟩
def JL(h:x<f.signBit):Cv f n x<2*f.signBit:=by unfold Cv;split<;>lia
def gw(m:Nat)(n:Bool):Vt f m n<2*f.signBit:=by
 have h:=QM.Sn f;have p:=BR f.fbits;unfold Vt;split
 ·exact JL (by lia)
 ·split
  ·exact JL (by split<;>lia)
  ·split
   ·exact JL (by split<;>lia)
   ·exact JL (by lia)
def yQ(hf:1<=f.fbits)(x:Num):(Ds f m x).1 <2*f.signBit:=by
 have h:=QM.Sn f;have p:=BR f.fbits;cases x with
 |nan s=>
  show f.canonical<_;unfold Qu.Fmt.canonical;have e:2^(f.fbits-1) <2^f.fbits:=QM.Ha (by lia);lia
 |inf n=>exact JL (by lia)
 |fin n a e=>
  show(if a=0 then FX f n else Es f m n (F3 a 1 e)).1 <_;split
  ·exact JL (by lia)
  ·unfold Es;dsimp only;split
   ·exact gw m n
   ·exact JL (by lia)
def yR:Df "to_other" 7 ["form","a","mode"] Td:=by
 refine(AW 65 rfl).go ["form","a","mode","made"] ?_;rintro S _ _ _ _ _ _ H _ Q _ hr ⟨f,a,m,rfl,hf,ba,hm,q⟩;obtain⟨xs,fa,h1,h2,h3⟩:=gu.get hf;refine⟨_,(AJ (pS 3 S (pD hr gO (AB (AY Dx (F6 rfl gr) (pv 0)) (AB (pD hr DS (pO 1)) (pO 2))))) (AJ (Ag (AX Ae (pv 0) (pG gv)) (pR (Ay (AB (pD hr yP (AB (AY Ah (pv 3) AE) AL)) (AB (AY Ah (pv 3) AE) AL)))) Ai) (pR (pv 3)))),?_⟩;refine⟨_,rfl,af,xs,f,_,rfl,rfl,h1 _,h2,_,rfl,a,rfl,ba,fun H1 p hp s1=>?_⟩;refine⟨_,rfl,fa,p,QA f.toNat,_,m,rfl,h3 _,hp,AEX (QM.FO _),hm,fun H2 l hl s2=>?_⟩;refine Bf (Ac (An (AH rfl) AI)) (fun c=>?_) (fun c=>?_)
 ·have e:f=3:=Au c;subst e;have Ja:=yQ (f:=Hu) (m:=m.toNat) dd (AU QUAD a.toNat);have Bp:H2 l=some (.lst [.int ((Ds Hu m.toNat (AU QUAD a.toNat)).1:Int),.int ((Ds Hu m.toNat (AU QUAD a.toNat)).2:Int)]):=hl;have eb:2*Hu.signBit=2^79:=by decide
  rw [eb]at Ja;refine⟨_,rfl,l,_,0,_,rfl,rfl,BL Bp,rfl,_,rfl,Ja,_,rfl,l,_,1,_,rfl,rfl,BL Bp,rfl,dz,fun l3 Zo=>q _ l3 ?_ ((s1.trans s2).trans (AQ.new Zo))⟩;exact AZ
 ·have e:f≠3:=BA c;have e3:f.toNat≠3:=by lia
  refine⟨_,rfl,q H2 l ?_ (s1.trans s2)⟩;unfold QB;rw [AD e3];unfold QA at hl;rw [AD e3]at hl;exact hl
end
def FQ:bootBuiltins "len"=some (.builtin "len"):=by decide+kernel
def QC(K:Aj)(H:Hp)(a:Addr)(l:List Int):Prop:=B0 K H a (l.map V.int)
def Gi(K:Aj)(H:Hp)(p:Addr)(xs:List (List Int)):Prop:= ∃as:List Addr,H p=some (.lst (as.map V.ref))/\as.length=xs.length/\ ∀(i:Nat)(a:Addr)(x:List Int),as[i]? =some a->xs[i]? =some x->H a=some (.lst (x.map V.int))
def QC.same{K:Aj}(h:QC K H a l)(e:AQ H H'):QC K H' a l:=AQ.seq e h
def Gi.same{K:Aj}(h:Gi K H a l)(e:AQ H H'):Gi K H' a l:=by
 obtain⟨as,h1,h2,h3⟩:=h;exact⟨as,e _ _ h1,h2,fun i a x z1 z2=>e _ _ (h3 i a x z1 z2)⟩
noncomputable def nw(H H':Hp):Hp:=fun b=>if(H b).isNone=true then H' b else none
def Xu:AQ (nw H H') H':=fun b o h=>by
 unfold nw at h;split at h
 ·exact h
 ·cases h
def MQ(h:H b=none):nw H H' b=H' b:=by
 unfold nw;rw [h];rfl
def Xv(h:H b=some o):nw H H' b=none:=by
 unfold nw;rw [h];rfl
def QD(h1: ∀b,H1 b=none->H b=none)(h2: ∀b o,H1 b=none->H2 b=some o->H3 b=some o):AQ (nw H1 H2) (nw H H3):=fun b o e=>by
 cases q:H1 b with
 |none=>
  rw [MQ q]at e;rw [MQ (h1 b q)];exact h2 b o q e
 |some u=>rw [Xv q]at e;cases e
def HQ{α:Type}{xs:List α}{i:Nat}{x:α}(h:xs[i]? =some x):DX xs (i:Int)=some x:=by
 have hi:=(Fi.mp h).1;unfold DX G4;rw [AG (by lia),AG (by lia)];simpa using h
def gx(l:List Int)(i j:Nat)(h:i<=j)(hj:j<=l.length):Kt (l.map V.int) (some (i:Int)) (some (j:Int))=((l.drop i).take (j-i)).map V.int:=by
 unfold Kt;rw [A5,HT.NW,HT.NW,Ou hj,Ou (by lia),qG,List.map_drop]
def gy(h:bY s=some (x,t)): ∃n r,s=n::r/\0<=n/\n.toNat<=r.length/\x=r.take n.toNat/\t=r.drop n.toNat:=by
 cases s with
 |nil=>cases h
 |cons n r=>
  unfold bY at h;dsimp only at h;by_cases c:0<=n/\n.toNat<=r.length
  ·rw [AG c]at h;injection h with h
   injection h with h1 h2
   exact⟨n,r,rfl,c.1,c.2,h1.symm,h2.symm⟩
  ·rw [AD c]at h;cases h
def Xw(h:Iv (k+1) s=some (xs,t)): ∃x s1 ys,bY s=some (x,s1)/\Iv k s1=some (ys,t)/\xs=x::ys:=by
 unfold Iv at h;cases h1:bY s with
 |none=>rw [h1]at h;cases h
 |some y=>
  obtain⟨x,s1⟩:=y;rw [h1]at h;dsimp only at h;cases h2:Iv k s1 with
  |none=>rw [h2]at h;cases h
  |some z=>
   obtain⟨ys,t'⟩:=z;rw [h2]at h;injection h with h
   injection h with e1 e2
   subst e2;exact⟨x,s1,ys,rfl,h2,e1.symm⟩
def Te: ∀{k:Nat}{s t:List Int}{xs:List (List Int)},Iv k s=some (xs,t)->xs.length=k
 |0,s,t,xs,h=>by
  unfold Iv at h;injection h with h
  injection h with h1 h2
  rw [<-h1];rfl
 |k+1,s,t,xs,h=>by
  obtain⟨x,s1,ys,h1,h2,rfl⟩:=Xw h;rw [BU,Te h2]
section
def yS(K:Aj):Sp:=fun vs H Q _=> ∃(a:Addr)(l:List Int)(s c:Nat)(xs:List (List Int))(t:List Int),vs=[.ref a,.int (s:Int),.int (c:Int)]/\QC K H a l/\l.length<=8000/\c<=8000/\Iv c (l.drop s)=some (xs,t)/\
 ∀H' p,Gi K (nw H H') p xs->AQ H H'->Q (.ref p) H'
def FR:mg "len"=none:=rat 11 rfl
def yT:Df "read_rows" 1 ["calls","start","count"] (yS K):=by
 refine(AW 66 rfl).go ["calls","start","count","rows","place","end"] ?_;rintro S _ _ _ _ _ _ H _ Q _ _ ⟨a,l,s,c,xs,t,rfl,hl,hz,hc8,KS,q⟩;have hc:=Te KS;refine⟨_,(AJ (pS 3 S (Ay AL)) (AJ (pS 4 S (pv 1)) (AJ (O7 Gz (AX Fo (Cf H_ (by rfl) FR FQ (pO 3)) (pv 2)) (AJ (pS 5 S (AK BX (AK BX (pv 4) AE) (AY Ah (pv 0) (pv 4)))) (AJ (Kr (Fp bZ ah qH Wd (pv 3) (AB (Jw dR (pv 0) (F5 (AK BX (pv 4) AE)) (F5 (pv 5))) AL))) (Cj (pS 4 S (pv 5)))))) (pR (pv 3))))),?_⟩;refine⟨by decide,fun p hp=>?_⟩;refine BD (AH rfl) ?_;refine PB (fun σ H'=>AQ H H'/\ ∃(j i:Nat)(as:List Addr)(z:Option V),j<=c/\σ=[some (.ref a),some (.int (s:Int)),some (.int (c:Int)),some (.ref p),some (.int (i:Int)),z]/\
  Iv (c-j) (l.drop i)=some (xs.drop j,t)/\H' p=some (.lst (as.map V.ref))/\as.length=j/\ ∀(m:Nat)(b:Addr)(x:List Int),as[m]? =some b->xs[m]? =some x->b≠p/\H b=none/\H' b=some (.lst (x.map V.int)))
  (fun (σ:L2.St) (_:Hp)=>match σ[4]? with
    |some (some (V.int i))=>l.length+1-i.toNat
    |_=>0) ⟨AQ.new hp,0,s,[],none,DM _,rfl,KS,AZ,rfl,fun m b x h=>by cases h⟩ ?_ ?_
 ·rintro σ H' ⟨s1,j,i,as,z,hj,rfl,EE,En,hlen,ED⟩;refine⟨_,rfl,p,_,rfl,.inl (BL En),_,rfl,_,_,rfl,rfl,?_⟩;refine⟨_,rfl,J0 (fun g=>?_) (fun g=>?_)⟩
  ·have Zp:j<c:=by rw [A5]at g;lia
   obtain⟨k,hk⟩: ∃k,c-j=k+1:=⟨c-j-1,by lia⟩;rw [hk]at EE;obtain⟨x,s2,ys,r1,r2,e1⟩:=Xw EE;obtain⟨n,r,e2,n0,nl,rfl,rfl⟩:=gy r1;obtain⟨m,rfl⟩: ∃m:Nat,n=(m:Int):=⟨n.toNat,by lia⟩;rw [Am]at nl r2 r1;rw [Am]at e1;have hi:l[i]? =some (m:Int):=by
    have :(l.drop i)[0]? =some (m:Int):=by rw [e2];rfl
    rw [bf]at this;exact this
   have U8:r=l.drop (i+1):=by
    have :(l.drop i).drop 1=r:=by rw [e2];rfl
    rw [HJ]at this;exact this.symm
   have hlr:i+1+m<=l.length:=by
    rw [U8,D1]at nl;have :=(Fi.mp hi).1;lia
   have Oa:DX (l.map V.int) (i:Int)=some (.int (m:Int)):=HQ (by rw [De,hi];rfl);refine BD (A1 (A1 (AH rfl) AI) (Ek (AH rfl) (AH rfl) (hl.same s1) Oa)) ?_;refine⟨_,rfl,.inl ⟨rfl,_,BL En⟩,?_⟩;refine⟨_,rfl,_,rfl,_,_,rfl,rfl,_,rfl,_,rfl,_,rfl,a,_,rfl,hl.same s1,fun b hb=>?_⟩;have ec:Kt (l.map V.int) (some ((i:Int)+1)) (some ((i:Int)+1+(m:Int)))=(r.take m).map V.int:=by
    have :=gx l (i+1) (i+1+m) (by lia) hlr;rw [show i+1+m-(i+1)=m by lia,<-U8]at this;rw [<-this];congr 2
   rw [ec];have Zq:p≠b:=D4 En hb;refine⟨p,_,_,rfl,rfl,(BC Zq).trans En,?_,?_⟩
   ·rw [A5];have :sizeLine=16777216:=rfl;lia
   refine⟨_,rfl,⟨?_,j+1,i+1+m,as++[b],some (.int ((i:Int)+1+(m:Int))),Zp,?_,?_,?_,?_,?_⟩,?_⟩
   ·intro d o e;have d1:d≠p:=fun z=>by rw [z,hp]at e;cases e
    rw [BC d1,BC (D4 (s1 _ _ e) hb)];exact s1 _ _ e
   ·rfl
   ·have ed:l.drop (i+1+m)=r.drop m:=by rw [U8,HJ]
    have ex:xs.drop (j+1)=ys:=by
     have :(xs.drop j).drop 1=ys:=by rw [e1];rfl
     rw [HJ]at this;exact this
    rw [ed,ex,show c-(j+1)=k by lia];exact r2
   ·rw [AZ,Jm];rfl
   ·rw [CD];simp only [BU,Cu];lia
   ·intro y d x h1 h2;rcases HG y j with o|o|o
    ·rw [VV (by lia)]at h1;obtain⟨u1,u0,u2⟩:=ED y d x h1 h2;exact⟨u1,u0,by rw [BC u1,BC (D4 u2 hb)];exact u2⟩
    ·rw [o,VU (by lia),show j-as.length=0 by lia]at h1;cases h1;have hx:xs[j]? =some (r.take m):=by
      have :(xs.drop j)[0]? =some (r.take m):=by rw [e1];rfl
      rw [bf]at this;exact this
     rw [o,hx]at h2;cases h2;exact⟨Ne.symm Zq,s1.free hb,by rw [BC (Ne.symm Zq),AZ]⟩
    ·rw [ao (by rw [CD];simp only [BU,Cu];lia)]at h1;cases h1
   ·show l.length+1-((i:Int)+1+(m:Int)).toNat <l.length+1-(i:Int).toNat;lia
  ·refine⟨_,rfl,?_⟩;have Zp:j=c:=by rw [A5]at g;lia
   refine q H' p ⟨as,(MQ hp).trans En,by lia,fun m b x h1 h2=>(MQ (ED m b x h1 h2).2.1).trans (ED m b x h1 h2).2.2⟩ s1
 ·rintro σ H' Q1 Q2 h ⟨v1,r1,p1,Zr,e1,e2,v2,r2,i,j,e3,e4,b,e5,k⟩;exact⟨v1,r1,p1,Zr,e1,e2,v2,r2,i,j,e3,e4,b,e5,h _ _ k⟩
end
def yU:bootBuiltins "sum"=some (.builtin "sum"):=by decide+kernel
def gz{K:Aj}{a b:Addr}{xs ys:List V}{g:TG}{tb:TS}{D:FE}{σ:L2.St}{H:Hp}(hlen:xs.length<=ys.length)(Pv:Nat->L2.St->Hp->Prop)(h0:Pv 0 σ H)(hl: ∀i σ H,i<=xs.length->Pv i σ H->B0 K H a xs/\B9 K H b ys)
 (hs: ∀i x y σ H T,xs[i]? =some x->ys[i]? =some y->Pv i σ H->H T=none->g (.ref T) σ (upd H T (.tup [x,y])) fun A_ H2=>tb {D with nx:=Pv (i+1),ct:=Pv (i+1),bk:=D.nx} A_ H2)(hd: ∀σ H,Pv xs.length σ H->D.nx σ H):
 ∃W:Nat->Nat->L2.St->Hp->Prop,(∃m,W 0 m σ H)/\ ∀i m σ H,W i m σ H->
  ((Pe K a b).stop i H/\D.nx σ H)\/((Pe K a b).go i H/\ ∃N:L2.St->Hp->Prop,(∀Ak H',N Ak H'-> ∃m',m'<m/\W (i+1) m' Ak H')/\ ∀x H',(Pe K a b).Hi i H x H'->g x σ H' fun A_ H2=>tb {D with nx:=N,ct:=N,bk:=D.nx} A_ H2):=by
 refine⟨fun i m σ H=>m=xs.length-i/\i<=xs.length/\Pv i σ H,⟨xs.length,by simp,DM _,h0⟩,?_⟩;rintro i m σ H ⟨rfl,hi,p⟩;obtain⟨q1,q2⟩:=hl i σ H hi p;by_cases Bk:i<xs.length
 ·refine .inr ⟨⟨xs,ys,xs[i],ys[i]'(by lia),q1,q2,by simp [Bk],FY (by lia)⟩,Pv (i+1),fun Ak H' p'=>⟨xs.length-(i+1),by lia,rfl,Bk,p'⟩,fun v H' y=>?_⟩;obtain⟨T,x,y,rfl,hT,rfl,hx,hy⟩:=y;exact hs i x y σ H T (hx _ q1) (hy _ q2) p hT
 ·have e:i=xs.length:=by lia
  subst e;exact .inl ⟨⟨xs,q1,BO _⟩,hd σ H p⟩
noncomputable def CF(n:Int)(nl rl:Addr):List (Str×V):=C6 "rows" (.ref rl) (C6 "numbers" (.ref nl) (C6 "number" (.int n) []))
def Xx{n:Int}{nl rl:Addr}:(CF n nl rl).lookup ("number":Str)=some (.int n):=by
 unfold CF;rw [DJ,AD (by decide+kernel),DJ,AD (by decide+kernel),DJ,AG rfl]
def g6{n:Int}{nl rl:Addr}:(CF n nl rl).lookup ("numbers":Str)=some (.ref nl):=by
 unfold CF;rw [DJ,AD (by decide+kernel),DJ,AG rfl]
def Xy{n:Int}{nl rl:Addr}:(CF n nl rl).lookup ("rows":Str)=some (.ref rl):=by
 unfold CF;rw [DJ,AG rfl]
def LC(C:Addr)(K:Aj)(H:Hp)(a:Addr)(n:Int)(l:List Int)(xs:List (List Int)):Prop:= ∃dx nl rl,H a=some (.ins C dx (CF n nl rl))/\H nl=some (.lst (l.map V.int))/\Gi K H rl xs
def LC.same{K:Aj}(h:LC C K H a n l xs)(e:AQ H H'):LC C K H' a n l xs:=by
 obtain⟨dx,nl,rl,h1,h2,h3⟩:=h;exact⟨dx,nl,rl,e _ _ h1,e _ _ h2,h3.same e⟩
structure yV(K:Aj)(C:Addr):Prop where
 cl:F4 K C
 number:FH K C "number"
 Zs:FH K C "numbers"
 rows:FH K C "rows"
abbrev g7:Stmt:=FD (top 82) 0
def g8(C:Addr):Sp:=fun vs H Q _=> ∃p dx n nl rl,vs=[.ref p,.int n,.ref nl,.ref rl]/\H p=some (.ins C dx [])/\
 ∀H':Hp,H' p=some (.ins C dx (CF n nl rl))->(∀b o,H b=some o->b≠p->H' b=some o)->Q .BZ H'
abbrev QE:List Str:=["self","number","numbers","rows"]
section
variable{C:Addr}
def yW:IC L2.K "__init__" "Call.__init__" g7 Pn Sd:=K2 (by kernel_rfl)
def D8:yV L2.K CC:=⟨SS (by kernel_rfl),II (by kernel_rfl),II (by kernel_rfl),II (by kernel_rfl)⟩
def yX:mg "Call"=some (.ref CC):=rat 1 rfl
def yY:Mk L2.K CC Pn:=SU (by kernel_rfl)
def yZ:Binds L2.K Sd QE []:=MG (by kernel_rfl)
def ya:C_ Fq 1 Pn Sd QE (g8 CC):=by
 have S:Bj QE QE (Cw g7):=fS;refine yW.ok S (by rintro _ _ _ _ ⟨_,_,_,_,_,rfl,_⟩;rfl) (fun _ _ _ _ _ H vs Q E hr h=>?_);obtain⟨p,dx,n,nl,rl,rfl,hp,q⟩:=h;refine⟨_,(AJ (Hz (pv 0) (pv 1) rfl) (AJ (Hz (pv 0) (pv 2) rfl) (Cj (Hz (pv 0) (pv 3) rfl)))),?_⟩;refine⟨_,rfl,_,rfl,p,CC,dx,_,rfl,hp,D8.cl,D8.number,dd,_,rfl,_,rfl,p,CC,dx,_,rfl,AZ,D8.cl,D8.Zs,Cb (G7 _ _ _) dd,
  _,rfl,_,rfl,p,CC,dx,_,rfl,AZ,D8.cl,D8.rows,Cb (G7 _ _ _) (Cb (M7 (G7 _ _ _)) dd),?_⟩
 exact q _ AZ fun b o e hb=>by rw [BC hb,BC hb,BC hb];exact e
def yc:Cl "Call" CC 1 QE (g8 CC):=⟨yX,Pn,Sd,yY,ya,yZ⟩
def g9{α β:Type}{l:List α}{m:List β}{i:Nat}{x:α}{y:β}(h1:l[i]? =some x)(h2:m[i]? =some y):(l.take (i+1)).zip m=(l.take i).zip m++[(x,y)]:=by
 induction l generalizing m i with
 |nil=>simp at h1
 |cons a l ih=>
  cases m with
  |nil=>simp at h2
  |cons b m=>
   cases i with
   |zero=>simp at h1 h2;simp [h1,h2]
   |succ i=>
    simp at h1 h2;simp only [Jn,bO,ay];rw [ih h1 h2]
noncomputable def Xz:List (List Str):=[["to 3","quad","quad","mode"],["quad","mode"],["quad","quad","quad","to 3","mode"],["quad","quad","to 1"],["quad","exponent","mode"],["quad","to 1","mode"],["quad","to 1"],["quad"],["quad","quad","to 1"],["quad","quad","to 2"],["quad","quad","to 4"],["quad","quad"],["quad"],["to 3","quad"],["to 3","quad","mode"],["to 9","quad","mode"],["to 9","quad","mode"],["quad","to 1000","mode"],["quad"],["mode"],["mode"],["mode"],["quad","mode"],["to 3"],["to 3","quad"],["to 3","quad","quad"],["to 3","to 3"],["to 3","mode"]]
noncomputable def Wf(n:Int):List Str:=Xz.getD n.toNat []
noncomputable def Rf(n:Int):List Int:=if n=19 then [512]else if n=20 then [64]else if n=21 then [64,64]else if n=22 then [64]else []
noncomputable def Lf(x:Str):Int×Int:=if x="quad"then(0,340282366920938463463374607431768211455)else if x="mode"then(0,4)else if x="exponent"then(-40000,40000)else if x="to 1"then(0,1)else if x="to 2"then(0,2)else if x="to 3"then(0,3)else if x="to 4"then(0,4)else if x="to 9"then(0,9)else if x="to 1000"then(0,1000)else(0,0)
def Hf(n:Int):Prop:=0<=n/\n<=27
variable{W:Int->List Str}{L:Str->Int×Int}
noncomputable def Bv(L:Str->Int×Int)(z:Int)(x:Str):Bool:=decide ((L x).1<=z)&&decide (z<=(L x).2)
noncomputable def Bx(W:Int->List Str)(L:Str->Int×Int)(n:Int)(l:List Int):Bool:=(l.zip (W n)).all fun p=>Bv L p.1 p.2
def g_(K:Aj)(W:Int->List Str)(Nk:List (A8×V)):Prop:= ∀n,Hf n-> ∃a,Az Nk (.inl n)=some (.ref a)/\(∀H,B9 K H a ((W n).map V.str))/\(W n).length<=8
def hG(K:Aj)(W:Int->List Str)(L:Str->Int×Int)(Nl:List (A8×V)):Prop:= ∀n x,Hf n->x∈W n-> ∃a,Az Nl (.inr x)=some (.ref a)/\ ∀H,B9 K H a [.int (L x).1,.int (L x).2]
def yd(C:Addr)(K:Aj)(W:Int->List Str)(L:Str->Int×Int):Sp:=fun vs H Q _=> ∃(a:Addr)(n:Int)(l:List Int)(xs:List (List Int)),vs=[.ref a]/\LC C K H a n l xs/\Hf n/\l.length=(W n).length/\ ∀H',AQ H H'->Q (.bl (Bx W L n l)) H'
def X1:mg "zip"=none:=rat 12 rfl
def hY:mg "NUMBERS"=some (.ref aN):=rat 13 rfl
def ye:mg "LIMITS"=some (.ref aL):=rat 14 rfl
def hZ:IG L2.P L2.w L2.K aN Nk:=Ng rfl (by kernel_rfl)
def yg:IG L2.P L2.w L2.K aL Nl:=Ng rfl (by kernel_rfl)
def h9(n:Nat):Bool:=decide ((Wf n).length<=8)&&match Az Nk (.inl n)with
 |some (.ref a)=>fI a (Wf n)
 |_=>false
def yh:g_ L2.K Wf Nk:=fun n hn=>by
 obtain⟨k,rfl⟩:=bh hn.1;have h:(Hl 28).all h9=true:=by kernel_rfl
 have h:=GS.mp h k (RD.mpr (by have :=hn.2;lia));unfold h9 at h;rw [BK,Bw]at h;obtain⟨h1,h⟩:=h;split at h
 ·rename_i a e;exact⟨a,e,uo h,h1⟩
 ·cases h
def h_:g_ L2.K Wf Nk:=yh
def iA(x:Str):Bool:=match Az Nl (.inr x)with
 |some (.ref a)=>XD a [(Lf x).1,(Lf x).2]
 |_=>false
def yi:hG L2.K Wf Lf Nl:=fun n x hn hx=>by
 have h:(Xz.all fun l=>l.all iA)=true:=by kernel_rfl
 unfold Wf at hx;rw [AFY]at hx;cases e:Xz[n.toNat]? with
 |none=>rw [e]at hx;cases hx
 |some l=>
  rw [e]at hx;have h:=GS.mp (GS.mp h l (FV e)) x hx;unfold iA at h;split at h
  ·rename_i a e;exact⟨a,e,K3 h⟩
  ·cases h
def yj:hG L2.K Wf Lf Nl:=yi
def ym:Df "has_fitting_numbers" 1 ["call"] (yd CC K Wf Lf):=by
 refine(AW 67 rfl).go ["call","number","word","limits"] ?_;rintro S _ _ _ _ _ _ H _ Q _ _ ⟨a,n,l,xs,rfl,⟨dx,nl,rl,h1,h2,h3⟩,hn,hlen,q⟩;obtain⟨at_,hv,hT,_⟩:=h_ n hn;refine⟨_,(AJ (JD Gz rfl (eS (by rfl) X1 (AB (AR (pv 0) rfl) (AB (Nc hZ (F6 rfl hY) (AR (pv 0) rfl) (fun _ _=>rfl)) AL))) (WN rfl (NN (FF (i:=1) S rfl (Or.inl rfl)) (NN (FF (i:=2) S rfl (Or.inl rfl)) WM))) (AJ (pS 3 S (Nc yg (F6 rfl ye) (pv 2) (fun _ _=>rfl))) (Cj (Ag (PW.pt (Fb (AX Fo (pv 1) (AY Dx (pv 3) AE)) (Fn (AX Ef (pv 1) (AY Dx (pv 3) AE))))) (pR L4) Ai)))) (pR L4)),?_⟩;refine⟨_,rfl,a,CC,dx,_,_,rfl,h1,D8.cl,D8.Zs,g6,?_⟩;refine⟨_,rfl,a,CC,dx,_,_,rfl,h1,D8.cl,D8.number,Xx,.inl n,_,rfl,rfl,hv,?_⟩;refine⟨nl,at_,_,_,rfl,BL h2,hT _,?_⟩;have Bp:(l.map V.int).length<=((Wf n).map V.str).length:=by rw [A5,A5];lia
 refine gz Bp (fun i σ H'=>AQ H H'/\((l.take i).zip (Wf n)).all (fun p=>Bv Lf p.1 p.2)=true/\ ∃z1 z2 z3,σ=[some (.ref a),z1,z2,z3]) ⟨KN _,rfl,_,_,_,rfl⟩ ?_ ?_ ?_
 ·rintro i σ H' _ ⟨s1,_⟩;exact⟨BL (s1 _ _ h2),hT _⟩
 ·rintro i x y σ H' TT hx hy ⟨s1,Af,z1,z2,z3,rfl⟩ Qw;obtain⟨z,hz,rfl⟩: ∃z,l[i]? =some z/\x=V.int z:=by
   rw [De]at hx;cases e:l[i]? with
   |none=>rw [e]at hx;cases hx
   |some z=>rw [e]at hx;exact⟨z,rfl,(BQ hx).symm⟩
  obtain⟨wd,hw,rfl⟩: ∃wd,(Wf n)[i]? =some wd/\y=V.str wd:=by
   rw [De]at hy;cases e:(Wf n)[i]? with
   |none=>rw [e]at hy;cases hy
   |some z=>rw [e]at hy;exact⟨z,rfl,(BQ hy).symm⟩
  have s2:AQ H (upd H' TT (.tup [.int z,.str wd])):=s1.trans (AQ.new Qw);obtain⟨al,hv2,OR⟩:=yj n wd hn (FV hw);have ez:(l.take (i+1)).zip (Wf n)=(l.take i).zip (Wf n)++[(z,wd)]:=g9 hz hw;refine⟨TT,_,rfl,JV AZ,rfl,?_⟩;refine⟨_,_,rfl,_,_,rfl,rfl,_,rfl,.inr wd,_,rfl,rfl,hv2,?_⟩;have e1:Ev (Br (Ku K) (Aa 3) (tC (.int 0))) [some (.ref a),some (.int z),some (.str wd),some (.ref al)] (upd H' TT (.tup [.int z,.str wd])) (.int (Lf wd).1):=OE (AH rfl) AI (OR _) rfl;have e2:Ev (Br (Ku K) (Aa 3) (tC (.int 1))) [some (.ref a),some (.int z),some (.str wd),some (.ref al)] (upd H' TT (.tup [.int z,.str wd])) (.int (Lf wd).2):=OE (AH rfl) AI (OR _) rfl;refine IL (GD (Ac (CO (AH rfl) e1)) (Ac (CO (AH rfl) e2))) (fun g=>?_) (fun g=>?_)
  ·refine(?_:Q (.bl false) _);have hf:Bx Wf Lf n l=false:=by
    have hm:(z,wd)∈l.zip (Wf n):=FV (qI.mpr ⟨hz,hw⟩);unfold Bx;rw [AF3];refine⟨_,hm,fun c=>?_⟩;unfold Bv at c;simp only [BK,Hr,Bw]at c g;lia
   rw [hf]at q;exact q _ s2
  ·refine⟨s2,?_,_,_,_,rfl⟩;rw [ez,List.all_append,Af,GU,AGk,List.all_nil,B8];unfold Bv;simp only [Gv,Iu]at g;simp only [BK,Bw];lia
 ·rintro σ H' ⟨s1,Af,_⟩;refine(?_:Q (.bl true) _);rw [A5,Ip]at Af;have ht:Bx Wf Lf n l=true:=Af;rw [ht]at q;exact q _ s1
variable{R:Int->List Int}
def X3(K:Aj)(R:Int->List Int)(Jy:List (A8×V)):Prop:= ∀n,Hf n->(∃a,Az Jy (.inl n)=some (.ref a)/\ ∀H,B9 K H a ((R n).map V.int))\/(Az Jy (.inl n)=none/\R n=[])
def X3.get(h:X3 K R Jy)(hn:Hf n)(hp:H pe=none): ∃b,(Az Jy (.inl n)).getD (.ref pe)=.ref b/\B9 K (upd H pe (.tup [])) b ((R n).map V.int):=by
 rcases h n hn with⟨a,h1,h2⟩|⟨h1,h2⟩
 ·exact⟨a,by rw [h1];rfl,h2 _⟩
 ·exact⟨pe,by rw [h1];rfl,by rw [h2];exact JV AZ⟩
noncomputable def D9(R:Int->List Int)(n:Int)(xs:List (List Int)):Bool:=(xs.zip (R n)).all fun p=>decide ((p.1.length:Int)<=p.2)&&decide (p.1.length=(xs.headD []).length)
def yn(C:Addr)(K:Aj)(R:Int->List Int):Sp:=fun vs H Q _=> ∃(a:Addr)(n:Int)(l:List Int)(xs:List (List Int)),vs=[.ref a]/\LC C K H a n l xs/\Hf n/\xs.length=(R n).length/\ ∀H',AQ H H'->Q (.bl (D9 R n xs)) H'
def iC:mg "ROWS"=some (.ref aR):=rat 15 rfl
def iE:IG L2.P L2.w L2.K aR Jy:=Ng rfl (by kernel_rfl)
def iG(n:Nat):Bool:=match Az Jy (.inl n)with
 |some (.ref a)=>XD a (Rf n)
 |none=>decide (Rf n=[])
 |_=>false
def yo:X3 L2.K Rf Jy:=fun n hn=>by
 obtain⟨k,rfl⟩:=bh hn.1;have h:(Hl 28).all iG=true:=by kernel_rfl
 have h:=GS.mp h k (RD.mpr (by have :=hn.2;lia));unfold iG at h;split at h
 ·rename_i a e;exact .inl ⟨a,e,K3 h⟩
 ·rename_i e;exact .inr ⟨e,Au h⟩
 ·cases h
def iH:X3 L2.K Rf Jy:=yo
def yp:Df "has_fitting_rows" 1 ["call"] (yn CC K Rf):=by
 refine(AW 68 rfl).go ["call","row","longest"] ?_;rintro S _ _ _ _ _ _ H _ Q _ _ ⟨a,n,l,xs,rfl,hc,hn,hlen,q⟩;obtain⟨dx,nl,rl,h1,h2,as,h3,h4,h5⟩:=id hc;refine⟨_,(AJ (JD Gz rfl (eS (by rfl) X1 (AB (AR (pv 0) rfl) (AB (eR iE (F6 rfl iC) (AR (pv 0) rfl) (WV AL) ⟨rfl,rfl,rfl,rfl⟩) AL))) (WN rfl (NN (FF (i:=1) S rfl (Or.inl rfl)) (NN (FF (i:=2) S rfl (Or.inl rfl)) WM))) (Cj (Ag (PW.pt (Fb (AX Ef (Cf H_ (by rfl) FR FQ (pO 1)) (pv 2)) (Fn (AX L7 (Cf H_ (by rfl) FR FQ (pO 1)) (Cf H_ (by rfl) FR FQ (AB (AY Ah (AR (pv 0) rfl) AE) AL)))))) (pR L4) Ai))) (pR L4)),?_⟩;refine⟨_,rfl,a,CC,dx,_,_,rfl,h1,D8.cl,D8.rows,Xy,?_⟩;refine⟨rfl,_,rfl,a,CC,dx,_,_,rfl,h1,D8.cl,D8.number,Xx,by decide,fun pe Qx=>⟨.inl n,rfl,?_⟩⟩;have se:AQ H (upd H pe (.tup [])):=AQ.new Qx;obtain⟨br,Zt,U9⟩:=iH.get hn Qx;refine⟨rl,br,_,_,by rw [Zt],BL (se _ _ h3),U9,?_⟩;have Bp:(as.map V.ref).length<=((Rf n).map V.int).length:=by rw [A5,A5];lia
 refine gz Bp (fun i σ H'=>AQ (upd H pe (.tup [])) H'/\((xs.take i).zip (Rf n)).all (fun p=>decide ((p.1.length:Int)<=p.2)&&decide (p.1.length=(xs.headD []).length))=true/\ ∃z1 z2,σ=[some (.ref a),z1,z2]) ⟨KN _,rfl,_,_,rfl⟩ ?_ ?_ ?_
 ·rintro i σ H' _ ⟨s1,_⟩;exact⟨BL (s1 _ _ (se _ _ h3)),AQ.tup s1 U9⟩
 ·rintro i x y σ H' TT hx hy ⟨s1,Af,z1,z2,rfl⟩ Qw;obtain⟨ra,nL,rfl⟩: ∃z,as[i]? =some z/\x=V.ref z:=by
   rw [De]at hx;cases e:as[i]? with
   |none=>rw [e]at hx;cases hx
   |some z=>rw [e]at hx;exact⟨z,rfl,(BQ hx).symm⟩
  obtain⟨lg,nM,rfl⟩: ∃wd,(Rf n)[i]? =some wd/\y=V.int wd:=by
   rw [De]at hy;cases e:(Rf n)[i]? with
   |none=>rw [e]at hy;cases hy
   |some z=>rw [e]at hy;exact⟨z,rfl,(BQ hy).symm⟩
  have Jc:i<xs.length:=by have :=(Fi.mp nL).1;lia
  obtain⟨U_,Ob⟩: ∃r,xs[i]? =some r:=⟨_,FY Jc⟩;obtain⟨r0,OW⟩: ∃r,xs[0]? =some r:=⟨_,FY (by lia)⟩;obtain⟨Zu,nN⟩: ∃r,as[0]? =some r:=⟨_,FY (by lia)⟩;have e0:xs.headD []=r0:=by
   cases xs with
   |nil=>cases OW
   |cons u v=>exact BQ OW
  have s2:AQ (upd H pe (.tup [])) (upd H' TT (.tup [.ref ra,.int lg])):=s1.trans (AQ.new Qw);have s3:AQ H (upd H' TT (.tup [.ref ra,.int lg])):=se.trans s2;have ez:(xs.take (i+1)).zip (Rf n)=(xs.take i).zip (Rf n)++[(U_,lg)]:=g9 Ob nM;have AE6:=s3 _ _ (h5 i ra U_ nL Ob);have AE7:=s3 _ _ (h5 0 Zu r0 nN OW);refine⟨TT,_,rfl,JV AZ,rfl,?_⟩;refine⟨_,_,rfl,_,_,rfl,rfl,?_⟩;have EL:Ev (G3 (fun xs H Q=> ∃p ys,xs=[.ref p]/\(B0 K H p ys\/B9 K H p ys)/\Q (.int ys.length) H) (Ba (Aa 1) B3)) [some (.ref a),some (.ref ra),some (.int lg)] (upd H' TT (.tup [.ref ra,.int lg])) (.int U_.length):=
   EX (Nw.cons (AH rfl) Nw.nil) fun Q q=>⟨ra,_,rfl,.inl (BL AE6),by rw [A5];exact q⟩
  have EL0:Ev (G3 (fun xs H Q=> ∃p ys,xs=[.ref p]/\(B0 K H p ys\/B9 K H p ys)/\Q (.int ys.length) H) (Ba (Br (JG K) (BJ K (Aa 0) "rows") (tC (.int 0))) B3)) [some (.ref a),some (.ref ra),some (.int lg)] (upd H' TT (.tup [.ref ra,.int lg])) (.int r0.length):=
   EX (Nw.cons (Ek (Ax (AH rfl) (s3 _ _ h1) D8.cl D8.rows Xy) AI (BL (s3 _ _ h3)) (HQ (i:=0) (x:=V.ref Zu) (by rw [De,nN];rfl))) Nw.nil) fun Q q=>⟨Zu,_,rfl,.inl (BL AE7),by rw [A5];exact q⟩
  refine IL (GD (Ac (CO (tb:=Aa 2) (j:=lg) EL (AH rfl))) (Ac (Mh EL EL0))) (fun g=>?_) (fun g=>?_)
  ·refine(?_:Q (.bl false) _);have hf:D9 Rf n xs=false:=by
    have hm:(U_,lg)∈xs.zip (Rf n):=FV (qI.mpr ⟨Ob,nM⟩);unfold D9;rw [AF3];refine⟨_,hm,fun c=>?_⟩;rw [e0]at c;simp only [BK,Hr,Bw,pQ,Iu]at c g;lia
   rw [hf]at q;exact q _ s3
  ·refine⟨s2,?_,_,_,rfl⟩;rw [ez,List.all_append,Af,GU,AGk,List.all_nil,B8,e0];simp only [Gv,Iu,AF2,Bw]at g;simp only [BK,Bw];lia
 ·rintro σ H' ⟨s1,Af,_⟩;refine(?_:Q (.bl true) _);rw [A5,h4,Ip]at Af;have ht:D9 Rf n xs=true:=Af;rw [ht]at q;exact q _ (se.trans s1)
def yq(C:Addr)(K:Aj)(W:Int->List Str)(L:Str->Int×Int)(R:Int->List Int):Sp:=fun vs H Q _=> ∃(a:Addr)(n:Int)(l:List Int)(xs:List (List Int)),vs=[.ref a]/\LC C K H a n l xs/\Hf n/\l.length=(W n).length/\xs.length=(R n).length/\ ∀H',AQ H H'->Q (.bl (Bx W L n l&&D9 R n xs)) H'
def yr:Df "is_as_told" 2 ["call"] (yq CC K Wf Lf Rf):=by
 refine(AW 69 rfl).go ["call"] ?_;rintro _ _ _ _ _ _ _ H _ Q _ hr ⟨a,n,l,xs,rfl,hc,hn,hlen,AE8,q⟩;refine⟨_,(pR (L5 (pD hr ym (pO 0)) (HM (pD hr yp (pO 0))))),?_⟩;refine⟨_,rfl,a,n,l,xs,rfl,hc,hn,hlen,fun H1 s1=>⟨_,rfl,?_⟩⟩;refine D6 (fun g=>?_) (fun g=>?_)
 ·refine⟨_,rfl,a,n,l,xs,rfl,hc.same s1,hn,AE8,fun H2 s2=>?_⟩;rw [g,GU]at q;exact q _ (s1.trans s2)
 ·rw [g,RG]at q;exact q _ s1
end
noncomputable def total(xs:List (List Int)):Nat:=(xs.map fun x=>1+x.length).sum
def iI: ∀{k:Nat}{s t:List Int}{xs:List (List Int)},Iv k s=some (xs,t)->t=s.drop (total xs)/\total xs<=s.length
 |0,s,t,xs,h=>by
  unfold Iv at h;injection h with h
  injection h with h1 h2
  subst h1 h2;exact⟨rfl,DM _⟩
 |k+1,s,t,xs,h=>by
  obtain⟨x,s1,ys,h1,h2,rfl⟩:=Xw h;obtain⟨n,r,rfl,n0,nl,rfl,rfl⟩:=gy h1;obtain⟨e1,e2⟩:=iI h2;have ht:total (r.take n.toNat::ys)=1+n.toNat+total ys:=by
   unfold total;rw [Fj,bj,DV,Ou nl]
  rw [D1]at e2;refine⟨?_,by rw [ht,BU];lia⟩;rw [ht,e1,HJ,show 1+n.toNat+total ys=(n.toNat+total ys)+1 by lia,AF4]
def iJ(h:V3 sh s=some (c,t)): ∃p r n k xs,s=p::r/\sh p=some (n,k)/\n<=r.length/\Iv k (r.drop n)=some (xs,t)/\c=(p::r.take n)::xs:=by
 cases s with
 |nil=>cases h
 |cons p r=>
  unfold V3 at h;dsimp only at h;cases hs:sh p with
  |none=>rw [hs]at h;cases h
  |some y=>
   obtain⟨n,k⟩:=y;rw [hs]at h;dsimp only at h;by_cases hl:r.length<n
   ·rw [AG hl]at h;cases h
   ·rw [AD hl]at h;cases hr:Iv k (r.drop n)with
    |none=>rw [hr]at h;cases h
    |some z=>
     obtain⟨xs,t'⟩:=z;rw [hr]at h;dsimp only at h;injection h with h
     injection h with h1 h2
     subst h2;exact⟨p,r,n,k,xs,rfl,hs,by lia,hr,h1.symm⟩
def yt(h:Hv sh f (p::r)=some cs): ∃g c t ds,V3 sh (p::r)=some (c,t)/\Hv sh g t=some ds/\cs=c::ds:=by
 cases f with
 |zero=>cases h
 |succ g=>
  unfold Hv at h;cases h1:V3 sh (p::r)with
  |none=>rw [h1]at h;cases h
  |some y=>
   obtain⟨c,t⟩:=y;rw [h1]at h;dsimp only at h;cases h2:Hv sh g t with
   |none=>rw [h2]at h;cases h
   |some ds=>
    rw [h2]at h;injection h with h
    exact⟨g,c,t,ds,rfl,h2,h.symm⟩
def yu:Hv sh f []=some []:=by cases f<;>rfl
def Tf(C:Addr)(K:Aj)(H:Hp)(a:Addr)(c:List (List Int)):Prop:= ∃n l xs,c=(n::l)::xs/\LC C K H a n l xs
def Tf.same{K:Aj}(h:Tf C K H a c)(e:AQ H H'):Tf C K H' a c:=by
 obtain⟨n,l,xs,h1,h2⟩:=h;exact⟨n,l,xs,h1,h2.same e⟩
def yw(C:Addr)(K:Aj)(H:Hp)(p:Addr)(cs:List (List (List Int))):Prop:= ∃as:List Addr,H p=some (.lst (as.map V.ref))/\as.length=cs.length/\ ∀(i:Nat)(a:Addr)(c:List (List Int)),as[i]? =some a->cs[i]? =some c->Tf C K H a c
section
variable{C:Addr}
def yx(hL:Gi K H l xs)(hl:Ev tl σ H (.ref l))(hz:xs.length<=8000)
 (hk:k<σ.length)(Zg: ∀(H':Hp)(A_:L2.St)(a:Addr)(x:List Int),A_[k]? =some (some (.ref a))->H' a=some (.lst (x.map V.int))->Ev te A_ H' (.int ((1+x.length:Nat):Int)))
 (q: ∀D H',AQ H H'->H' D=some (.lst (xs.map fun x=>V.int ((1+x.length:Nat):Int)))->Q (.ref D) H'):R6 (WO K tl) (HN k) Wq te [k] σ H Q:=by
 obtain⟨as,h1,h2,h3⟩:=hL;refine hl _ ⟨l,rfl,⟨_,BL h1⟩,fun D hD=>?_⟩;refine Wr (xs:=as.map V.ref) (fun i H'=>AQ H H'/\H' D=some (.lst ((xs.take i).map fun x=>V.int ((1+x.length:Nat):Int)))) ⟨AQ.new hD,AZ⟩ (fun i H' _ p=>BL (p.1 _ _ h1)) ?_ ?_
 ·rintro i y H' hi ⟨s1,hd⟩;obtain⟨a,ha,rfl⟩: ∃a,as[i]? =some a/\y=V.ref a:=by
   rw [De]at hi;cases e:as[i]? with
   |none=>rw [e]at hi;cases hi
   |some a=>rw [e]at hi;exact⟨a,rfl,(BQ hi).symm⟩
  obtain⟨x,hx⟩: ∃x,xs[i]? =some x:=by
   have :=(Fi.mp ha).1;exact⟨_,FY (by lia)⟩
  have hp:=s1 _ _ (h3 i a x ha hx);refine⟨?_,?_⟩
  ·show((σ.set k none).set k (some (V.ref a))).set k none=σ.set k none;rw [RV,RV]
  ·refine Zg H' _ a x ?_ hp _ ⟨_,hd,?_,?_⟩
   ·show((σ.set k none).set k (some (V.ref a)))[k]? =_;rw [RV,My hk]
   ·rw [A5,DV];exact Cb (oy _ _) (Cb hz dd)
   ·refine⟨fun b o e=>?_,?_⟩
    ·rw [BC (D4 e hD)];exact s1 b o e
    ·have e1:xs.take (i+1)=xs.take i++[x]:=by rw [M9,hx];rfl
     rw [AZ,e1,Jm];rfl
 ·rintro H' ⟨s1,hd⟩;have e:(as.map V.ref).length=xs.length:=by rw [A5];exact h2
  rw [e,Ip]at hd;exact q D H' s1 hd
def yy(xs:List (List Int)):(xs.map fun x=>((1+x.length:Nat):Int)).sum=(total xs:Int):=by
 unfold total
 induction xs with
 |nil=>rfl
 |cons x xs ih=>
  rw [Fj,bj,ih,Fj,bj];lia
variable{W:Int->List Str}{R:Int->List Int}{sh:Int->Option (Nat×Nat)}
def yz(W:Int->List Str)(R:Int->List Int)(sh:Int->Option (Nat×Nat)):Prop:= ∀n nn kk,sh n=some (nn,kk)->Hf n/\(W n).length=nn/\kk<=2/\(R n).length=kk
def y6(C:Addr)(K:Aj)(sh:Int->Option (Nat×Nat)):Sp:=fun vs H Q _=> ∃(a:Addr)(l:List Int)(f:Nat)(cs:List (List (List Int))),vs=[.ref a]/\QC K H a l/\l.length<=8000/\Hv sh f l=some cs/\cs.length<=8000/\
 ∀H' p,yw C K (nw H H') p cs->AQ H H'->Q (.ref p) H'
def AGY [Decidable p](h:(if p then a else b)=x):(p/\a=x)\/(¬p/\b=x):=by
 by_cases c:p
 ·rw [AG c]at h;exact .inl ⟨c,h⟩
 ·rw [AD c]at h;exact .inr ⟨c,h⟩
def X4:yz Wf Rf Fm:=by
 intro n nn kk h;have hk:Hf n:=by
  by_cases c:0<=n/\n<=27
  ·exact c
  ·unfold Fm at h
   iterate 28 rw [AD (by lia)]at h
   cases h
 refine⟨hk,?_⟩;obtain⟨m,rfl⟩: ∃m:Nat,n=(m:Int):=⟨n.toNat,by have :=hk.1;lia⟩;have hm:m<28:=by have :=hk.2;lia
 have ha:((Hl 28).all fun m=>match Fm m with
  |some (a,b)=>decide ((Wf m).length=a/\b<=2/\(Rf m).length=b)
  |none=>true)=true:=by decide+kernel
 have :=GS.mp ha m (RD.mpr hm);rw [h]at this;exact Au this
def y8:mg "sum"=none:=rat 16 rfl
def y9:Df "read_calls" 3 ["calls"] (y6 CC K Fm):=by
 refine(AW 70 rfl).go ["calls","found","place","number","behind","rows","row"] ?_;rintro S _ _ _ _ _ _ H _ Q _ hr ⟨a,l,f,cs,rfl,hl,hz,OS,hc8,q⟩;refine⟨_,(AJ (pS 1 S (Ay AL)) (AJ (pS 2 S AE) (AJ (O7 Gz (AX Fo (pv 2) (Cf H_ (by rfl) FR FQ (pO 0))) (AJ (pS 3 S (AY Ah (pv 0) (pv 2))) (AJ (pS 4 S (AK BX (AK BX (pv 2) AE) (Cf H_ (by rfl) FR FQ (AB (Nc hZ (F6 rfl hY) (pv 3) (fun _ _=>rfl)) AL)))) (AJ (pS 5 S (pD hr yT (pW 0 (pW 4 (AB (Cf H_ (by rfl) FR FQ (AB (eR iE (F6 rfl iC) (pv 3) (WV AL) ⟨rfl,rfl,rfl,rfl⟩) AL)) AL))))) (AJ (Kr (Fp bZ ah qH Wd (pv 1) (AB (pC hr yc (pW 3 (AB (Jw dR (pv 0) (F5 (AK BX (pv 2) AE)) (F5 (pv 4))) (pO 5)))) AL))) (Cj (pS 2 S (AK BX (pv 4) (Cf (sR rfl) (by rfl) y8 yU (AB (PR (own:=[("row",6)]) rfl S (NP (pv 5)) (by show Kv ["calls","found","place","number","behind","rows","row"] (Cw (top 84)) _ _;exact⟨rfl,by decide+kernel,by decide+kernel,by decide+kernel,by decide+kernel⟩) (fun _ _ _ _ _=>FF (i:=6) S rfl (Or.inl rfl)) (fun _ _ _ _ _=>PQ) (fun _ _ _ _ _=>by exact(AK BX AE (Cf (uF rfl) (by rfl) FR FQ (pO 6))))) AL)))))))))) (pR (pv 1))))),?_⟩;refine⟨by decide,fun p hp=>?_⟩;refine BD AI ?_;refine PB (fun σ H'=>AQ H H'/\ ∃(j i g:Nat)(as:List Addr)(z1 z2 z3 z4:Option V),σ=[some (.ref a),some (.ref p),some (.int (i:Int)),z1,z2,z3,z4]/\j<=cs.length/\
  Hv Fm g (l.drop i)=some (cs.drop j)/\H' p=some (.lst (as.map V.ref))/\as.length=j/\ ∀(m:Nat)(b:Addr)(c:List (List Int)),as[m]? =some b->cs[m]? =some c->Tf CC K (nw (upd H p (.lst [])) H') b c)
  (fun (σ:L2.St) (_:Hp)=>match σ[2]? with
    |some (some (V.int i))=>l.length-i.toNat
    |_=>0) ⟨AQ.new hp,0,0,f,[],none,none,none,none,rfl,DM _,OS,AZ,rfl,fun m b x h=>by cases h⟩ ?_ ?_
 ·rintro σ H' ⟨s1,j,i,g,as,z1,z2,z3,z4,rfl,hj,EE,En,hlen,ED⟩;refine⟨_,rfl,_,rfl,a,_,rfl,.inl (hl.same s1),_,_,rfl,rfl,?_⟩;refine⟨_,rfl,J0 (fun c=>?_) (fun c=>?_)⟩
  ·have Jc:i<l.length:=by rw [A5]at c;lia
   have e0:l.drop i=l[i]::l.drop (i+1):=qJ Jc;rw [e0]at EE;obtain⟨g2,c1,t,ds,hc1,Dc,nO⟩:=yt EE;obtain⟨n,r,nn,kk,xs,e1,Lb,Qy,KS,rfl⟩:=iJ hc1;injection e1 with e1 e2
   subst e2;obtain⟨VA,Mr,nP,AE9⟩:=X4 n nn kk Lb;obtain⟨at_,hv,hT,ZQ⟩:=h_ n VA;have hi:l[i]? =some n:=by rw [<-e1];exact FY Jc
   have Oa:DX (l.map V.int) (i:Int)=some (.int n):=HQ (by rw [De,hi];rfl);rw [D1]at Qy;rw [HJ]at KS;refine BD (Ek (AH rfl) (AH rfl) (hl.same s1) Oa) ?_;refine⟨_,rfl,_,_,rfl,rfl,_,rfl,.inl n,_,rfl,rfl,hv,at_,_,rfl,.inr (hT _),_,_,rfl,rfl,?_⟩;have eb:(i:Int)+1+(((Wf n).map V.str).length:Int)=((i+1+nn:Nat):Int):=by rw [A5,Mr];lia
   dsimp only;rw [eb];refine⟨_,rfl,_,rfl,rfl,_,rfl,by decide,fun pe Qx=>⟨.inl n,rfl,?_⟩⟩;have se:AQ H' (upd H' pe (.tup [])):=AQ.new Qx;obtain⟨br,Zt,U9⟩:=iH.get VA Qx;refine⟨br,(Rf n).map V.int,by rw [Zt],.inr U9,?_⟩;rw [A5,AE9];refine⟨a,l,i+1+nn,kk,xs,t,rfl,hl.same (s1.trans se),hz,by lia,KS,fun H1 pr AE_ Zv=>?_⟩;have s2:AQ H' H1:=se.trans Zv;have hpr:Gi K (nw H' H1) pr xs:=AE_.same (QD (fun b hb=>se.free hb) fun _ _ _ z=>z);refine⟨_,rfl,.inl ⟨rfl,_,BL (s2 _ _ En)⟩,?_⟩;refine⟨_,rfl,_,rfl,_,rfl,_,_,rfl,rfl,_,rfl,_,rfl,_,rfl,a,_,rfl,(hl.same s1).same s2,fun b hb=>?_⟩;have ec:Kt (l.map V.int) (some ((i:Int)+1)) (some ((i+1+nn:Nat):Int))=((l.drop (i+1)).take nn).map V.int:=by
    have :=gx l (i+1) (i+1+nn) (by lia) (by lia);rw [show i+1+nn-(i+1)=nn by lia]at this;rw [<-this];congr 2
   dsimp only;rw [ec];refine⟨_,rfl,fun x dx nx nd ne=>⟨x,dx,n,b,pr,rfl,AZ,fun H2 ex kp=>⟨rfl,?_⟩⟩⟩;have s3:=Qb nx nd kp;have s4:AQ H1 (upd H1 b (.lst (((l.drop (i+1)).take nn).map V.int))):=AQ.new hb;have E7:H2 p=some (.lst (as.map V.ref)):=s3 _ _ (s4 _ _ (s2 _ _ En));have xp:x≠p:=fun z=>by rw [z,s4 _ _ (s2 _ _ En)]at nx;cases nx
   have bp:b≠p:=fun z=>by rw [z,s2 _ _ En]at hb;cases hb
   have fr: ∀c,H' c=none->upd H p (.lst []) c=none:=fun c hc=>by
    have :c≠p:=fun z=>by rw [z,En]at hc;cases hc
    rw [BC this];exact s1.free hc
   refine⟨p,_,_,rfl,rfl,E7,?_,?_⟩
   ·rw [A5];have :sizeLine=16777216:=rfl;lia
   refine⟨_,rfl,?_⟩;have VB: ∀c o,c≠p->H2 c=some o->upd H2 p (.lst (as.map V.ref++[.ref x])) c=some o:=fun c o hc h=>by rw [BC hc];exact h
   have Ob:Gi K (nw H' (upd H2 p (.lst (as.map V.ref++[.ref x])))) pr xs:=hpr.same (QD (fun _ z=>z) fun c o z1 z2=>VB c o (fun z=>by rw [z,En]at z1;cases z1) (s3 _ _ (s4 _ _ z2)));dsimp only [G3,Ba,B3];refine yx (xs:=xs) (Ob.same Xu) ?_ ?_ ?_ ?_ ?_
   ·exact AH rfl
   ·rw [Te KS];lia
   ·show 6<7;decide
   ·intro H4 A_ a2 x2 h1 h2 Q' k';refine⟨_,h1,a2,_,rfl,.inl (BL h2),_,_,rfl,rfl,?_⟩;rw [A5];have :(1:Int)+(x2.length:Int)=((1+x2.length:Nat):Int):=by lia
    show Q' (V.int ((1:Int)+(x2.length:Int))) H4;rw [this];exact k'
   ·intro D H4 s5 hD;refine⟨D,xs.map fun x=>((1+x.length:Nat):Int),rfl,BL (by rw [hD,Ir];rfl),?_⟩;obtain⟨nQ,tt2⟩:=iI KS;rw [D1]at tt2;rw [HJ]at nQ;have es:((i+1+nn:Nat):Int)+(xs.map fun x=>((1+x.length:Nat):Int)).sum=((i+1+nn+total xs:Nat):Int):=by rw [yy];lia
    refine⟨_,_,rfl,rfl,?_⟩;dsimp only [HN];rw [es];have up: ∀c o,c≠p->H' c=some o->H4 c=some o:=fun c o hc z=>s5 _ _ (VB c o hc (s3 _ _ (s4 _ _ (s2 _ _ z))))
    have nR:cs[j]? =some ((n::(l.drop (i+1)).take nn)::xs):=by
     have :(cs.drop j)[0]? =some ((n::(l.drop (i+1)).take nn)::xs):=by rw [nO];rfl
     rw [bf]at this;exact this
    have hjl:j<cs.length:=(Fi.mp nR).1;refine⟨⟨?_,j+1,i+1+nn+total xs,g2,as++[x],some (.int n),some (.int ((i+1+nn:Nat):Int)),some (.ref pr),z4,rfl,hjl,?_,?_,?_,?_⟩,?_⟩
    ·intro c o e;exact up c o (fun z=>by rw [z,hp]at e;cases e) (s1 _ _ e)
    ·have ed:cs.drop (j+1)=ds:=by
      have :(cs.drop j).drop 1=ds:=by rw [nO];rfl
      rw [HJ]at this;exact this
     rw [ed,<-nQ];exact Dc
    ·rw [s5 _ _ AZ,Jm];rfl
    ·rw [CD];simp only [BU,Cu];lia
    ·intro m d c h1 h2;rcases HG m j with o|o|o
     ·rw [VV (by lia)]at h1;refine(ED m d c h1 h2).same (QD (fun _ z=>z) fun c' o' z1 z2=>up c' o' (fun z=>?_) z2);rw [z,AZ]at z1;cases z1
     ·rw [o,VU (by lia),show j-as.length=0 by lia]at h1;cases h1;rw [o,nR]at h2;cases h2;refine⟨n,_,xs,rfl,dx,b,pr,?_,?_,?_⟩
      ·exact(MQ (fr x (s2.free (s4.free nx)))).trans (s5 _ _ (VB x _ xp ex))
      ·exact(MQ (fr b (s2.free hb))).trans (s5 _ _ (VB b _ bp (s3 _ _ AZ)))
      ·exact Ob.same (QD fr fun c' o' _ z=>s5 _ _ z)
     ·rw [ao (by rw [CD];simp only [BU,Cu];lia)]at h1;cases h1
    ·show l.length-((i+1+nn+total xs:Nat):Int).toNat <l.length-(i:Int).toNat;lia
  ·have Jc:l.length<=i:=by rw [A5]at c;lia
   rw [List.drop_eq_nil_of_le Jc,yu]at EE;have :cs.drop j=[]:=(BQ EE).symm;have Zp:cs.length<=j:=List.drop_eq_nil_iff.mp this;refine⟨_,rfl,?_⟩;exact q H' p ⟨as,(MQ hp).trans En,by lia,fun m b x h1 h2=>(ED m b x h1 h2).same (QD (fun b hb=>(AQ.new hp).free hb) fun _ _ _ z=>z)⟩ s1
 ·rintro σ H' Q1 Q2 h ⟨v1,r1,v2,r2,p1,Zr,e1,e2,i,j,e3,e4,b,e5,k⟩;exact⟨v1,r1,v2,r2,p1,Zr,e1,e2,i,j,e3,e4,b,e5,h _ _ k⟩
end
def y_(x:Int)(n:Nat):D0 x ((2^n-1:Nat):Int)=x%((2^n:Nat):Int):=by
 have hp:=BR n;rcases Gx x 0 with h|h
 ·obtain⟨k,rfl⟩: ∃k:Nat,x= -((k:Int)+1):=⟨(-x-1).toNat,by lia⟩;have e1:decide (0<= -((k:Int)+1))=false:=Bh (by lia);have e2:decide ((0:Int)<=((2^n-1:Nat):Int))=true:=Bi (by lia);have e3:(RH (-((k:Int)+1))).toNat=k:=by
   show(- -((k:Int)+1)-1).toNat=k;lia
  unfold D0;rw [e1,e2];dsimp only;rw [e3,Am,Nat.and_comm,AFk];have hm:=Dg k hp;have hd:=Gy k (2^n);generalize 2^n=p at *
  generalize k%p=r at *
  generalize k/p=d at *
  have e4: -((k:Int)+1)=((p-1:Nat):Int)-(r:Int)+(p:Int)*(-((d:Int)+1)):=by
   have e5:(p:Int)*(-((d:Int)+1))= -((p*d:Nat):Int)-p:=by rw [Int.mul_neg,Int.mul_add,Fl];lia
   rw [e5];lia
  rw [e4,Int.add_mul_emod_self_left,Int.emod_eq_of_lt (by lia) (by lia)]
 ·obtain⟨k,rfl⟩: ∃k:Nat,x=(k:Int):=⟨x.toNat,by lia⟩;rw [Ny,qC]
def Tg(t:Nat):8<=Cp t/\Cp t<=128:=by
 unfold Cp;split
 ·lia
 ·split
  ·lia
  ·split
   ·lia
   ·split<;>lia
section
variable{C:Addr}
def iK:Sp:=fun vs H Q _=> ∃t:Int,vs=[.int t]/\(0<=t/\t<=9)/\Q (.int (Cp t.toNat:Nat)) H
def QF:Df "width" 1 ["sort"] iK:=by
 refine(AW 71 rfl).go ["sort"] ?_;rintro _ _ _ _ _ _ _ H _ Q _ _ ⟨t,rfl,ht,q⟩;refine⟨_,(pR (AK DF AE (AK FK (pv 0) AE))),?_⟩;refine EU ((BS AI (BS (AH rfl) AI S9) (⟨by lia,by lia,by decide⟩:MD 8 (t/2))).to (congrArg V.int ?_)) q;have :t=0\/t=1\/t=2\/t=3\/t=4\/t=5\/t=6\/t=7\/t=8\/t=9:=by lia
 rcases this with e|e|e|e|e|e|e|e|e|e<;>subst e<;>decide
def iL:Sp:=fun vs H Q _=> ∃t:Int,vs=[.int t]/\(0<=t/\t<=9)/\Q (.bl (Dt t.toNat)) H
def iM:Df "has_sign" 1 ["sort"] iL:=by
 refine(AW 72 rfl).go ["sort"] ?_;rintro _ _ _ _ _ _ _ H _ Q _ _ ⟨t,rfl,ht,q⟩;refine⟨_,(pR (C0 Ae (AK Jv (pv 0) AE) AE)),?_⟩;refine EU ((An (BS (AH rfl) AI (by show(0:Int) <2;decide)) AI).to (congrArg V.bl ?_)) q;unfold Dt;show decide (t%2=0)=decide (t.toNat%2=0);exact Cd.mpr (by lia)
def Ev.width(ht:0<=t/\t<=9)(h:Ev te σ H (.int t)):Ev (DE iK [] E0 (Ba te B3)) σ H (.int (Cp t.toNat:Nat)):=Ev.df (Nw.cons h Nw.nil) fun Q q=>⟨t,rfl,ht,q⟩
def lx(ht:0<=t/\t<=9)(h:Ev te σ H (.int t)):Ev (DE iL [] E0 (Ba te B3)) σ H (.bl (Dt t.toNat)):=Ev.df (Nw.cons h Nw.nil) fun Q q=>⟨t,rfl,ht,q⟩
def iN:Sp:=fun vs H Q _=> ∃t:Int,vs=[.int t]/\(0<=t/\t<=9)/\Q (.int (Jo (Cp t.toNat) (Dt t.toNat))) H
def iO:Df "least" 2 ["sort"] iN:=by
 refine(AW 73 rfl).go ["sort"] ?_;rintro _ _ _ _ _ _ _ H _ Q _ hr ⟨t,rfl,ht,q⟩;refine⟨_,(pR (Bq (Bz (pD hr iM (pO 0))) (Eu FG (AK DF AE (AK BP (pD hr QF (pO 0)) AE))) AE)),?_⟩;have wb:=Tg t.toNat;refine EU (B5 (Ej (lx ht (AH rfl))) (fun e=>?_) (fun e=>?_)) q
 ·refine(Ev.un (BS AI (A1 (Ev.width ht (AH rfl)) AI) (Np ⟨by lia,by lia⟩))).to (congrArg V.int ?_);unfold Jo;rw [AG e,Hq,show((Cp t.toNat:Int)-1).toNat=Cp t.toNat-1 by lia,Gu];rfl
 ·refine AI.to (congrArg V.int ?_);unfold Jo;rw [AD (by rw [e];decide)]
def iP:Sp:=fun vs H Q _=> ∃t:Int,vs=[.int t]/\(0<=t/\t<=9)/\Q (.int (HK (Cp t.toNat) (Dt t.toNat))) H
def X5:Df "greatest" 2 ["sort"] iP:=by
 refine(AW 74 rfl).go ["sort"] ?_;rintro _ _ _ _ _ _ _ H _ Q _ hr ⟨t,rfl,ht,q⟩;refine⟨_,(pR (Bq (Bz (pD hr iM (pO 0))) (pD hr Fv (AB (AK BP (pD hr QF (pO 0)) AE) AL)) (pD hr Fv (AB (pD hr QF (pO 0)) AL)))),?_⟩;have wb:=Tg t.toNat;refine EU (B5 (Ej (lx ht (AH rfl))) (fun e=>?_) (fun e=>?_)) q
 ·refine(OG (n:=Cp t.toNat-1) ((A1 (Ev.width ht (AH rfl)) AI).to (congrArg V.int (by lia))) (by lia)).to (congrArg V.int ?_);unfold HK;rw [AG e]
 ·refine(OG (n:=Cp t.toNat) (Ev.width ht (AH rfl)) (by lia)).to (congrArg V.int ?_);unfold HK;rw [AD (by rw [e];decide)]
def ly(ht:0<=t/\t<=9)(h:Ev te σ H (.int t)):Ev (DE iN [] E0 (Ba te B3)) σ H (.int (Jo (Cp t.toNat) (Dt t.toNat))):=Ev.df (Nw.cons h Nw.nil) fun Q q=>⟨t,rfl,ht,q⟩
def ZC(ht:0<=t/\t<=9)(h:Ev te σ H (.int t)):Ev (DE iP [] E0 (Ba te B3)) σ H (.int (HK (Cp t.toNat) (Dt t.toNat))):=Ev.df (Nw.cons h Nw.nil) fun Q q=>⟨t,rfl,ht,q⟩
def zC:Sp:=fun vs H Q _=> ∃t v:Int,vs=[.int t,.int v]/\(0<=t/\t<=9)/\A3 v/\Q (.int (Ov (Cp t.toNat) (Dt t.toNat) v.toNat)) H
def iQ(hW:1<=W):Ov W s v=if HK W s< ((v%2^W:Nat):Int)then((v%2^W:Nat):Int)-1*2^W else((v%2^W:Nat):Int):=by
 have hl:=Dg v (BR W);have e:2^W=2*2^(W-1):=by rw [<-Nat.pow_succ'];congr 1;lia
 have p:=BR (W-1);have e2:(1*2^W:Int)=((2^W:Nat):Int):=by rw [Hq,Gu];rfl
 unfold Ov HK;rw [e2];cases s with
 |true=>
  simp only [true_and,E8];by_cases c:2^(W-1)<=v%2^W
  ·rw [AG c,AG (by lia)]
  ·rw [AD c,AD (by lia)]
 |false=>
  simp only [Jh,false_and,GQ];rw [AD (by lia)]
def zD:Df "as_sort" 3 ["sort","v"] zC:=by
 refine(AW 75 rfl).go ["sort","v","low"] ?_;rintro S _ _ _ _ _ _ H _ Q _ hr ⟨t,v,rfl,ht,hv,q⟩;have wb:=Tg t.toNat;obtain⟨n,rfl⟩: ∃n:Nat,v=(n:Int):=⟨v.toNat,by have :=hv.1;lia⟩;rw [Am,iQ (by lia)]at q;refine⟨_,(AJ (pS 2 S (AK EH (pv 1) (pD hr Fv (AB (pD hr QF (pO 0)) AL)))) (pR (Bq (AX Ef (pv 2) (pD hr X5 (pO 0))) (AK BP (pv 2) (AK DF AE (pD hr QF (pO 0)))) (pv 2)))),?_⟩;refine BD ((A1 (AH rfl) (OG (Ev.width ht (AH rfl)) (by lia))).to (v':=.int ((n%2^Cp t.toNat:Nat):Int)) (congrArg V.int (Ny _ _))) ?_;refine EU (B5 (Ac (CO (AH rfl) (ZC ht (AH rfl)))) (fun e=>?_) (fun e=>?_)) q
 ·refine(A1 (AH rfl) (BS AI (Ev.width ht (AH rfl)) (Np ⟨CI _,by lia⟩))).to (congrArg V.int ?_);rw [AG (Au e),Am]
 ·refine(AH rfl).to (congrArg V.int ?_);rw [AD (BA e)]
def Th:Sp:=fun vs H Q _=> ∃t v m:Int,vs=[.int t,.int v,.int m]/\(0<=t/\t<=9)/\A3 v/\(0<=m/\m<=4)/\ ∀H' l,A2 H' l (Qu.fromWhole m.toNat t.toNat v.toNat)->AQ H H'->Q (.ref l) H'
def zH:Qu.ofInt QUAD m z=Ds QUAD m (.fin (decide (z<0)) z.natAbs 0):=by
 unfold Qu.ofInt;by_cases h:z=0
 ·subst h;rfl
 ·rw [AD h,IP (by lia)]
def zI(hW:1<=W)(h:W<=128):(Ov W s v).natAbs <2^128:=by
 have hl:=Dg v (BR W);have e:2^W<=2^128:=QM.CG h;have e2:(1*2^W:Int)=((2^W:Nat):Int):=by rw [Hq,Gu];rfl
 rw [iQ hW,e2];have hh:(0:Int)<=HK W s:=by unfold HK;split<;>exact CI _
 split<;>lia
def zK:
 Df "of_whole" 8 ["sort","v","mode"] Th:=by
 refine(AW 76 rfl).go ["sort","v","mode","value"] ?_;rintro S _ _ _ _ _ _ H _ Q _ hr ⟨t,v,m,rfl,ht,hv,hm,q⟩;have wb:=Tg t.toNat;refine⟨_,(AJ (pS 3 S (pD hr zD (pW 0 (pO 1)))) (pR (pD hr G8 (AB (pD hr Fe (AB (Bq (AX Fo (pv 3) AE) AE AE) (AB (Cf Rz (by rfl) S8 S7 (pO 3)) (AB AE AL)))) (pO 2))))),?_⟩;refine BD (Ev.df (Nw.cons (AH rfl) (Nw.cons (AH rfl) Nw.nil)) fun Q q=>⟨t,v,rfl,ht,hv,q⟩) ?_;have hb:=zI (s:=Dt t.toNat) (v:=v.toNat) (W:=Cp t.toNat) (by lia) (by lia);have q': ∀H' l,A2 H' l (Ds QUAD m.toNat (.fin (decide (Ov (Cp t.toNat) (Dt t.toNat) v.toNat<0)) (Ov (Cp t.toNat) (Dt t.toNat) v.toNat).natAbs 0))->AQ H H'->Q (.ref l) H':=fun H' l h s=>q H' l (by
  unfold Qu.fromWhole;rw [zH];exact h) s
 generalize Ov (Cp t.toNat) (Dt t.toNat) v.toNat=z at hb q'⊢;refine(B5 (v:=.int (sg (decide (z<0)))) (Ac (CO (AH rfl) AI)) (fun e=>by rw [e];exact AI) (fun e=>by rw [e];exact AI):Ev _ _ _ _) _ ?_;refine(EX (r:=.int z.natAbs) (Nw.cons (AH rfl) Nw.nil) fun Q q=>⟨z,rfl,by
  have :(if z<0 then -z else z)=(z.natAbs:Int):=by split<;>lia
  rw [this];exact q⟩:Ev _ _ _ _) _ ?_
 refine⟨_,_,_,rfl,C7 _,CI _,fun H1 p hp s1=>?_⟩;rw [CL,Am]at hp;exact⟨_,rfl,p,_,m,rfl,hp,fun hz=>⟨by lia,A9 (Cg hb) dd,by decide,by decide⟩,hm,fun H2 l h2 s2=>q' H2 l h2 (s1.trans s2)⟩
def zM:Sp:=fun vs H Q _=> ∃v:Int,vs=[.int v]/\Q (.int (V4 128 v:Nat)) H
def iR:Df "modulo" 2 ["value"] zM:=by
 refine(AW 77 rfl).go ["value"] ?_;rintro _ _ _ _ _ _ _ H _ Q _ hr ⟨v,rfl,q⟩;refine⟨_,(pR (AK EH (pv 0) (pD hr Fv (AB AE AL)))),?_⟩;refine EU ((A1 (AH rfl) (OG (n:=128) AI dd)).to (congrArg V.int ?_)) q;show D0 v ((2^128-1:Nat):Int)=_;rw [y_];unfold V4;rw [FA (Int.emod_nonneg _ (by have :=BR 128;lia))]
def zN:Sp:=fun vs H Q _=> ∃(t:Int)(b:Bool),vs=[.int t,.bl b]/\(0<=t/\t<=9)/\ ∀H' l,A2 H' l (V4 128 (if b=true then Jo (Cp t.toNat) (Dt t.toNat)else HK (Cp t.toNat) (Dt t.toNat)),16)->AQ H H'->Q (.ref l) H'
def X6:Df "beyond" 3 ["sort","is_below"] zN:=by
 refine(AW 78 rfl).go ["sort","is_below"] ?_;rintro _ _ _ _ _ _ _ H _ Q _ hr ⟨t,b,rfl,ht,q⟩;refine⟨_,(pR (Ay (AB (pD hr iR (AB (Bq (Bz (pv 1)) (pD hr iO (pO 0)) (pD hr X5 (pO 0))) AL)) (AB (pG P2) AL)))),?_⟩;refine(B5 (v:=.int (if b=true then Jo (Cp t.toNat) (Dt t.toNat)else HK (Cp t.toNat) (Dt t.toNat))) (Ej (b:=b) (AH rfl)) (fun e=>by rw [e];exact ly ht (AH rfl)) (fun e=>by rw [e];exact ZC ht (AH rfl)):Ev _ _ _ _) _ ?_;exact⟨_,rfl,dz,fun l hl=>q _ l AZ (AQ.new hl)⟩
def Ti:Sp:=fun vs H Q _=> ∃t a m:Int,vs=[.int t,.int a,.int m]/\(0<=t/\t<=9)/\A3 a/\(0<=m/\m<=4)/\ ∀H' l,A2 H' l (Qu.toWhole m.toNat t.toNat a.toNat)->AQ H H'->Q (.ref l) H'
def zO:
 Df "to_whole" 6 ["sort","a","mode"] Ti:=by
 refine(AW 79 rfl).go ["sort","a","mode","number","size","value"] ?_;rintro S _ _ _ _ _ _ H _ Q _ hr ⟨t,a,m,rfl,ht,ba,hm,q⟩;refine⟨_,(AJ (pS 3 S (pD hr DS (pO 1))) (AJ (Ag (Bz (pD hr K9 (pO 3))) (pR (pD hr X6 (pW 0 (AB L4 AL)))) Ai) (AJ (Ag (AX Ae (AR (pv 3) rfl) (pG D7)) (pR (pD hr X6 (pW 0 (AB (C0 Ae (AR (pv 3) rfl) AE) AL)))) Ai) (AJ (pS 4 S (pD hr Sz (AB (AR (pv 3) rfl) (AB (AR (pv 3) rfl) (AB (AR (pv 3) rfl) (AB AE (pO 2))))))) (AJ (pS 5 S (Bq (AX Ae (AR (pv 3) rfl) AE) (Eu FG (pv 4)) (pv 4))) (AJ (Ag (PW.pt (Fb (AX Fo (pv 5) (pD hr iO (pO 0))) (Fn (AX Ef (pv 5) (pD hr X5 (pO 0)))))) (pR (pD hr X6 (pW 0 (AB (C0 Fo (pv 5) AE) AL)))) Ai) (pR (Ay (AB (pD hr iR (pO 5)) (AB (Bq (Bz (pD hr XU (AB (AR (pv 3) rfl) (AB (AR (pv 3) rfl) (AB AE AL))))) AE (pG P1)) AL)))))))))),?_⟩;refine⟨_,rfl,a,rfl,ba,fun H1 p hp s1=>?_⟩;have qx:QN (AU QUAD a.toNat):=QM.FO _;have q': ∀H' l,A2 H' l (V4 128 (Qu.toInt m.toNat (Cp t.toNat) (Dt t.toNat) (AU QUAD a.toNat)).1,(Qu.toInt m.toNat (Cp t.toNat) (Dt t.toNat) (AU QUAD a.toNat)).2)->AQ H1 H'->Q (.ref l) H':=fun H' l h s=>q H' l h (s1.trans s)
 generalize AU QUAD a.toNat=x at hp qx q';obtain⟨dx,k,s,z,e,Jd,hx⟩:=id hp;refine⟨_,rfl,p,x,rfl,hp,_,rfl,D6 (fun c=>?_) (fun c=>?_)⟩
 ·cases x with
  |nan b=>exact⟨_,rfl,t,false,rfl,ht,q'⟩
  |inf n=>cases c
  |fin n mm pp=>cases c
 ·have kx: ∀σ:L2.St,σ[3]? =some (some (.ref p))->Ev (BJ K (Aa 3) "kind") σ H1 (.int k):=fun σ h=>Ax (AH h) Jd AN.cl AN.kind C3
  have sx: ∀σ:L2.St,σ[3]? =some (some (.ref p))->Ev (BJ K (Aa 3) "sign") σ H1 (.int s):=fun σ h=>Ax (AH h) Jd AN.cl AN.sign DR
  have zx: ∀σ:L2.St,σ[3]? =some (some (.ref p))->Ev (BJ K (Aa 3) "size") σ H1 (.int z):=fun σ h=>Ax (AH h) Jd AN.cl AN.size EV
  have ex: ∀σ:L2.St,σ[3]? =some (some (.ref p))->Ev (BJ K (Aa 3) "power") σ H1 (.int e):=fun σ h=>Ax (AH h) Jd AN.cl AN.power DQ
  refine Bf (Ac (An (kx _ rfl) AI)) (fun c2=>?_) (fun c2=>?_)
  ·have c2:k=2:=Au c2;cases x with
   |nan b=>cases c
   |inf n=>
    refine⟨_,rfl,?_⟩;refine(An (sx _ rfl) AI:Ev _ _ _ _) _ ?_;have e1:decide (s=1)=n:=by rw [hx.2];exact CL n
    rw [e1];exact⟨t,n,rfl,ht,q'⟩
   |fin n mm pp=>
    rw [hx.1]at c2;split at c2<;>cases c2
  ·have c2:k≠2:=BA c2;cases x with
   |nan b=>cases c
   |inf n=>exact absurd hx.1 c2
   |fin n mm pp=>
    obtain⟨k1,k2,k3,k4⟩:=hx;subst k2 k3 k4;have q1:=qx.1;have q2:=qx.2;have bz:Aq (mm:Int)<=113:=Cg q1;refine BD (Ev.df (r:=.int ((rounded m.toNat n (ratioAt mm 1 e 0):Nat):Int)) (Nw.cons (sx _ rfl) (Nw.cons (zx _ rfl) (Nw.cons (ex _ rfl) (Nw.cons AI (Nw.cons (AH rfl) Nw.nil))))) fun Q q=>⟨_,_,_,_,_,rfl,C7 n,⟨CI _,by lia⟩,⟨by lia,by lia⟩,hm,by rw [CL,Am];exact q⟩) ?_;have Oc: ∀H' l,A2 H' l (let zz:Int:=if n=true then -((rounded m.toNat n (ratioAt mm 1 e 0):Nat):Int)else((rounded m.toNat n (ratioAt mm 1 e 0):Nat):Int)
     let y:=if zz<Jo (Cp t.toNat) (Dt t.toNat)then(Jo (Cp t.toNat) (Dt t.toNat),16)else if HK (Cp t.toNat) (Dt t.toNat) <zz then(HK (Cp t.toNat) (Dt t.toNat),16)else(zz,if(ratioAt mm 1 e 0).2=0 then 0 else 1)
     (V4 128 y.1,y.2))->AQ H1 H'->Q (.ref l) H':=q'
    clear q' q;generalize hR:rounded m.toNat n (ratioAt mm 1 e 0)=rr at Oc⊢;refine BD (v:=.int (if n=true then -(rr:Int)else(rr:Int))) (B5 ((Ac (An (sx _ rfl) AI)).to (CL n)) (fun e=>by rw [e];exact Ev.un (AH rfl)) (fun e=>by rw [e];exact AH rfl)) ?_;generalize (if n=true then -(rr:Int)else(rr:Int))=zz at Oc⊢;dsimp only at Oc;have hlh:Jo (Cp t.toNat) (Dt t.toNat)<=0/\0<=HK (Cp t.toNat) (Dt t.toNat):=by
     unfold Jo HK;have pw:=BR (Cp t.toNat-1);constructor
     ·generalize 2^(Cp t.toNat-1)=X at *
      split<;>lia
     ·split<;>exact CI _
    refine Bf (GD (Ac (CO (AH rfl) (ly ht (AH rfl)))) (Ac (CO (AH rfl) (ZC ht (AH rfl))))) (fun c3=>?_) (fun c3=>?_)
    ·refine⟨_,rfl,?_⟩;refine(CO (AH rfl) AI:Ev _ _ _ _) _ ?_;refine⟨t,_,rfl,ht,fun H' l h s=>Oc H' l ?_ s⟩;simp only [Hr,Bw]at c3;by_cases c4:zz<Jo (Cp t.toNat) (Dt t.toNat)
     ·rw [AG c4];rw [Bi (show zz<0 by lia),AG rfl]at h;exact h
     ·rw [AD c4,AG (by lia)];rw [Bh (show ¬zz<0 by lia),AD dd]at h;exact h
    ·simp only [Gv,Iu]at c3;rw [AD c3.1,AD c3.2]at Oc;refine⟨_,rfl,zz,rfl,?_⟩;refine(B5 (v:=.int ((if(ratioAt mm 1 e 0).2=0 then 0 else 1:Nat):Int)) (Ej (Ev.df (r:=.bl (decide ((ratioAt mm 1 e 0).2=0))) (Nw.cons (zx _ rfl) (Nw.cons (ex _ rfl) (Nw.cons AI Nw.nil))) fun Q q=>⟨_,_,_,rfl,CI _,by lia,by rw [Am];exact q⟩)) (fun e=>by rw [AG (Au e)];exact AI) (fun e=>by rw [AD (BA e)];exact AI):Ev _ _ _ _) _ ?_;exact⟨dz,fun l hl=>Oc _ l AZ (AQ.new hl)⟩
end
end Q3
namespace QM
open Qu
def X7{s t:Acc}(h1:s.terms=t.terms)(h2:s.sum=t.sum)(h3:s.pos=t.pos)(h4:s.neg=t.neg)(h5:s.nan=t.nan)(h6:s.invalid=t.invalid)(h7:s.allNeg=t.allNeg)(h8:s.allPos=t.allPos):s=t:=by
 cases s;cases t;simp_all
def Dk(x:Num):Acc:=Et.put x
def Tj(s:Acc)(x:Num):s.put x=s.merge (Dk x):=by
 cases x with
 |nan q=>apply X7<;>simp [Acc.put,Acc.merge,Dk,Et]
 |inf n=>apply X7<;>simp [Acc.put,Acc.merge,Dk,Et]
 |fin n a e=>apply X7<;>simp [Acc.put,Acc.merge,Dk,Et,Bool.and_assoc]
structure JM(s:Acc)(seen:Nat):Prop where
 lt:seen<128
 pos:s.pos=seen.testBit 3
 neg:s.neg=seen.testBit 4
 nan:s.nan=seen.testBit 5
 inv:s.invalid=seen.testBit 6
 allPos:s.allPos=decide (seen=0\/seen=1)
 allNeg:s.allNeg=decide (seen=0\/seen=2)
 zero:s.terms=0↔seen=0
 VC:s.invalid=true->s.nan=true
def zP: ∀a,a<128-> ∀b,b<128->decide (a|||b=0\/a|||b=1)=(decide (a=0\/a=1)&&decide (b=0\/b=1)):=by decide+kernel
def zQ: ∀a,a<128-> ∀b,b<128->decide (a|||b=0\/a|||b=2)=(decide (a=0\/a=2)&&decide (b=0\/b=2)):=by decide+kernel
def zR: ∀a,a<128-> ∀b,b<128->(a|||b=0↔a=0/\b=0):=by decide+kernel
def zS(h:JM s a)(g:JM t b):JM (s.merge t) (a|||b) where
 lt:=Nat.or_lt_two_pow (n:=7) h.lt g.lt
 pos:=by rw [bo,<-h.pos,<-g.pos];rfl
 neg:=by rw [bo,<-h.neg,<-g.neg];rfl
 nan:=by rw [bo,<-h.nan,<-g.nan];rfl
 inv:=by rw [bo,<-h.inv,<-g.inv];rfl
 allPos:=by rw [zP a h.lt b g.lt,<-h.allPos,<-g.allPos];rfl
 allNeg:=by rw [zQ a h.lt b g.lt,<-h.allNeg,<-g.allNeg];rfl
 zero:=by
  rw [zR a h.lt b g.lt,<-h.zero,<-g.zero];show s.terms+t.terms=0↔_;lia
 VC:=by
  show(s.invalid||t.invalid)=true->(s.nan||t.nan)=true;rw [Hr,Hr];rintro(q|q)
  ·exact .inl (h.VC q)
  ·exact .inr (g.VC q)
noncomputable def seenOf:Num->Nat
 |.nan q=>if q=true then 96 else 32
 |.inf n=>if n=true then 16 else 8
 |.fin n a _=>if a=0 then(if n=true then 2 else 1)else 4
def zT(x:Num):JM (Dk x) (seenOf x):=by
 cases x with
 |nan q=>cases q<;>exact⟨by decide,rfl,rfl,rfl,rfl,rfl,rfl,by decide,by decide⟩
 |inf n=>cases n<;>exact⟨by decide,rfl,rfl,rfl,rfl,rfl,rfl,by decide,by decide⟩
 |fin n a e=>
  by_cases h:a=0
  ·subst h;cases n
   ·have e1:seenOf (.fin false 0 e)=1:=rfl;rw [e1];exact⟨by decide,by show false=_;decide,by show false=_;decide,by show false=_;decide,by show false=_;decide,rfl,rfl,(show(0+1:Nat)=0↔(1:Nat)=0 by decide),fun z=>z⟩
   ·have e1:seenOf (.fin true 0 e)=2:=rfl;rw [e1];exact⟨by decide,by show false=_;decide,by show false=_;decide,by show false=_;decide,by show false=_;decide,rfl,rfl,(show(0+1:Nat)=0↔(2:Nat)=0 by decide),fun z=>z⟩
  ·have e1:seenOf (.fin n a e)=4:=by show(if a=0 then(if n=true then 2 else 1)else 4)=4;rw [AD h]
   rw [e1];have h2:(a==0)=false:=by rw [KY];exact h
   refine⟨by decide,rfl,rfl,rfl,rfl,?_,?_,(show(0+1:Nat)=0↔(4:Nat)=0 by decide),fun z=>z⟩
   ·show(true&&a==0&& !n)=_;rw [h2];rfl
   ·show(true&&a==0&&n)=_;rw [h2];rfl
def zU:JM Et 0:=⟨by decide,rfl,rfl,rfl,rfl,rfl,rfl,by decide,by decide⟩
def zV: ∀s,s<128->((0<s&&& 64↔s.testBit 6=true)/\(s&&& 24=24↔(s.testBit 3&&s.testBit 4)=true)/\(0<s&&& 32↔s.testBit 5=true)/\(0<s&&& 24↔(s.testBit 3||s.testBit 4)=true)/\(s.testBit 3=false->(s&&& 24=16↔s.testBit 4=true))/\(s.testBit 4=false->s&&& 24≠16)):=by decide+kernel
noncomputable def Nz(seen:Nat)(m:Mode):Bool:=if seen=0\/seen=1 then false else if seen=2 then true else m==2
def zW(h:JM s seen):
 s.get QUAD m=if 0<seen&&& 64\/seen&&& 24=24 then invalid QUAD
  else if 0<seen&&& 32 then(QUAD.canonical,0)
  else if 0<seen&&& 24 then inf QUAD (decide (seen&&& 24=16))
  else if s.sum=0 then zero QUAD (Nz seen m)
  else round QUAD m (decide (s.sum<0)) (ratio s.sum.natAbs 1 UNIT2):=by
 obtain⟨b1,b2,b3,b4,b5,b6⟩:=zV seen h.lt;rw [<-h.inv]at b1;rw [<-h.pos,<-h.neg]at b2 b4;rw [<-h.nan]at b3;rw [<-h.pos,<-h.neg]at b5;rw [<-h.neg]at b6;simp only [b1,b2,b3,b4];unfold Acc.get;have hi:=h.VC;cases GN:s.invalid with
 |true=>
  rw [GN]at hi;simp [hi rfl,invalid]
 |false=>
  cases hp:s.pos with
  |true=>
   cases hn:s.neg with
   |true=>simp [invalid]
   |false=>
    cases ha:s.nan with
    |true=>simp
    |false=>
     rw [hn]at b6;have :=b6 rfl;simp [this]
  |false=>
   cases hn:s.neg with
   |true=>
    cases ha:s.nan with
    |true=>simp
    |false=>
     rw [hp,hn]at b5;have :=(b5 rfl).mpr rfl;simp [this]
   |false=>
    cases ha:s.nan with
    |true=>simp
    |false=>
     simp only [Bool.or_self,Bool.and_self,Jh,GQ,false_or,or_self];have hz:(if s.terms=0 then false else if s.allNeg=true then true else if s.allPos=true then false else m==2)=Nz seen m:=by
      unfold Nz;rw [h.allNeg,h.allPos];by_cases z:seen=0
      ·rw [AG (h.zero.mpr z),AG (.inl z)]
      ·rw [AD (fun q=>z (h.zero.mp q))];by_cases z1:seen=1
       ·simp [z1]
       ·by_cases z2:seen=2
        ·simp [z2]
        ·simp [z,z1,z2]
     rw [hz]
end QM
namespace Q3
open PySem PySem.Spec PyProof.Rows L2
open Qu (Fmt Num restOf ratioAt rounded QUAD Acc)
open QM (Bo BI QN JM Dk seenOf)
def X8(a b:Nat):Lj (a:Int) (b:Int)=((a|||b:Nat):Int):=by
 have e: ∀n:Nat,RH (n:Int)= -((n:Int)+1):=fun n=>by show -(n:Int)-1=_;lia
 have e2: ∀n:Nat,RH (-((n:Int)+1))=(n:Int):=fun n=>by show -(-((n:Int)+1))-1=_;lia
 have d: ∀n:Nat,decide (0<= -((n:Int)+1))=false:=fun n=>Bh (by lia)
 unfold Lj;rw [e,e];unfold D0;rw [d,d];dsimp only;rw [e2,e2,Am,Am,e,e2]
def X9(a b:Nat):D0 (a:Int) (b:Int)=((a&&& b:Nat):Int):=by
 unfold D0;rw [Bi (CI a),Bi (CI b)];dsimp only;rw [Am,Am]
noncomputable def SF(t x s:Int):List (Str×V):=C6 "seen" (.int s) (C6 "total" (.int x) (C6 "terms" (.int t) []))
def X_:(SF t x s).lookup ("seen":Str)=some (.int s):=by
 unfold SF;rw [DJ,AG rfl]
def YA:(SF t x s).lookup ("total":Str)=some (.int x):=by
 unfold SF;rw [DJ,AD (by decide+kernel),DJ,AG rfl]
def YB:(SF t x s).lookup ("terms":Str)=some (.int t):=by
 unfold SF;rw [DJ,AD (by decide+kernel),DJ,AD (by decide+kernel),DJ,AG rfl]
noncomputable def QG(_:Unit):Nat:=2^66000
structure MR(s:Acc)(seen:Nat):Prop where
 seen:JM s seen
 most:s.terms<=4294967295
 size:s.sum.natAbs<=s.terms*QG ()
def Dy(C:Addr)(H:Hp)(a:Addr)(s:Acc):Prop:= ∃(dx:Addr)(seen:Nat),H a=some (.ins C dx (SF (s.terms:Nat) s.sum (seen:Nat)))/\MR s seen
def Dy.same(h:Dy C H a s)(e:AQ H H'):Dy C H' a s:=by
 obtain⟨dx,seen,h1,h2⟩:=h;exact⟨dx,seen,e _ _ h1,h2⟩
def zX{n t T:Nat}(h:n<=t*2^T)(ht:t<2^32):Aq (n:Int)<=T+32:=by
 refine Cg (Cb h ?_);rw [Ap,Ar (2^T)];exact Lq ht (BR T)
def zY{s:Acc}{seen:Nat}(h:MR s seen):Aq (s.sum.natAbs:Int)<=66032:=by
 have h1:=h.size;unfold QG at h1;exact zX h1 (by have :=h.most;have e:2^32=4294967296:=dd;lia)
structure zZ(K:Aj)(C:Addr):Prop where
 cl:F4 K C
 terms:FH K C "terms"
 total:FH K C "total"
 seen:FH K C "seen"
abbrev iS:Stmt:=FD (top 137) 0
def Tn(C:Addr):Sp:=fun vs H Q _=> ∃p dx t x s,vs=[.ref p,.int t,.int x,.int s]/\H p=some (.ins C dx [])/\
 ∀H':Hp,H' p=some (.ins C dx (SF t x s))->(∀b o,H b=some o->b≠p->H' b=some o)->Q .BZ H'
abbrev QH:List Str:=["self","terms","total","seen"]
def YC{C:Addr}{H:Hp}{x dx:Addr}{t z s:Int}{R:Hp->Prop}(nx:H x=none)(nd:H dx=none)(ne:dx≠x)(h: ∀H',H' x=some (.ins C dx (SF t z s))->AQ H H'->R H'):
 Tn C [.ref x,.int t,.int z,.int s] (upd (upd H dx (.own x)) x (.ins C dx [])) (fun v H2=>v=.BZ/\R H2) E0:=
 ⟨x,dx,t,z,s,rfl,AZ,fun H' e1 kp=>⟨rfl,h H' e1 (Qb nx nd kp)⟩⟩
def za:MR Et 0:=⟨QM.zU,DM _,DM _⟩
def N0(x:Num):Prop:=match x with
 |.fin _ a e=>a<2^226/\ -32988<=e/\e<=32600
 |_=>True
def YD:bq= -32988:=by decide
def zc{a T U:Nat}(h:a<2^T):a*2^U<=2^(T+U):=by
 rw [Ap];exact B2 _ (KZ h)
def zd(h:N0 x):MR (Dk x) (seenOf x):=by
 refine⟨QM.zT x,?_,?_⟩
 ·cases x<;>exact(by decide:0+1<=4294967295)
 ·cases x with
  |nan q=>exact DM _
  |inf n=>exact DM _
  |fin n a e=>
   obtain⟨h1,h2,h3⟩:=h;show(0+Ed n a e bq).natAbs<=(0+1)*QG ();rw [bw,Jl,B1,YD];have e1:(Ed n a e (-32988)).natAbs=a*2^(e- -32988).toNat:=by
    unfold Ed;split
    ·rw [Int.natAbs_neg,Ht]
    ·rw [Ht]
   rw [e1];refine A9 (zc h1) ?_;unfold QG;exact QM.CG (by lia)
def ze(h:MR s a)(g:MR t b)(hm:s.terms+t.terms<=4294967295):MR (s.merge t) (a|||b):=by
 refine⟨QM.zS h.seen g.seen,hm,?_⟩;have h1:=h.size;have h2:=g.size;show(s.sum+t.sum).natAbs<=(s.terms+t.terms)*QG ();rw [D3];lia
section
variable{C:Addr}
def zf:IC L2.K "__init__" "Sum.__init__" iS Po Se:=K2 (by kernel_rfl)
def D_:zZ L2.K CS:=⟨SS (by kernel_rfl),II (by kernel_rfl),II (by kernel_rfl),II (by kernel_rfl)⟩
def zg:mg "Sum"=some (.ref CS):=rat 2 rfl
def zh:Mk L2.K CS Po:=SU (by kernel_rfl)
def zi:Binds L2.K Se QH []:=MG (by kernel_rfl)
def zj:C_ Fq 1 Po Se QH (Tn CS):=by
 have S:Bj QH QH (Cw iS):=fS;refine zf.ok S (by rintro _ _ _ _ ⟨_,_,_,_,_,rfl,_⟩;rfl) (fun _ _ _ _ s H vs Q E hr h=>?_);obtain⟨p,dx,t,x,s,rfl,hp,q⟩:=h;refine⟨_,(AJ (Hz (pv 0) (pv 1) rfl) (AJ (Hz (pv 0) (pv 2) rfl) (Cj (Hz (pv 0) (pv 3) rfl)))),?_⟩;refine⟨_,rfl,_,rfl,p,CS,dx,_,rfl,hp,D_.cl,D_.terms,dd,_,rfl,_,rfl,p,CS,dx,_,rfl,AZ,D_.cl,D_.total,Cb (G7 _ _ _) dd,
  _,rfl,_,rfl,p,CS,dx,_,rfl,AZ,D_.cl,D_.seen,Cb (G7 _ _ _) (Cb (M7 (G7 _ _ _)) dd),?_⟩
 exact q _ AZ fun b o e hb=>by rw [BC hb,BC hb,BC hb];exact e
def MS:Cl "Sum" CS 1 QH (Tn CS):=⟨zg,Po,Se,zh,zj,zi⟩
def zk(CS:Addr):Sp:=fun vs H Q _=>vs=[]/\ ∀H' a,Dy CS H' a Et->H a=none->AQ H H'->Q (.ref a) H'
def MT:Df "no_terms" 3 [] (zk CS):=by
 refine(AW 80 rfl).go [] ?_;rintro _ _ _ _ _ _ _ H _ Q _ hr ⟨rfl,q⟩;refine⟨_,(pR (pC hr MS (AB AE (AB AE (AB AE AL))))),?_⟩;exact fun x dx nx nd ne=>YC nx nd ne fun H' e1 s1=>q H' x ⟨dx,0,e1,za⟩ nx s1
def zm(C CS:Addr):Sp:=fun vs H Q _=> ∃a x,vs=[.ref a]/\BY C H a x/\N0 x/\ ∀H' p,Dy CS H' p (Dk x)->AQ H H'->Q (.ref p) H'
def YE:B_ mg "NAN" 32:=CV 21 rfl
def iT:B_ mg "RAISING" 64:=CV 22 rfl
def YF:B_ mg "PLUS_INFINITY" 8:=CV 23 rfl
def iU:B_ mg "PLUS_ZERO" 1:=CV 24 rfl
def zo:B_ mg "OTHER_THAN_ZERO" 4:=CV 25 rfl
def iV:B_ mg "LOWEST" (-32988):=CV 26 rfl
def To:Df "one_term" 3 ["number"] (zm CP CS):=by
 refine(AW 81 rfl).go ["number"] ?_;rintro _ _ _ _ _ _ _ H _ Q _ hr ⟨a,x,rfl,hp,ht,q⟩;obtain⟨dx,k,s,z,e,ha,hx⟩:=id hp;refine⟨_,(AJ (Ag (AX Ae (AR (pv 0) rfl) (pG J1)) (pR (pC hr MS (AB AE (AB AE (AB (AK JE (pG YE) (pG iT)) AL))))) Ai) (AJ (Ag (AX Ae (AR (pv 0) rfl) (pG Nr)) (pR (pC hr MS (AB AE (AB AE (AB (pG YE) AL))))) Ai) (AJ (Ag (AX Ae (AR (pv 0) rfl) (pG D7)) (pR (pC hr MS (AB AE (AB AE (AB (AK DF (pG YF) (AR (pv 0) rfl)) AL))))) Ai) (AJ (Ag (AX Ae (AR (pv 0) rfl) (pG Hb)) (pR (pC hr MS (AB AE (AB AE (AB (AK DF (pG iU) (AR (pv 0) rfl)) AL))))) Ai) (pR (pC hr MS (AB AE (AB (pD hr Xh (pW 0 (AB (pG iV) AL))) (AB (pG zo) AL))))))))),?_⟩;have kx: ∀σ:L2.St,σ[0]? =some (some (.ref a))->Ev (BJ K (Aa 0) "kind") σ H (.int k):=fun σ h=>Ax (AH h) ha AN.cl AN.kind C3
 have sx: ∀σ:L2.St,σ[0]? =some (some (.ref a))->Ev (BJ K (Aa 0) "sign") σ H (.int s):=fun σ h=>Ax (AH h) ha AN.cl AN.sign DR
 have fin: ∀(x0 Fz:Addr)(Zx:Int)(sn:Nat),(Dk x).terms=1->(Dk x).sum=Zx->seenOf x=sn->H x0=none->H Fz=none->Fz≠x0->Tn CS [.ref x0,.int 1,.int Zx,.int (sn:Int)] (upd (upd H Fz (.own x0)) x0 (.ins CS Fz [])) (fun v H2=>v=.BZ/\Q (.ref x0) H2) E0:=fun x0 Fz Zx sn h1 h2 h3 nx nd ne=>
  YC nx nd ne fun H' e1 s1=>q H' x0 ⟨Fz,sn,by rw [h1,h2];exact e1,by rw [<-h3];exact zd ht⟩ s1
 refine Bf ((Ac (An (kx _ rfl) AI)).to (Nu hx)) (fun h1=>?_) (fun h1=>?_)
 ·cases x with
  |nan b=>
   have hb:b=true:=h1;subst hb;exact⟨_,_,rfl,rfl,fun x0 Fz nx nd ne=>fin x0 Fz 0 96 rfl rfl rfl nx nd ne⟩
  |inf n=>cases h1
  |fin n m p=>cases h1
 ·refine Bf (Ac (An (kx _ rfl) AI)) (fun h2=>?_) (fun h2=>?_)
  ·have h2:k=3:=Au h2;cases x with
   |nan b=>
    have hb:b=false:=h1;subst hb;exact fun x0 Fz nx nd ne=>fin x0 Fz 0 32 rfl rfl rfl nx nd ne
   |inf n=>rw [hx.1]at h2;cases h2
   |fin n m p=>rw [hx.1]at h2;split at h2<;>cases h2
  ·have h2:k≠3:=BA h2;refine Bf (Ac (An (kx _ rfl) AI)) (fun h3=>?_) (fun h3=>?_)
   ·have h3:k=2:=Au h3;cases x with
    |nan b=>
     have hb:b=false:=h1;subst hb;exact absurd hx.1 h2
    |inf n=>
     have hs:=hx.2;subst hs;refine(BS AI (sx _ rfl) (by cases n<;>exact⟨by decide,by decide,by decide⟩):Ev _ _ _ _) _ ?_;have e1:(8*2^(sg n).toNat:Int)=((if n=true then 16 else 8:Nat):Int):=by cases n<;>decide
     dsimp only;rw [e1];exact fun x0 Fz nx nd ne=>fin x0 Fz 0 _ rfl rfl rfl nx nd ne
    |fin n m p=>rw [hx.1]at h3;split at h3<;>cases h3
   ·have h3:k≠2:=BA h3;cases x with
    |nan b=>
     have hb:b=false:=h1;subst hb;exact absurd hx.1 h2
    |inf n=>exact absurd hx.1 h3
    |fin n m p=>
     obtain⟨k1,k2,k3,k4⟩:=hx;subst k2 k3 k4;refine Bf (Ac (An (kx _ rfl) AI)) (fun h4=>?_) (fun h4=>?_)
     ·have h4:k=0:=Au h4;have m0:m=0:=by
       rcases Dq m with y|y
       ·exact y
       ·rw [k1,AD (by lia)]at h4;cases h4
      subst m0;refine(BS AI (sx _ rfl) (by cases n<;>exact⟨by decide,by decide,by decide⟩):Ev _ _ _ _) _ ?_;have e1:(1*2^(sg n).toNat:Int)=((if n=true then 2 else 1:Nat):Int):=by cases n<;>decide
      dsimp only;rw [e1];refine fun x0 Fz nx nd ne=>fin x0 Fz 0 _ rfl ?_ rfl nx nd ne
      show 0+Ed n 0 e bq=0;unfold Ed;rw [Jk];cases n<;>rfl
     ·have h4:k≠0:=BA h4;have m0:m≠0:=fun y=>h4 (by rw [k1,AG y])
      obtain⟨t1,t2,t3⟩:=id ht;refine⟨_,rfl,a,n,m,e,-32988,rfl,hp,A9 (Cg t1) dd,t2,by lia,?_⟩;refine fun x0 Fz nx nd ne=>fin x0 Fz _ 4 rfl ?_ ?_ nx nd ne
      ·show 0+Ed n m e bq=_;rw [bw,YD]
      ·show(if m=0 then(if n=true then 2 else 1)else 4)=4;rw [AD m0]
def QN.term(h:QN x):N0 x:=by
 cases x with
 |nan b=>trivial
 |inf n=>trivial
 |fin n m e=>
  have h1:=h.1;have h2:=h.2;exact⟨Io h1 (QM.Ha dd),by lia,by lia⟩
def zp(h:QN x)(g:QN y):N0 (GV x y):=by
 cases x with
 |nan b=>cases y<;>trivial
 |inf n=>
  cases y with
  |nan b=>trivial
  |inf m=>trivial
  |fin m b e=>
   show N0 (if b=0 then .nan true else .inf (n !=m));split<;>trivial
 |fin n a d=>
  cases y with
  |nan b=>trivial
  |inf m=>
   show N0 (if a=0 then .nan true else .inf (n !=m));split<;>trivial
  |fin m b e=>
   have h1:=h.1;have h2:=h.2;have g1:=g.1;have g2:=g.2;refine⟨?_,by lia,by lia⟩;have e1:2^226=2^113*2^113:=by rw [<-Ap]
   rw [e1];rcases Dq b with z|z
   ·rw [z,Vm];exact BN (BR _) (BR _)
   ·exact AF5 h1 (KZ g1) (by lia)
def zq(CS:Addr):Sp:=fun vs H Q _=> ∃a,vs=[.int a]/\A3 a/\ ∀H' p,Dy CS H' p (Dk (AU QUAD a.toNat))->AQ H H'->Q (.ref p) H'
def iW:Df "number_term" 6 ["a"] (zq CS):=by
 refine(AW 82 rfl).go ["a"] ?_;rintro _ _ _ _ _ _ _ H _ Q _ hr ⟨a,rfl,ba,q⟩;refine⟨_,(pR (pD hr To (AB (pD hr DS (pO 0)) AL))),?_⟩;exact⟨_,rfl,a,rfl,ba,fun H1 p hp s1=>⟨p,_,rfl,hp,QN.term (QM.FO _),fun H2 l h2 s2=>q H2 l h2 (s1.trans s2)⟩⟩
def zr(CS:Addr):Sp:=fun vs H Q _=> ∃a b,vs=[.int a,.int b]/\A3 a/\A3 b/\ ∀H' p,Dy CS H' p (Dk (GV (AU QUAD a.toNat) (AU QUAD b.toNat)))->AQ H H'->Q (.ref p) H'
def iX:Df "product_term" 6 ["a","b"] (zr CS):=by
 refine(AW 83 rfl).go ["a","b","x","y"] ?_;rintro S _ _ _ _ _ _ H _ Q _ hr ⟨a,b,rfl,ba,bb,q⟩;refine⟨_,(AJ (pS 2 S (pD hr DS (pO 0))) (AJ (pS 3 S (pD hr DS (pO 1))) (AJ (Ag (PW.pt (Fb (Bz (pD hr Xk (pW 2 (pO 3)))) (Fb (AX Ae (AR (pv 2) rfl) (pG J1)) (Fn (AX Ae (AR (pv 3) rfl) (pG J1)))))) (pR (pD hr To (AB (pC hr IM (AB (pG J1) (AB AE (AB AE (AB AE AL))))) AL))) Ai) (AJ (Ag (Bz (pD hr J2 (AB (Ay (pW 2 (pO 3))) AL))) (pR (pD hr To (AB (pC hr IM (AB (pG Nr) (AB AE (AB AE (AB AE AL))))) AL))) Ai) (pR (pD hr To (AB (pD hr Xl (pW 2 (pO 3))) AL))))))),?_⟩;refine⟨_,rfl,a,rfl,ba,fun H1 px hx s1=>⟨_,rfl,b,rfl,bb,fun H2 py hy s2=>?_⟩⟩;have GL:=hx.same s2;have qx:QN (AU QUAD a.toNat):=QM.FO _;have qy:QN (AU QUAD b.toNat):=QM.FO _;have q': ∀H' p,Dy CS H' p (Dk (GV (AU QUAD a.toNat) (AU QUAD b.toNat)))->AQ H2 H'->Q (.ref p) H':=fun H' l h s=>q H' l h ((s1.trans s2).trans s)
 generalize AU QUAD a.toNat=x at hx GL qx q';generalize AU QUAD b.toNat=y at hy qy q';obtain⟨dx,k,s,z,e,ha,hkx⟩:=id GL;obtain⟨dy,k',s',z',e',hb,hky⟩:=id hy;have EI: ∀σ:L2.St,σ[2]? =some (some (.ref px))->σ[3]? =some (some (.ref py))->Ev (DE (gU CP) [] E0 (Ba (Aa 2) (Ba (Aa 3) B3))) σ H2 (.bl (Bo x y)):=fun σ i1 i2=>Ev.df (Nw.cons (AH i1) (Nw.cons (AH i2) Nw.nil)) fun Q q=>⟨px,py,x,y,rfl,GL,hy,q⟩
 refine Bf (GD (Ej (EI _ rfl rfl)) (GD ((Ac (An (Ax (AH rfl) ha AN.cl AN.kind C3) AI)).to (Nu hkx)) ((Ac (An (Ax (AH rfl) hb AN.cl AN.kind C3) AI)).to (Nu hky)))) (fun h1=>?_) (fun h1=>?_)
 ·have et:GV x y=.nan true:=by
   cases x with
   |nan p=>
    cases y with
    |nan r=>show Ec (p||r)=_;have :(false||(p||r))=true:=h1;rw [Im]at this;rw [this]
    |inf m=>show Ec (p||false)=_;have :(false||(p||false))=true:=h1;rw [Im]at this;rw [this]
    |fin m c d=>show Ec (p||false)=_;have :(false||(p||false))=true:=h1;rw [Im]at this;rw [this]
   |inf n=>
    cases y with
    |nan r=>show Ec (false||r)=_;have :(false||(false||r))=true:=h1;rw [Im]at this;rw [this]
    |inf m=>cases h1
    |fin m c d=>
     show(if c=0 then Ec true else .inf (n !=m))=_;have :(Bo (.inf n) (.fin m c d)||(false||false))=true:=h1;by_cases c0:c=0
     ·rw [AG c0]
     ·exfalso;rw [o3]at this;simp [Bo,c0]at this
   |fin n c d=>
    cases y with
    |nan r=>show Ec (false||r)=_;have :(false||(false||r))=true:=h1;rw [Im]at this;rw [this]
    |inf m=>
     show(if c=0 then Ec true else .inf (n !=m))=_;have :(Bo (.fin n c d) (.inf m)||(false||false))=true:=h1;by_cases c0:c=0
     ·rw [AG c0]
     ·exfalso;rw [o3]at this;simp [Bo,c0]at this
    |fin m c' d'=>cases h1
  rw [et]at q';exact fun p dp np nd ne=>P6 np nd ne fun H3 e1 s3=>⟨p,.nan true,rfl,⟨dp,4,0,0,0,e1,rfl,.inl rfl⟩,trivial,fun H4 l h4 s4=>q' H4 l h4 (s3.trans s4)⟩
 ·rw [Gv,Gv]at h1;refine⟨_,rfl,_,rfl,dz,fun l hl=>⟨l,[x,y],rfl,Mi AZ (GL.same (AQ.new hl)) (hy.same (AQ.new hl)),(by show 2<=1000;decide),fun H3 s3=>⟨_,rfl,D6 (fun h2=>?_) (fun h2=>?_)⟩⟩⟩
  ·have s4:AQ H2 H3:=(AQ.new hl).trans s3;have et:GV x y=.nan false:=by
    rw [LA]at h2;have e1:=h1.2.1;have e2:=h1.2.2;cases x with
    |nan p=>
     have :p=false:=e1;subst this;cases y with
     |nan r=>have :r=false:=e2;subst this;rfl
     |inf m=>rfl
     |fin m c d=>rfl
    |inf n=>
     cases y with
     |nan r=>have :r=false:=e2;subst this;rfl
     |inf m=>cases h2
     |fin m c d=>cases h2
    |fin n c d=>
     cases y with
     |nan r=>have :r=false:=e2;subst this;rfl
     |inf m=>cases h2
     |fin m c d=>cases h2
   rw [et]at q';exact fun p dp np nd ne=>P6 np nd ne fun H4 e1 s5=>⟨p,.nan false,rfl,⟨dp,3,0,0,0,e1,rfl,.inl rfl⟩,trivial,fun H5 l h5 s6=>q' H5 l h5 ((s4.trans s5).trans s6)⟩
  ·rw [LA]at h2;have s4:AQ H2 H3:=(AQ.new hl).trans s3;exact⟨_,rfl,_,rfl,px,py,x,y,rfl,GL.same s4,hy.same s4,h2,h1.1,IY qx,IY qy,fun H4 p hp s5=>⟨p,_,rfl,hp,zp qx qy,fun H5 l h5 s6=>q' H5 l h5 ((s4.trans s5).trans s6)⟩⟩
end
section
variable{C:Addr}
def zt(CS CT:Addr):Sp:=fun vs H Q E=> ∃(a b:Addr)(s t:Acc),vs=[.ref a,.ref b]/\Dy CS H a s/\Dy CS H b t/\(4294967295<s.terms+t.terms->E (.ref CT) none H)/\
 (s.terms+t.terms<=4294967295-> ∀H' p,Dy CS H' p (s.merge t)->AQ H H'->Q (.ref p) H')
def iY:Pb L2.K CT Bn HX Ky HY:=⟨by kernel_rfl,AF6⟩
def iZ:mg "TooMany"=some (.ref CT):=rat 17 rfl
def zu:B_ mg "MOST_TERMS" 4294967295:=CV 27 rfl
def YG:
 IH "together" 3 ["one","other"] (zt CS CT):=by
 have S:Bj ["one","other"] ["one","other"] (sc 142):=fS;refine OC (AW 84 rfl) S (fun vs H Q E h=>?_) (fun _ _ _ _ _ _ H vs Q E hr h=>?_)
 ·obtain⟨a,b,s,t,rfl,_⟩:=h;rfl
 ·obtain⟨a,b,s,t,rfl,⟨dx,sa,h1,o1⟩,⟨dy,sb,h2,o2⟩,qe,q⟩:=h;refine⟨_,(AJ (Ag (AX Ef (AK BX (AR (pv 0) rfl) (AR (pv 1) rfl)) (pG zu)) (Cj (W8 iY iZ rfl)) Ai) (pR (pC hr MS (AB (AK BX (AR (pv 0) rfl) (AR (pv 1) rfl)) (AB (AK BX (AR (pv 0) rfl) (AR (pv 1) rfl)) (AB (AK JE (AR (pv 0) rfl) (AR (pv 1) rfl)) AL)))))),?_⟩;have T1: ∀σ:L2.St,σ[0]? =some (some (.ref a))->Ev (BJ K (Aa 0) "terms") σ H (.int (s.terms:Nat)):=fun σ h=>Ax (AH h) h1 D_.cl D_.terms YB
  have T2: ∀σ:L2.St,σ[1]? =some (some (.ref b))->Ev (BJ K (Aa 1) "terms") σ H (.int (t.terms:Nat)):=fun σ h=>Ax (AH h) h2 D_.cl D_.terms YB
  refine Bf (Ac (CO (A1 (T1 _ rfl) (T2 _ rfl)) AI)) (fun c=>?_) (fun c=>?_)
  ·exact qe (by have :=Au c;lia)
  ·have hc:s.terms+t.terms<=4294967295:=by have :=BA c;lia
   refine(A1 (T1 _ rfl) (T2 _ rfl):Ev _ _ _ _) _ ?_;refine(A1 (Ax (AH rfl) h1 D_.cl D_.total YA) (Ax (AH rfl) h2 D_.cl D_.total YA):Ev _ _ _ _) _ ?_;refine(A1 (Ax (AH rfl) h1 D_.cl D_.seen X_) (Ax (AH rfl) h2 D_.cl D_.seen X_):Ev _ _ _ _) _ ?_;refine fun x Od nx nd ne=>YC nx nd ne fun H' e1 s1=>q hc H' x ⟨Od,sa|||sb,?_,ze o1 o2 hc⟩ s1
   rw [e1,X8];show some (HO.ins CS Od (SF ((s.terms:Int)+(t.terms:Int)) (s.sum+t.sum) ((sa|||sb:Nat):Int)))=some (HO.ins CS Od (SF ((s.terms+t.terms:Nat):Int) (s.sum+t.sum) ((sa|||sb:Nat):Int)));rw [M8]
def zv:Sp:=fun vs H Q _=> ∃(seen:Nat)(m:Int),vs=[.int (seen:Int),.int m]/\(0<=m/\m<=4)/\Q (.int (sg (QM.Nz seen m.toNat))) H
def zw:B_ mg "MINUS_ZERO" 2:=CV 28 rfl
def z_:Df "zero_sign" 1 ["seen","mode"] zv:=by
 refine(AW 85 rfl).go ["seen","mode"] ?_;rintro _ _ _ _ _ _ _ H _ Q _ _ ⟨seen,m,rfl,hm,q⟩;refine⟨_,(AJ (Ag (PW.pt (Fb (AX Ae (pv 0) AE) (Fn (AX Ae (pv 0) (pG iU))))) (pR AE) Ai) (AJ (Ag (AX Ae (pv 0) (pG zw)) (pR AE) Ai) (pR (Bq (AX Ae (pv 1) (pG Sy)) AE AE)))),?_⟩;unfold QM.Nz at q;refine Bf (GD (Ac (An (AH rfl) AI)) (Ac (An (AH rfl) AI))) (fun c=>?_) (fun c=>?_)
 ·simp only [Hr,Bw]at c;rw [AG (by lia)]at q;exact q
 ·simp only [Gv,Iu]at c;rw [AD (by lia)]at q;refine Bf (Ac (An (AH rfl) AI)) (fun c2=>?_) (fun c2=>?_)
  ·have c2:=Au c2;rw [AG (by lia)]at q;exact q
  ·have c2:=BA c2;rw [AD (by lia)]at q;refine EU (B5 (Ac (An (AH rfl) AI)) (fun e=>?_) (fun e=>?_)) q
   ·have e:=Au e;have :(m.toNat==2)=true:=by rw [GP];lia
    rw [this];exact AI
   ·have e:=BA e;have :(m.toNat==2)=false:=by rw [KY];lia
    rw [this];exact AI
def AAA(CS:Addr):Sp:=fun vs H Q _=> ∃(a:Addr)(s:Acc)(m:Int),vs=[.ref a,.int m]/\Dy CS H a s/\(0<=m/\m<=4)/\ ∀H' l,A2 H' l (s.get QUAD m.toNat)->AQ H H'->Q (.ref l) H'
def YH:B_ mg "MINUS_INFINITY" 16:=CV 29 rfl
def YI:Df "rounded" 8 ["one","mode"] (AAA CS):=by
 refine(AW 86 rfl).go ["one","mode","infinities"] ?_;rintro S _ _ _ _ _ _ H _ Q _ hr ⟨a,s,m,rfl,⟨dx,sn,h1,ok⟩,hm,q⟩;refine⟨_,(AJ (pS 2 S (AK EH (AR (pv 0) rfl) (AK JE (pG YF) (pG YH)))) (AJ (Ag (PW.pt (Fb (AX Ef (AK EH (AR (pv 0) rfl) (pG iT)) AE) (Fn (AX Ae (pv 2) (AK JE (pG YF) (pG YH)))))) (pR (Gg hr MO)) Ai) (AJ (Ag (AX Ef (AK EH (AR (pv 0) rfl) (pG YE)) AE) (pR (Ay (AB (pG S6) (AB AE AL)))) Ai) (AJ (Ag (AX Ef (pv 2) AE) (pR (Ay (AB (pD hr S5 (AB (Bq (AX Ae (pv 2) (pG YH)) AE AE) AL)) (AB AE AL)))) Ai) (AJ (Ag (AX Ae (AR (pv 0) rfl) AE) (pR (Ay (AB (pD hr S4 (AB (pD hr z_ (AB (AR (pv 0) rfl) (pO 1))) AL)) (AB AE AL)))) Ai) (pR (pD hr G8 (AB (pD hr Fe (AB (Bq (AX Fo (AR (pv 0) rfl) AE) AE AE) (AB (Cf Rz (by rfl) S8 S7 (AB (AR (pv 0) rfl) AL)) (AB (pG iV) AL)))) (pO 1))))))))),?_⟩;rw [QM.zW ok.seen]at q;have ES: ∀σ:L2.St,σ[0]? =some (some (.ref a))->Ev (BJ K (Aa 0) "seen") σ H (.int (sn:Int)):=fun σ h=>Ax (AH h) h1 D_.cl D_.seen X_
 have ET: ∀σ:L2.St,σ[0]? =some (some (.ref a))->Ev (BJ K (Aa 0) "total") σ H (.int s.sum):=fun σ h=>Ax (AH h) h1 D_.cl D_.total YA
 have nT:Lj 8 16=((24:Nat):Int):=X8 8 16;refine BD ((A1 (ES _ rfl) ((A1 AI AI).to (congrArg V.int nT))).to (v':=.int ((sn&&& 24:Nat):Int)) (congrArg V.int (X9 sn 24))) ?_;refine Bf ((GD (Ac (CO ((A1 (ES _ rfl) AI).to (v':=.int ((sn&&& 64:Nat):Int)) (congrArg V.int (X9 sn 64))) AI)) (Ac (An (AH rfl) ((A1 AI AI).to (congrArg V.int nT))))).to (b':=decide (0<sn&&& 64\/sn&&& 24=24)) ?_) (fun c=>?_) (fun c=>?_)
 ·rw [<-qK];exact Cd.mpr (by lia)
 ·rw [AG (Au c)]at q;exact⟨rfl,q⟩
 ·rw [AD (BA c)]at q;refine Bf ((Ac (CO ((A1 (ES _ rfl) AI).to (v':=.int ((sn&&& 32:Nat):Int)) (congrArg V.int (X9 sn 32))) AI)).to (b':=decide (0<sn&&& 32)) (Cd.mpr (by lia))) (fun c2=>?_) (fun c2=>?_)
  ·rw [AG (Au c2)]at q;refine⟨dz,fun l hl=>q _ l ?_ (AQ.new hl)⟩;have e:((QUAD.canonical:Nat):Int)=170138587312039964317873038467719495680:=by decide
   show upd H l _ l=some (.lst [.int ((QUAD.canonical:Nat):Int),.int ((0:Nat):Int)]);rw [AZ,e];rfl
  ·rw [AD (BA c2)]at q;refine Bf ((Ac (CO (AH rfl) AI)).to (b':=decide (0<sn&&& 24)) (Cd.mpr (by lia))) (fun c3=>?_) (fun c3=>?_)
   ·rw [AG (Au c3)]at q;refine(B5 (v:=.int (sg (decide (sn&&& 24=16)))) ((Ac (An (AH rfl) AI)).to (b':=decide (sn&&& 24=16)) (Cd.mpr (by lia))) (fun e=>by rw [e];exact AI) (fun e=>by rw [e];exact AI):Ev _ _ _ _) _ ?_;refine⟨_,rfl,C7 _,dz,fun l hl=>q _ l ?_ (AQ.new hl)⟩;unfold A2;rw [AZ,CL];rfl
   ·rw [AD (BA c3)]at q;refine Bf (Ac (An (ET _ rfl) AI)) (fun c4=>?_) (fun c4=>?_)
    ·rw [AG (Au c4)]at q;refine(Ev.df (r:=.int (sg (QM.Nz sn m.toNat))) (Nw.cons (ES _ rfl) (Nw.cons (AH rfl) Nw.nil)) fun Q q=>⟨sn,m,rfl,hm,q⟩:Ev _ _ _ _) _ ?_;refine⟨_,rfl,C7 _,dz,fun l hl=>q _ l ?_ (AQ.new hl)⟩;unfold A2;rw [AZ,CL];rfl
    ·have c4:=BA c4;rw [AD c4,YD]at q;refine(B5 (v:=.int (sg (decide (s.sum<0)))) (Ac (CO (ET _ rfl) AI)) (fun e=>by rw [e];exact AI) (fun e=>by rw [e];exact AI):Ev _ _ _ _) _ ?_;refine(EX (r:=.int s.sum.natAbs) (Nw.cons (ET _ rfl) Nw.nil) fun Q q=>⟨s.sum,rfl,by
      have :(if s.sum<0 then -s.sum else s.sum)=(s.sum.natAbs:Int):=by split<;>lia
      rw [this];exact q⟩:Ev _ _ _ _) _ ?_
     refine⟨_,_,_,rfl,C7 _,CI _,fun H1 p hp s1=>?_⟩;rw [CL,Am]at hp;refine⟨_,rfl,p,_,m,rfl,hp,fun hz=>⟨by lia,A9 (zY ok) dd,by decide,by decide⟩,hm,fun H2 l h2 s2=>q H2 l ?_ (s1.trans s2)⟩;rw [IP (by lia)]at h2;exact h2
def Tp(H:Hp)(a:Addr)(l:List Int):Prop:=H a=some (.lst (l.map V.int))/\ ∀z∈l,A3 z
def Tq:Sp:=fun vs H Q _=> ∃(a:Addr)(l:List Int)(m:Int),vs=[.int m,.ref a]/\Tp H a l/\l.length<=64/\(0<=m/\m<=4)/\ ∀H' p,A2 H' p (Qu.sumRow m.toNat (l.map CK))->AQ H H'->Q (.ref p) H'
def YJ{α β:Type}(f:β->α->β)(b:β){l:List α}{i:Nat}{x:α}(h:l[i]? =some x):(l.take (i+1)).foldl f b=f ((l.take i).foldl f b) x:=by
 rw [M9,h];simp
def LD(x:Num):(Dk x).terms=1:=by cases x<;>rfl
def AAB:
 Df "sum_of" 9 ["mode","row"] Tq:=by
 refine(AW 87 rfl).go ["mode","row","result","a"] ?_;rintro S _ _ _ _ _ _ H _ Q _ hr ⟨a,l,m,rfl,⟨hl,hq⟩,nU,hm,q⟩;refine⟨_,(AJ (pS 2 S (Gg hr MT)) (AJ (JD Gz rfl (NP (pv 1)) (FF (i:=3) S rfl (Or.inl rfl)) (Cj (pS 2 S (W4 YG.df (hr.mono dd) rfl (pW 2 (AB (pD hr iW (pO 3)) AL)))))) (pR (pD hr YI (pW 2 (pO 0)))))),?_⟩;refine⟨rfl,fun H1 r EE nr s1=>?_⟩;refine⟨_,rfl,a,rfl,⟨_,BL (s1 _ _ hl)⟩,?_⟩;refine cg (xs:=l.map V.int) (fun i σ H'=>AQ H1 H'/\ ∃(r:Addr)(z:Option V),σ=[some (.int m),some (.ref a),some (.ref r),z]/\Dy CS H' r (((l.map CK).take i).foldl b7 Et)/\(((l.map CK).take i).foldl b7 Et).terms=i) ⟨KN _,r,none,rfl,EE,rfl⟩ ?_ ?_ ?_
 ·rintro i σ H' _ ⟨s2,_⟩;exact BL (s2 _ _ (s1 _ _ hl))
 ·rintro i x σ H' hx ⟨s2,r,z,rfl,Dc,ht⟩;obtain⟨v,hv,rfl⟩: ∃z,l[i]? =some z/\x=V.int z:=by
   rw [De]at hx;cases e:l[i]? with
   |none=>rw [e]at hx;cases hx
   |some z=>rw [e]at hx;exact⟨z,rfl,(BQ hx).symm⟩
  have Jc:=(Fi.mp hv).1;have bv:=hq v (FV hv);have ef:((l.map CK).take (i+1)).foldl b7 Et=(((l.map CK).take i).foldl b7 Et).merge (Dk (AU QUAD v.toNat)):=by
   rw [YJ _ _ (x:=v.toNat) (by rw [De,hv];rfl)];exact QM.Tj _ _
  refine⟨_,rfl,_,rfl,v,rfl,bv,fun H3 p3 h3 s3=>?_⟩;refine⟨r,p3,_,_,rfl,Dc.same s3,h3,fun hh=>?_,fun _ H4 p4 h4 s4=>?_⟩
  ·rw [ht,LD]at hh;lia
  ·rw [ef];exact⟨(s2.trans s3).trans s4,p4,_,rfl,h4,by show _+_=_;rw [ht,LD]⟩
 ·rintro σ H' ⟨s2,r,z,rfl,Dc,ht⟩;have e1:(l.map CK).take (l.map V.int).length=l.map CK:=Il (by rw [A5,A5];exact BO _);rw [e1]at Dc;exact⟨_,rfl,_,rfl,r,_,m,rfl,Dc,hm,fun H3 p3 h3 s3=>q H3 p3 h3 ((s1.trans s2).trans s3)⟩
def AAC{K:Aj}{a b:Addr}{xs ys:List V}{g:TG}{tb:TS}{D:FE}{σ:L2.St}{H:Hp}(hlen:xs.length=ys.length)(Pv:Nat->L2.St->Hp->Prop)(h0:Pv 0 σ H)(hl: ∀i σ H,i<=xs.length->Pv i σ H->B0 K H a xs/\B0 K H b ys)
 (hs: ∀i x y σ H T,xs[i]? =some x->ys[i]? =some y->Pv i σ H->H T=none->g (.ref T) σ (upd H T (.tup [x,y])) fun A_ H2=>tb {D with nx:=Pv (i+1),ct:=Pv (i+1),bk:=D.nx} A_ H2)(hd: ∀σ H,Pv xs.length σ H->D.nx σ H):
 ∃W:Nat->Nat->L2.St->Hp->Prop,(∃m,W 0 m σ H)/\ ∀i m σ H,W i m σ H->
  ((PV K a b).stop i H/\D.nx σ H)\/((PV K a b).go i H/\ ∃N:L2.St->Hp->Prop,(∀Ak H',N Ak H'-> ∃m',m'<m/\W (i+1) m' Ak H')/\ ∀x H',(PV K a b).Hi i H x H'->g x σ H' fun A_ H2=>tb {D with nx:=N,ct:=N,bk:=D.nx} A_ H2):=by
 refine⟨fun i m σ H=>m=xs.length-i/\i<=xs.length/\Pv i σ H,⟨xs.length,by simp,DM _,h0⟩,?_⟩;rintro i m σ H ⟨rfl,hi,p⟩;obtain⟨q1,q2⟩:=hl i σ H hi p;by_cases Bk:i<xs.length
 ·refine .inr ⟨⟨xs,ys,xs[i],ys[i]'(by lia),q1,q2,by simp [Bk],FY (by lia)⟩,Pv (i+1),fun Ak H' p'=>⟨xs.length-(i+1),by lia,rfl,Bk,p'⟩,fun v H' y=>?_⟩;obtain⟨T,x,y,rfl,hT,rfl,hx,hy⟩:=y;exact hs i x y σ H T (hx _ q1) (hy _ q2) p hT
 ·have e:i=xs.length:=by lia
  subst e;exact .inl ⟨⟨xs,ys,q1,q2,.inl (BO _)⟩,hd σ H p⟩
def Tr:Sp:=fun vs H Q _=> ∃(a b:Addr)(l k:List Int)(m:Int),vs=[.int m,.ref a,.ref b]/\Tp H a l/\Tp H b k/\l.length<=64/\l.length=k.length/\(0<=m/\m<=4)/\ ∀H' p,A2 H' p (Qu.dotRow m.toNat ((l.map CK).zip (k.map CK)))->AQ H H'->Q (.ref p) H'
def AAD:
 Df "dot" 9 ["mode","row","other"] Tr:=by
 refine(AW 88 rfl).go ["mode","row","other","result","a","b"] ?_;rintro S _ _ _ _ _ _ H _ Q _ hr ⟨a,b,l,k,m,rfl,⟨hl,hq⟩,⟨hk,hqk⟩,nU,hlk,hm,q⟩;refine⟨_,(AJ (pS 3 S (Gg hr MT)) (AJ (JD Gz rfl (tT (by rfl) X1 (pW 1 (pO 2))) (WN rfl (NN (FF (i:=4) S rfl (Or.inl rfl)) (NN (FF (i:=5) S rfl (Or.inl rfl)) WM))) (Cj (pS 3 S (W4 YG.df (hr.mono dd) rfl (pW 3 (AB (pD hr iX (pW 4 (pO 5))) AL)))))) (pR (pD hr YI (pW 3 (pO 0)))))),?_⟩;refine⟨rfl,fun H1 r EE nr s1=>?_⟩;refine⟨_,rfl,_,rfl,a,b,_,_,rfl,BL (s1 _ _ hl),BL (s1 _ _ hk),?_⟩;have DB:(l.map V.int).length=(k.map V.int).length:=by rw [A5,A5];exact hlk
 refine AAC (xs:=l.map V.int) (ys:=k.map V.int) DB (fun i σ H'=>AQ H1 H'/\ ∃(r:Addr)(z1 z2:Option V),σ=[some (.int m),some (.ref a),some (.ref b),some (.ref r),z1,z2]/\Dy CS H' r ((((l.map CK).zip (k.map CK)).take i).foldl (fun (s:Acc) (p:Nat×Nat)=>s.product p.1 p.2) Et)/\((((l.map CK).zip (k.map CK)).take i).foldl (fun (s:Acc) (p:Nat×Nat)=>s.product p.1 p.2) Et).terms=i) ⟨KN _,r,none,none,rfl,EE,rfl⟩ ?_ ?_ ?_
 ·rintro i σ H' _ ⟨s2,_⟩;exact⟨BL (s2 _ _ (s1 _ _ hl)),BL (s2 _ _ (s1 _ _ hk))⟩
 ·rintro i x y σ H' TT hx hy ⟨s2,r,z1,z2,rfl,Dc,ht⟩ Qw;obtain⟨v,hv,rfl⟩: ∃z,l[i]? =some z/\x=V.int z:=by
   rw [De]at hx;cases e:l[i]? with
   |none=>rw [e]at hx;cases hx
   |some z=>rw [e]at hx;exact⟨z,rfl,(BQ hx).symm⟩
  obtain⟨u,hu,rfl⟩: ∃z,k[i]? =some z/\y=V.int z:=by
   rw [De]at hy;cases e:k[i]? with
   |none=>rw [e]at hy;cases hy
   |some z=>rw [e]at hy;exact⟨z,rfl,(BQ hy).symm⟩
  have Jc:=(Fi.mp hv).1;have ef:(((l.map CK).zip (k.map CK)).take (i+1)).foldl (fun (s:Acc) (p:Nat×Nat)=>s.product p.1 p.2) Et=((((l.map CK).zip (k.map CK)).take i).foldl (fun (s:Acc) (p:Nat×Nat)=>s.product p.1 p.2) Et).merge (Dk (GV (AU QUAD v.toNat) (AU QUAD u.toNat))):=by
   rw [YJ _ _ (x:=(v.toNat,u.toNat)) (by rw [qI,De,De,hv,hu];exact⟨rfl,rfl⟩)];exact QM.Tj _ _
  have s3:AQ H' (upd H' TT (.tup [.int v,.int u])):=AQ.new Qw;refine⟨TT,_,rfl,JV AZ,rfl,?_⟩;refine⟨_,_,rfl,_,_,rfl,rfl,?_⟩;refine⟨_,rfl,_,rfl,_,rfl,v,u,rfl,hq v (FV hv),hqk u (FV hu),fun H3 p3 h3 s4=>?_⟩;refine⟨r,p3,_,_,rfl,(Dc.same s3).same s4,h3,fun hh=>?_,fun _ H4 p4 h4 s5=>?_⟩
  ·rw [ht,LD]at hh;lia
  ·rw [ef];exact⟨((s2.trans s3).trans s4).trans s5,p4,_,_,rfl,h4,by show _+_=_;rw [ht,LD]⟩
 ·rintro σ H' ⟨s2,r,z1,z2,rfl,Dc,ht⟩;have e1:((l.map CK).zip (k.map CK)).take (l.map V.int).length=(l.map CK).zip (k.map CK):=Il (by rw [List.length_zip,A5,A5,A5];lia);rw [e1]at Dc;exact⟨_,rfl,_,rfl,r,_,m,rfl,Dc,hm,fun H3 p3 h3 s3=>q H3 p3 h3 ((s1.trans s2).trans s3)⟩
end
def AAE(m:Nat)(n:Bool)(x:Qu.Exact):(Es f m n x).1 <2*f.signBit:=by
 have h:=QM.Sn f;have p:=BR f.fbits;unfold Es;dsimp only;split
 ·exact gw m n
 ·exact JL (by lia)
def AAF(n:Bool):(FX f n).1 <2*f.signBit:=JL (BR _)
def QI(n:Bool):(HI f n).1 <2*f.signBit:=JL (by have :=QM.Sn f;have :=BR f.fbits;lia)
def J9:QUAD.canonical<2*QUAD.signBit:=by decide
def AAG(m:Nat)(s t:Bool)(a b:Nat)(d e:Int):(Qu.sum QUAD m s a d t b e).1 <2*QUAD.signBit:=by
 unfold Qu.sum;dsimp only;split
 ·exact AAF _
 ·exact AAE _ _ _
def ia(n z:Bool)(x:Num):(Qu.fmaInf QUAD n z x).1 <2*QUAD.signBit:=by
 unfold Qu.fmaInf;split
 ·exact J9
 ·cases x with
  |nan q=>exact J9
  |inf u=>
   dsimp only;split
   ·exact QI _
   ·exact J9
  |fin u a e=>exact QI _
def AAH(m:Nat)(x y z:Num):(Lr QUAD m x y z).1 <2*QUAD.signBit:=by
 cases x with
 |nan q=>exact J9
 |inf n=>
  cases y with
  |nan q=>exact J9
  |inf k=>
   cases z with
   |nan q=>exact J9
   |inf u=>
    show(if(n !=k)=u then HI QUAD u else Oq QUAD).1 <_;split
    ·exact QI _
    ·exact J9
   |fin u c g=>exact QI _
  |fin k b e=>cases z<;>exact ia _ _ _
 |fin n a d=>
  cases y with
  |nan q=>exact J9
  |inf k=>cases z<;>exact ia _ _ _
  |fin k b e=>
   cases z with
   |nan q=>exact J9
   |inf u=>exact QI _
   |fin u c g=>exact AAG _ _ _ _ _ _ _
def AEY(h:n<2*QUAD.signBit):A3 (n:Int):=by
 have e:2*QUAD.signBit=340282366920938463463374607431768211456:=by decide
 rw [e]at h;exact⟨CI _,by lia⟩
def dP(h:xs[xs.length-1]? =some x):DX xs (-1)=some x:=by
 have hi:=(Fi.mp h).1;unfold DX G4;rw [AD dd,AG (by lia),show(-1+(xs.length:Int)).toNat=xs.length-1 by lia];exact h
noncomputable def MU(m x:Nat)(s:Nat×Nat)(b:Nat):Nat×Nat:=((Lr QUAD m (AU QUAD s.1) (AU QUAD x) (AU QUAD b)).1,s.2||| (Lr QUAD m (AU QUAD s.1) (AU QUAD x) (AU QUAD b)).2)
def AAI(h:c.reverse=a::r):Qu.poly m x c=r.foldl (MU m x) (a,0):=by
 unfold Qu.poly;rw [h];rfl
section
variable{C:Addr}
def Ts:Sp:=fun vs H Q _=> ∃(a:Addr)(l:List Int)(x m:Int),vs=[.int x,.int m,.ref a]/\Tp H a l/\l.length<=64/\A3 x/\(0<=m/\m<=4)/\ ∀H' p,A2 H' p (Qu.poly m.toNat x.toNat (l.map CK))->AQ H H'->Q (.ref p) H'
def YK:mg "range"=none:=rat 18 rfl
def AAJ:Df "poly" 10 ["x","mode","row"] Ts:=by
 refine(AW 89 rfl).go ["x","mode","row","y","flags","place","step"] ?_;rintro S _ _ _ _ _ _ H _ Q _ hr ⟨a,l,x,m,rfl,⟨hl,hq⟩,nU,bx,hm,q⟩;refine⟨_,(AJ (Ag (AX Ae (Cf H_ (by rfl) FR FQ (pO 2)) AE) (pR (Ay (AB (pD hr S4 (AB AE AL)) (AB AE AL)))) Ai) (AJ (pS 3 S (AY Ah (pv 2) (Eu FG AE))) (AJ (pS 4 S AE) (AJ (JD Gz rfl (Wz (by rfl) YK (AB (AK BP (Cf H_ (by rfl) FR FQ (pO 2)) AE) (AB (Eu FG AE) (AB (Eu FG AE) AL)))) (FF (i:=5) S rfl (Or.inl rfl)) (AJ (pS 6 S (pD hr gd (pW 3 (pW 0 (AB (AY Ah (pv 2) (pv 5)) (AB AE (pO 1))))))) (AJ (pS 3 S (AY Ah (pv 6) AE)) (Cj (pS 4 S (AK JE (pv 4) (AY Ah (pv 6) AE))))))) (pR (Ay (pW 3 (pO 4)))))))),?_⟩;have EL: ∀(σ:L2.St)(H':Hp),AQ H H'->σ[2]? =some (some (.ref a))->Ev (G3 (fun xs H Q=> ∃p ys,xs=[.ref p]/\(B0 K H p ys\/B9 K H p ys)/\Q (.int ys.length) H) (Ba (Aa 2) B3)) σ H' (.int l.length):=fun σ H' s h=>
  EX (Nw.cons (AH h) Nw.nil) fun Q q=>⟨a,_,rfl,.inl (BL (s _ _ hl)),by rw [A5];exact q⟩
 refine Bf (Ac (An (tb:=tC (.int 0)) (j:=0) (EL _ H (KN _) rfl) AI)) (fun c=>?_) (fun c=>?_)
 ·have c:l.length=0:=by have :=Au c;lia
  have l0:l=[]:=V5.mp c;subst l0;exact⟨_,rfl,.inl rfl,dz,fun p hp=>q _ p AZ (AQ.new hp)⟩
 ·have c:l.length≠0:=by have :=BA c;lia
  obtain⟨v,hv⟩: ∃v,l[l.length-1]? =some v:=⟨_,FY (by lia)⟩;have AFA: ∃r,(l.map CK).reverse=v.toNat::r:=by
   cases hr:(l.map CK).reverse with
   |nil=>exact absurd (congrArg Ik hr) (by rw [Rb,A5];exact c)
   |cons a0 r=>
    have e1:(l.map CK).reverse[0]? =some a0:=by rw [hr];rfl
    rw [AF7 (by rw [A5];lia),A5,De,show l.length-1-0=l.length-1 by lia,hv]at e1;have :v.toNat=a0:=BQ e1;exact⟨r,by rw [this]⟩
  obtain⟨r,EE⟩:=AFA;have AGb:r.length=l.length-1:=by
   have :=congrArg Ik EE;rw [Rb,A5,BU]at this;lia
  rw [AAI EE]at q;refine BD (v:=.int v) (Ek (AH rfl) (Ev.un AI) (BL hl) (dP (by rw [A5,De,hv];rfl))) ?_;refine BD AI ?_;have bv:=hq v (FV hv);refine⟨_,rfl,a,_,rfl,.inl (BL hl),_,_,rfl,rfl,?_⟩;rw [A5];refine(Ev.un AI:Ev _ _ _ _) _ ?_;refine(Ev.un AI:Ev _ _ _ _) _ ?_;have Zk:(2:Int)^62=4611686018427387904:=by decide
  refine⟨_,_,_,((l.length:Int)-2- -1).toNat,rfl,dm.neg (by lia) (by lia) (by lia) (by lia),?_⟩;have en:((l.length:Int)-2- -1).toNat=r.length:=by lia
  rw [en];refine W0 (fun i σ H'=>AQ H H'/\ ∃(z1 z2:Option V),σ=[some (.int x),some (.int m),some (.ref a),some (.int (((r.take i).foldl (MU m.toNat x.toNat) (v.toNat,0)).1:Nat)),some (.int (((r.take i).foldl (MU m.toNat x.toNat) (v.toNat,0)).2:Nat)),z1,z2]/\A3 (((r.take i).foldl (MU m.toNat x.toNat) (v.toNat,0)).1:Nat)) ⟨KN _,none,none,?_,?_⟩ ?_ ?_
  ·have e1:((v.toNat:Nat):Int)=v:=FA bv.1;show [some (V.int x),some (V.int m),some (V.ref a),some (V.int v),some (V.int 0),none,none]=[some (V.int x),some (V.int m),some (V.ref a),some (V.int (v.toNat:Nat)),some (V.int ((0:Nat):Int)),none,none];rw [e1];rfl
  ·show A3 ((v.toNat:Nat):Int);rw [FA bv.1];exact bv
  ·rintro i σ H' hi ⟨s1,z1,z2,rfl,Ii⟩;obtain⟨b,hb⟩: ∃b,l[l.length-2-i]? =some b:=⟨_,FY (by lia)⟩;have m6:r[i]? =some b.toNat:=by
    have e1:(v.toNat::r)[i+1]? =r[i]?:=rfl;rw [<-e1,<-EE,AF7 (by rw [A5];lia),A5,De,show l.length-1-(i+1)=l.length-2-i by lia,hb];rfl
   have bb:=hq b (FV hb);have ef:=YJ (MU m.toNat x.toNat) (v.toNat,0) m6;rw [ef];generalize (r.take i).foldl (MU m.toNat x.toNat) (v.toNat,0)=yf at Ii⊢;have eix:(l.length:Int)-2+(i:Nat)* -1=((l.length-2-i:Nat):Int):=by lia
   dsimp only [HN];rw [eix];refine⟨_,rfl,_,rfl,?_⟩;refine(Ek (AH rfl) (AH rfl) (BL (s1 _ _ hl)) (HQ (x:=V.int b) (by rw [De,hb];rfl)):Ev _ _ _ _) _ ?_;refine⟨_,rfl,_,_,_,_,_,rfl,Ii,bx,bb,⟨by decide,by decide⟩,hm,fun H3 p3 h3 s3=>?_⟩;have efu:bX m.toNat (0:Int).toNat ((yf.1:Int)).toNat x.toNat b.toNat=Lr QUAD m.toNat (AU QUAD yf.1) (AU QUAD x.toNat) (AU QUAD b.toNat):=by
    rw [Am];rfl
   rw [efu]at h3;have fl:=AAH m.toNat (AU QUAD yf.1) (AU QUAD x.toNat) (AU QUAD b.toNat);have ep:MU m.toNat x.toNat yf b.toNat=((Lr QUAD m.toNat (AU QUAD yf.1) (AU QUAD x.toNat) (AU QUAD b.toNat)).1,yf.2||| (Lr QUAD m.toNat (AU QUAD yf.1) (AU QUAD x.toNat) (AU QUAD b.toNat)).2):=rfl;rw [ep];generalize Lr QUAD m.toNat (AU QUAD yf.1) (AU QUAD x.toNat) (AU QUAD b.toNat)=fm at h3 fl⊢;have Qz:H3 p3=some (.lst [.int (fm.1:Int),.int (fm.2:Int)]):=h3;refine BD (v:=.int (fm.1:Int)) (Ek (AH rfl) AI (BL Qz) rfl) ?_;refine((A1 (AH rfl) (Ek (AH rfl) AI (BL Qz) rfl)).to (v':=.int ((yf.2|||fm.2:Nat):Int)) (congrArg V.int (X8 _ _)):Ev _ _ _ _) _ ?_;exact⟨s1.trans s3,_,_,rfl,AEY fl⟩
  ·rintro σ H' ⟨s1,z1,z2,rfl,Ii⟩;rw [Ip]at *
   exact⟨_,rfl,_,rfl,dz,fun p hp=>q _ p AZ (s1.trans (AQ.new hp))⟩
noncomputable def AF(l:Addr):List (Str×V):=C6 "sums" (.ref l) []
def Tt:(AF l).lookup ("sums":Str)=some (.ref l):=by
 unfold AF;rw [DJ,AG rfl]
def Bu(CA CS:Addr)(H:Hp)(a l:Addr)(st:List Acc):Prop:= ∃(dx:Addr)(as:List Addr),H a=some (.ins CA dx (AF l))/\H l=some (.lst (as.map V.ref))/\as.length=4/\st.length=4/\
 ∀(i:Nat)(b:Addr)(s:Acc),as[i]? =some b->st[i]? =some s->Dy CS H b s
def Bu.same{st:List Acc}(h:Bu CA CS H a l st)(e:AQ H H'):Bu CA CS H' a l st:=by
 obtain⟨dx,as,h1,h2,h3,h4,h5⟩:=h;exact⟨dx,as,e _ _ h1,e _ _ h2,h3,h4,fun i b s x y=>(h5 i b s x y).same e⟩
def SameBut(l:Addr)(H H':Hp):Prop:= ∀b o,b≠l->H b=some o->H' b=some o
structure ic(K:Aj)(C:Addr):Prop where
 cl:F4 K C
 sums:FH K C "sums"
abbrev ie:Stmt:=FD (top 148) 0
def ig(CA CS:Addr):Sp:=fun vs H Q _=> ∃p dx,vs=[.ref p]/\H p=some (.ins CA dx [])/\
 ∀H' l,Bu CA CS H' p l Wrquad.start->H l=none->(∀b o,H b=some o->b≠p->H' b=some o)->Q .BZ H'
abbrev QJ:List Str:=["self"]
def Dy.upd(h:Dy CS H b s)(hb:b≠p):Dy CS (upd H p o) b s:=by
 obtain⟨dx,sn,h1,h2⟩:=h;exact⟨dx,sn,by rw [BC hb];exact h1,h2⟩
def AAK:IC L2.K "__init__" "Accumulators.__init__" ie Pp Sf:=K2 (by kernel_rfl)
def Gj:ic L2.K CA:=⟨SS (by kernel_rfl),II (by kernel_rfl)⟩
def AAL:mg "Accumulators"=some (.ref CA):=rat 3 rfl
def AAM:Mk L2.K CA Pp:=SU (by kernel_rfl)
def AAN:Binds L2.K Sf QJ []:=MG (by kernel_rfl)
def AAO:C_ Fq 4 Pp Sf QJ (ig CA CS):=by
 have S:Bj QJ QJ (Cw ie):=fS;refine AAK.ok S (by rintro _ _ _ _ ⟨_,_,rfl,_⟩;rfl) (fun _ _ _ _ s H vs Q E hr h=>?_);obtain⟨p,dx,rfl,hp,q⟩:=h;refine⟨_,(Cj (Hz (pv 0) (Ay (AB (Gg hr MT) (AB (Gg hr MT) (AB (Gg hr MT) (AB (Gg hr MT) AL))))) rfl)),?_⟩;refine⟨rfl,fun H1 a1 h1 n1 s1=>⟨rfl,fun H2 a2 h2 n2 s2=>⟨rfl,fun H3 a3 h3 n3 s3=>⟨rfl,fun H4 a4 h4 n4 s4=>⟨dz,fun l hl=>?_⟩⟩⟩⟩⟩;have sa:AQ H H4:=((s1.trans s2).trans s3).trans s4;have e1:=((h1.same s2).same s3).same s4;have e2:=(h2.same s3).same s4;have e3:=h3.same s4;have lp:l≠p:=fun z=>by rw [z,sa _ _ hp]at hl;cases hl
 have pl:upd H4 l (.lst [.ref a1,.ref a2,.ref a3,.ref a4]) p=some (.ins CA dx []):=by rw [BC (Ne.symm lp)];exact sa _ _ hp
 refine⟨_,rfl,p,CA,dx,_,rfl,pl,Gj.cl,Gj.sums,dd,?_⟩;have na: ∀(b:Addr)(s:Acc),Dy CS H4 b s->b≠l/\b≠p:=fun b s hb=>by
  obtain⟨Od,sn,h,_⟩:=hb;refine⟨fun z=>?_,fun z=>?_⟩
  ·rw [z,hl]at h;cases h
  ·rw [z,sa _ _ hp]at h;have :=BQ h;injection this with _ _ z3
   have :=congrArg (fun fs=>fs.lookup ("terms":Str)) z3;simp only [YB]at this;cases this
 refine q _ l ⟨dx,[a1,a2,a3,a4],AZ,by rw [BC lp,AZ];rfl,rfl,rfl,fun i b s x y=>?_⟩ (sa.free hl) fun b o e hb=>?_
 ·have up: ∀b,Dy CS H4 b Et->Dy CS (upd (upd H4 l (.lst [.ref a1,.ref a2,.ref a3,.ref a4])) p (.ins CA dx (C6 "sums" (.ref l) []))) b Et:=fun b hb=>((hb.upd (na _ _ hb).1).upd (na _ _ hb).2)
  match i,x,y with
  |0,x,y=>cases (BQ x);cases (BQ y);exact up _ e1
  |1,x,y=>cases (BQ x);cases (BQ y);exact up _ e2
  |2,x,y=>cases (BQ x);cases (BQ y);exact up _ e3
  |3,x,y=>cases (BQ x);cases (BQ y);exact up _ h4
  |i+4,x,y=>simp at x
 ·have bl:b≠l:=fun z=>by rw [z,sa.free hl]at e;cases e
  rw [BC hb,BC bl];exact sa _ _ e
def AAP:Cl "Accumulators" CA 4 QJ (ig CA CS):=⟨AAL,Pp,Sf,AAM,AAO,AAN⟩
def Bu.set{st:List Acc}(h:Bu CA CS H a l st)(e:AQ H H1)(hp:Dy CS H1 p s)(hk:k<4): ∃as:List Addr,H1 l=some (.lst (as.map V.ref))/\as.length=4/\Bu CA CS (upd H1 l (.lst ((as.map V.ref).set k (.ref p)))) a l (st.set k s):=by
 obtain⟨dx,as,h1,h2,h3,h4,h5⟩:=h;have al:a≠l:=fun z=>by rw [z,h2]at h1;cases h1
 refine⟨as,e _ _ h2,h3,dx,as.set k p,by rw [BC al];exact e _ _ h1,by rw [AZ,List.map_set],by rw [ae];exact h3,by rw [ae];exact h4,fun i b t x y=>?_⟩;have nl: ∀(b:Addr)(t:Acc),Dy CS H1 b t->b≠l:=fun b t hb z=>by
  obtain⟨Od,sn,h,_⟩:=hb;rw [z,e _ _ h2]at h;cases h
 by_cases Zy:i=k
 ·subst Zy;rw [My (by lia)]at x;rw [My (by lia)]at y;cases (BQ x);cases (BQ y);exact hp.upd (nl _ _ hp)
 ·rw [VL (Ne.symm Zy)]at x;rw [VL (Ne.symm Zy)]at y;have :=(h5 i b t x y).same e;exact this.upd (nl _ _ this)
abbrev ij:Stmt:=FD (top 148) 1
abbrev QK:List Str:=["self","k"]
def ik(CA CS:Addr):Sp:=fun vs H Q _=> ∃(a l:Addr)(st:List Acc)(k:Nat),vs=[.ref a,.int (k:Int)]/\Bu CA CS H a l st/\k<4/\ ∀H':Hp,Bu CA CS H' a l (st.set k Et)->SameBut l H H'->Q .BZ H'
def AAQ:IC L2.K "empty" "Accumulators.empty" ij Pq Sg:=K2 (by kernel_rfl)
def AAR:L9 L2.K CA "empty" Pq:=fD (by kernel_rfl)
def AAS:Binds L2.K Sg QK []:=MG (by kernel_rfl)
def AAT:C_ Fq 4 Pq Sg QK (ik CA CS):=by
 have S:Bj QK QK (Cw ij):=fS;refine AAQ.ok S (by rintro _ _ _ _ ⟨_,_,_,_,rfl,_⟩;rfl) (fun _ _ _ _ _ H vs Q E hr h=>?_);obtain⟨a,l,st,k,rfl,ha,hk,q⟩:=h;refine⟨_,(Cj (cX (Gg hr MT) (cW (AR (pv 0) rfl) (pv 1) dQ))),?_⟩;refine⟨rfl,fun H1 p hp np s1=>?_⟩;obtain⟨as,g1,g2,g3⟩:=ha.set s1 hp hk;obtain⟨dx,Je,h1,_⟩:=ha;refine⟨_,rfl,a,CA,dx,_,_,rfl,s1 _ _ h1,Gj.cl,Gj.sums,Tt,_,rfl,l,_,k,k,rfl,rfl,g1,?_,q _ g3 fun b o hb e=>by rw [BC hb];exact s1 _ _ e⟩;unfold G4;rw [A5,g2,AG (by lia),AG (by lia),Am]
def AAU:Mt Fq CA "empty" 4 QK (ik CA CS):=⟨Pq,Sg,AAR,AAT,AAS⟩
abbrev il:Stmt:=FD (top 148) 2
abbrev QL:List Str:=["self","k","more"]
def iq(CA CS CT:Addr):Sp:=fun vs H Q E=> ∃(a l m:Addr)(st:List Acc)(k:Nat)(x y:Acc),vs=[.ref a,.int (k:Int),.ref m]/\Bu CA CS H a l st/\k<4/\st[k]? =some x/\Dy CS H m y/\(4294967295<x.terms+y.terms->E (.ref CT) none H)/\
 (x.terms+y.terms<=4294967295-> ∀H':Hp,Bu CA CS H' a l (st.set k (x.merge y))->SameBut l H H'->Q .BZ H')
def AAV:IC L2.K "put" "Accumulators.put" il Pr Sh:=K2 (by kernel_rfl)
def AAW:L9 L2.K CA "put" Pr:=fD (by kernel_rfl)
def AAX:Binds L2.K Sh QL []:=MG (by kernel_rfl)
def AAY:C_ (FL P w) 4 Pr Sh QL (iq CA CS CT):=by
 have S:Bj QL QL (Cw il):=fS;refine ll AAV S (fun vs H Q E h=>?_) (fun _ _ _ _ _ H vs Q E hr h=>?_)
 ·obtain⟨a,l,m,st,k,x,y,rfl,_⟩:=h;rfl
 ·obtain⟨a,l,m,st,k,x,y,rfl,ha,hk,hx,hy,qe,q⟩:=h;refine⟨_,(Cj (cX (eT YG MF (hr.mono dd) rfl (AB (AY Ah (AR (pv 0) rfl) (pv 1)) (pO 2))) (cW (AR (pv 0) rfl) (pv 1) dQ))),?_⟩;obtain⟨dx,Je,h1,h2,h3,h4,h5⟩:=id ha;obtain⟨b,hb⟩: ∃b,Je[k]? =some b:=⟨_,FY (by lia)⟩;refine⟨_,rfl,a,CA,dx,_,_,rfl,h1,Gj.cl,Gj.sums,Tt,_,rfl,l,_,k,_,rfl,rfl,BL h2,HQ (x:=V.ref b) (by rw [De,hb];rfl),_,rfl,?_⟩;refine⟨b,m,x,y,rfl,h5 k b x hb hx,hy,qe,fun hc H1 p hp s1=>?_⟩;obtain⟨as,g1,g2,g3⟩:=ha.set s1 hp hk;refine⟨_,rfl,a,CA,dx,_,_,rfl,s1 _ _ h1,Gj.cl,Gj.sums,Tt,_,rfl,l,_,k,k,rfl,rfl,g1,?_,q hc _ g3 fun b o hb e=>by rw [BC hb];exact s1 _ _ e⟩;unfold G4;rw [A5,g2,AG (by lia),AG (by lia),Am]
def YL:Mt (FL P w) CA "put" 4 QL (iq CA CS CT):=⟨Pr,Sh,AAW,AAY,AAX⟩
end
end Q3
namespace QM
open Qu
def CW(n:Nat):0<10^n:=Iw (by decide)
def J_(h:a<=b):10^a<=10^b:=pj (by decide) h
def QO(h:a<b):10^a<10^b:=AFy (by decide) h
def ir:10^a<10^b↔a<b:=⟨fun h=>by
 rcases DW a b with q|q
 ·exact q
 ·have :=J_ q;lia,QO⟩
def YM(h:n<10):digitCount n=1:=by
 unfold digitCount;rw [qL h];rfl
def YN(h:10<=n):digitCount n=digitCount (n/10)+1:=by
 unfold digitCount;rw [AF8 (by decide) h];simp
def N1(n:Nat):1<=digitCount n:=by
 rcases DW n 10 with h|h
 ·rw [YM h];exact BO _
 ·rw [YN h];lia
def Tu(n:Nat):n<10^digitCount n:=by
 induction n using Nat.strongRecOn with
 |_ n ih=>
  rcases DW n 10 with h|h
  ·rw [YM h];lia
  ·rw [YN h,CQ];have :=ih (n/10) (by lia);lia
def N2(h:0<n):10^(digitCount n-1)<=n:=by
 induction n using Nat.strongRecOn with
 |_ n ih=>
  rcases DW n 10 with q|q
  ·rw [YM q];exact h
  ·have a:=ih (n/10) (by lia) (by lia);have b:=N1 (n/10);rw [YN q,show digitCount (n/10)+1-1=digitCount (n/10)-1+1 by lia,CQ];lia
def YO(h1:10^k<=n)(h2:n<10^(k+1)):digitCount n=k+1:=by
 have h0:0<n:=Bs (CW k) h1;have a:=Tu n;have b:=N2 h0;have c:=N1 n;have d:k<digitCount n:=ir.mp (Cb h1 a);have e:digitCount n-1<k+1:=ir.mp (Cb b h2);lia
def KA(x:Int)(n d:Nat):Prop:=d*10^x.toNat<=n*10^(-x).toNat
def KC{x:Int}{n d i j:Nat}(h:(i:Int)-j=x):KA x n d↔d*10^i<=n*10^j:=by
 unfold KA;rcases Vv 0 x with q|q
 ·obtain⟨y,rfl⟩:=bh q;have e1:(-(y:Int)).toNat=0:=by lia
  have e2:(y:Int).toNat=y:=by lia
  have e3:i=y+j:=by lia
  rw [e1,e2,e3,B7,Cc,Ap,<-A6];exact⟨fun z=>B2 _ z,fun z=>p9 z (CW j)⟩
 ·obtain⟨y,hy⟩:=bh (show 0<= -x by lia);have e1:(-x).toNat=y:=by lia
  have e2:x.toNat=0:=by lia
  have e3:j=y+i:=by lia
  rw [e1,e2,e3,B7,Cc,Ap,<-A6];exact⟨fun z=>B2 _ z,fun z=>p9 z (CW i)⟩
def iu(h:x<=y)(g:KA y n d):KA x n d:=by
 have a:(((y-x).toNat+x.toNat:Nat):Int)-((-x).toNat:Int)=y:=by lia
 rw [KC a]at g;unfold KA;refine A9 (NA _ (J_ ?_)) g;lia
def iw(hn:0<n)(hd:0<d):KA (tenExponent n d) n d/\ ¬KA (tenExponent n d+1) n d:=by
 unfold tenExponent;by_cases h:d<=n
 ·rw [AG h];have q0:0<n/d:=qM h hd;have a:=N2 q0;have b:=Tu (n/d);have c:=N1 (n/d);have e1:((digitCount (n/d)-1:Nat):Int)-(0:Nat)=(digitCount (n/d):Int)-1:=by lia
  have e2:((digitCount (n/d):Nat):Int)-(0:Nat)=(digitCount (n/d):Int)-1+1:=by lia
  rw [KC e1,KC e2,B7,Cc,Ar d,Ar d];refine⟨(DN hd).mp a,fun z=>?_⟩;have :=(DN hd).mpr z;lia
 ·rw [AD h];have e1:((0:Nat):Int)-(digitCount ((d-1)/n):Nat)= -(digitCount ((d-1)/n):Int):=by lia
  have c:=N1 ((d-1)/n);have e2:((0:Nat):Int)-(digitCount ((d-1)/n)-1:Nat)= -(digitCount ((d-1)/n):Int)+1:=by lia
  rw [KC e1,KC e2,B7,Cc,Ar n,Ar n];have b:=Tu ((d-1)/n);have q0:0< (d-1)/n:=qM (by lia) hn;have a:=N2 q0;constructor
  ·have :=(E_ hn).mp b;lia
  ·have :=(DN hn).mp a;lia
def AAZ(hn:0<n)(hd:0<d)(h1:KA x n d)(h2: ¬KA (x+1) n d):tenExponent n d=x:=by
 obtain⟨a,b⟩:=iw hn hd;have p: ¬(tenExponent n d+1<=x):=fun z=>b (iu z h1)
 have q: ¬(x+1<=tenExponent n d):=fun z=>h2 (iu z a)
 lia
def Tv(hc:0<c):n*c/(d*c)=n/d:=Nat.mul_div_mul_right n d hc
def Tw{n d c:Nat}:n*c%(d*c)=n%d*c:=Nat.mul_mod_mul_right c n d
def Tx(hc:0<c):restOf (r*c) (d*c)=restOf r d:=by
 rw [Ar r,Ar d,XF hc]
def AAa{n d i j:Nat}{p:Int}(h:(i:Int)-j=p):
 ((tens n d p).1/(tens n d p).2,restOf ((tens n d p).1%(tens n d p).2) (tens n d p).2)=((n*10^i)/(d*10^j),restOf ((n*10^i)%(d*10^j)) (d*10^j)):=by
 show((n*10^p.toNat)/(d*10^(-p).toNat),restOf ((n*10^p.toNat)%(d*10^(-p).toNat)) (d*10^(-p).toNat))=_;obtain⟨c,hc⟩: ∃c:Nat,i=p.toNat+c:=⟨i-p.toNat,by lia⟩;have hj:j=(-p).toNat+c:=by lia
 rw [hc,hj,Ap,Ap,<-A6,<-A6,Tv (CW c),Tw,Tx (CW c)]
def Tz{n d k i j:Nat}(h:(i:Int)-j=(k:Int)-1-tenExponent n d):
 kParts n d k=((n*10^i)/(d*10^j),restOf ((n*10^i)%(d*10^j)) (d*10^j)):=AAa h
def N3(hn:0<n)(hd:0<d)(hk:1<=k):10^(k-1)<=(kParts n d k).1/\(kParts n d k).1 <10^k:=by
 obtain⟨a,b⟩:=iw hn hd;have hx:(((k:Int)-1-tenExponent n d).toNat:Int)-((-((k:Int)-1-tenExponent n d)).toNat:Int)=(k:Int)-1-tenExponent n d:=by lia
 rw [Tz hx];dsimp only;generalize ((k:Int)-1-tenExponent n d).toNat=i at *
 generalize (-((k:Int)-1-tenExponent n d)).toNat=j at *
 have e1:((j+(k-1):Nat):Int)-i=tenExponent n d:=by lia
 have e2:((j+k:Nat):Int)-i=tenExponent n d+1:=by lia
 rw [KC e1,Ap,<-A6]at a;rw [KC e2,Ap,<-A6]at b;have hj:0<d*10^j:=BN hd (CW j);constructor
 ·rw [DN hj,Ar];exact a
 ·rw [E_ hj,Ar (10^k)];exact Nat.lt_of_not_le b
def iy(h:n<10):decimal n=[Ki (48+n)]:=by
 unfold decimal;rw [qL h];have :n=0\/n=1\/n=2\/n=3\/n=4\/n=5\/n=6\/n=7\/n=8\/n=9:=by lia
 rcases this with rfl|rfl|rfl|rfl|rfl|rfl|rfl|rfl|rfl|rfl<;>rfl
def i4(h:10<=n):decimal n=decimal (n/10)++[Ki (48+n%10)]:=by
 have a:=iy (n:=n%10) (by lia);unfold decimal at *
 rw [AF8 (by decide) h,Jm];rw [qL (by lia)]at a;rw [<-a]
def LF(n:Nat):(decimal n).length=digitCount n:=by unfold decimal digitCount;simp
def i5{a b c:Nat}{s k:Int}(hc:0<c):ratioAt (a*c) (b*c) s k=ratioAt a b s k:=by
 unfold ratioAt;dsimp only;rw [V6 a,V6 b,Tv hc,Tw,Tx hc]
def T3(ha:0<a)(hb:0<b)(hc:0<c):ratio (a*c) (b*c) s=ratio a b s:=by
 have ea:(ratio (a*c) (b*c) s).at_=(ratio a b s).at_:=by
  funext k;exact i5 hc
 have eb:(ratio (a*c) (b*c) s).above=(ratio a b s).above:=by
  have q: ∀k,k< (ratio (a*c) (b*c) s).above↔k< (ratio a b s).above:=by
   intro k;rw [<-EK (BN ha hc) (BN hb hc),<-EK ha hb,i5 hc]
  have q1:=q ((ratio (a*c) (b*c) s).above);have q2:=q ((ratio a b s).above);lia
 cases h1:ratio (a*c) (b*c) s;cases h2:ratio a b s;rw [h1,h2]at ea eb;dsimp only at ea eb;rw [ea,eb]
def i6(hD:0<D)(hq:0<q)(h:N+δ=q*D)(h0:0<δ)(h2:2*δ<D):(N/D,restOf (N%D) D)=(q-1,3):=by
 have e:N=(D-δ)+D*(q-1):=by
  obtain⟨r,rfl⟩: ∃r,q=r+1:=⟨q-1,by lia⟩;rw [Kf];rw [FZ,Ar r D]at h;lia
 have Bk:D-δ<D:=by lia
 rw [e,bQ _ _ hD,bS,FW Bk,M5 Bk,Jl];unfold restOf;rw [AD (by lia),AD (by lia),AD (by lia)]
def i7(q:Nat):rounded 0 false (q,3)=q+1:=by
 unfold rounded;rw [AG (by simp)]
def i8(hk:place f x=k)(hq:rounded m false (x.at_ k)=q)(hi:magnitude f q k<f.infinity):(round f m false x).1=magnitude f q k:=by
 unfold round;dsimp only;rw [hk,hq,AD (by lia)];unfold signed;rw [AD (by decide)]
def i9(h:f.unit<e):magnitude f (2^(f.fbits+1)) (e-1)=magnitude f (2^f.fbits) e:=by
 unfold magnitude;have ee:(e-f.unit).toNat=(e-1-f.unit).toNat+1:=by lia
 rw [ee,D3,CQ];lia
def AAb{b:Nat}{s:Bool}{m:Nat}{e:Int}{A B i j:Nat}(h:num QUAD b=.fin s m e)(hm:0<m)(hA:0<A)(hB:0<B)
 (Ms:(i:Int)-j=e)(hle:A*2^j<=m*2^i*B)(nV:(m*2^i*B-A*2^j)*10^35<m*2^i*B):
 (round QUAD 0 false (ratio A B 0)).1=A0 QUAD b:=by
 have hf:=K5 h;have Jb:=So hf;have hF:fracOf QUAD b<2^112:=F7 QUAD b;rw [Ft hf]at h;injection h with h1 h2 h3
 have F:QUAD.fbits=112:=rfl;have hU:QUAD.unit= -16494:=by decide
 rw [F]at h2;have Q0:m<2^113:=by
  rw [<-h2];split<;>lia
 have Oe:QUAD.unit<e->2^112<=m:=fun q=>by
  rw [<-h2];split
  ·next c=>rw [c]at h3;lia
  ·lia
 have heU:QUAD.unit<=e:=by lia
 have mg:magnitude QUAD m e=A0 QUAD b:=by
  unfold magnitude;rw [G5,<-h2,<-h3,F];have e0:(QUAD.unit+((expoOf QUAD b-1:Nat):Int)-QUAD.unit).toNat=expoOf QUAD b-1:=by lia
  rw [e0];by_cases c:expoOf QUAD b=0
  ·rw [AG c,c]
  ·rw [AD c];obtain⟨x,hx⟩: ∃x,expoOf QUAD b=x+1:=⟨expoOf QUAD b-1,by lia⟩;rw [hx,Kf,D3];lia
 have hN: ∀(c:Nat)(k:Int),k=e-c->ratioAt A B 0 k=((A*2^j*2^c)/(B*2^i),restOf ((A*2^j*2^c)%(B*2^i)) (B*2^i)):=fun c k hk=>by
  rw [Ci (j+c) i (by lia),Ap,<-A6]
 have Lc: ∀(c:Nat)(k:Int),k=e+c->(ratioAt A B 0 k).1=(A*2^j)/(B*2^i*2^c):=fun c k hk=>by
  rw [Ci j (i+c) (by lia),Ap,<-A6]
 have hD:0<B*2^i:=BN hB (Al i);have eD:m*2^i*B=m*(B*2^i):=by rw [A6,Ar (2^i)]
 rw [eD]at hle nV;have hNp:0<A*2^j:=BN hA (Al j);generalize hNN:A*2^j=N at *
 generalize hDD:B*2^i=D at *
 obtain⟨δ,hδ⟩: ∃δ,N+δ=m*D:=⟨m*D-N,by lia⟩;have AGc:δ*10^35<m*D:=by rwa [show m*D-N=δ by lia]at nV
 have Zz:m*D<=(2^113-1)*D:=B2 _ (by lia);have Of:rounded 0 false (ratioAt A B 0 e)=m:=by
  rw [hN 0 e (by lia),B7,Cc];by_cases z:δ=0
  ·have :N=m*D:=by lia
   rw [this,V7 _ hD,V8];exact Pu 0 false (by rfl)
  ·rw [i6 hD hm hδ (by lia) (by lia),i7];lia
 have ab1:(ratio A B 0).above<=e+113:=by
  have q:=EK (a:=A) (b:=B) (s:=0) (k:=e+113) hA hB;rw [Lc 113 (e+113) (by lia)]at q;have :N/(D*2^113)=0:=FW (by lia);rw [this]at q;lia
 have go: ∀(q:Nat)(k:Int),place QUAD (ratio A B 0)=k->rounded 0 false (ratioAt A B 0 k)=q->magnitude QUAD q k=A0 QUAD b->(round QUAD 0 false (ratio A B 0)).1=A0 QUAD b:=fun q k hk hq hg=>
  (i8 hk hq (by rw [hg];exact Jb)).trans hg
 by_cases he:e=QUAD.unit
 ·refine go m e ?_ Of mg;unfold place;rw [F];lia
 ·have nW:=Oe (by lia);by_cases KU:2^112*D<=N
  ·refine go m e ?_ Of mg;unfold place;rw [F];have q:=EK (a:=A) (b:=B) (s:=0) (k:=e+112) hA hB;rw [Lc 112 (e+112) (by lia)]at q;have :1<=N/(D*2^112):=by
    rw [DN (by lia)];lia
   have :=q.mp this;lia
  ·have Z0:m=2^112:=by
    rcases DW (2^112) m with q|q
    ·have :=B2 D q;rw [FZ]at this;lia
    ·lia
   subst Z0;have z:0<δ:=by lia
   refine go (2^113) (e-1) ?_ ?_ ?_
   ·unfold place;rw [F];have q:=EK (a:=A) (b:=B) (s:=0) (k:=e+111) hA hB;rw [Lc 111 (e+111) (by lia)]at q;have a1:1<=N/(D*2^111):=by
     rw [DN (by lia)];lia
    have a2:=q.mp a1;have q':=EK (a:=A) (b:=B) (s:=0) (k:=e+112) hA hB;rw [Lc 112 (e+112) (by lia)]at q';have :N/(D*2^112)=0:=FW (by lia);rw [this]at q';lia
   ·rw [hN 1 (e-1) (by lia),V2,i6 (q:=2^113) (δ:=2*δ) hD (Al 113) (by lia) (by lia) (by lia)];exact(i7 _).trans (by lia)
   ·rw [<-mg];exact i9 (by lia)
def KD(hm:0<m):0< (twos m e).1/\0< (twos m e).2:=⟨BN hm (Al _),Al _⟩
def AAc(h:num QUAD b=.fin s m e)(hm:0<m):
 readsAs QUAD (A0 QUAD b) (kParts (twos m e).1 (twos m e).2 36).1 (tenExponent (twos m e).1 (twos m e).2-(36:Nat)+1)=true:=by
 obtain⟨hn,hd⟩:=KD (e:=e) hm;generalize hx:tenExponent (twos m e).1 (twos m e).2=x;have hb:=(N3 hn hd (k:=36) (by decide)).1;have hk:((-(x-(36:Nat)+1)).toNat:Int)-((x-(36:Nat)+1).toNat:Int)=((36:Nat):Int)-1-tenExponent (twos m e).1 (twos m e).2:=by lia
 have ek:=Tz hk;generalize hI:(-(x-(36:Nat)+1)).toNat=I at *
 generalize hJ:(x-(36:Nat)+1).toNat=J at *
 generalize hq:(kParts (twos m e).1 (twos m e).2 36).1=q at *
 have Ic:q=(twos m e).1*10^I/((twos m e).2*10^J):=by rw [<-hq,ek]
 have q0:0<q:=by lia
 unfold readsAs;rw [Bi q0,GU,GP];show(round QUAD 0 false (ratio (q*10^(x-(36:Nat)+1).toNat) (1*10^(-(x-(36:Nat)+1)).toNat) 0)).1=_;rw [hI,hJ,B1];have hdp:0< (twos m e).2*10^J:=BN hd (CW J);have l1:q*((twos m e).2*10^J)<=(twos m e).1*10^I:=by
  rw [Ic];exact AF9 _ _
 have l2:(twos m e).1*10^I< (q+1)*((twos m e).2*10^J):=by
  rw [Ic];exact AF_ (VQ _) hdp
 have l3:10^35*((twos m e).2*10^J)<=q*((twos m e).2*10^J):=B2 _ hb;have e1:q*10^J*2^(-e).toNat=q*((twos m e).2*10^J):=by
  show _=q*(2^(-e).toNat*10^J);rw [A6,Ar (10^J)]
 refine AAb h hm (BN q0 (CW J)) (CW I) (i:=e.toNat) (j:=(-e).toNat) (by lia) ?_ ?_
 ·rw [e1];exact l1
 ·rw [e1];show((twos m e).1*10^I-_)*10^35< (twos m e).1*10^I;rw [FZ]at l2;lia
def AAd(h:num QUAD b=.fin s m e)(hm:0<m):
 (beside QUAD (A0 QUAD b) (twos m e).1 (twos m e).2 36).isSome=true:=by
 unfold beside;dsimp only;rw [AAc h hm];split
 ·rfl
 ·first|rfl| (split<;>first|rfl|simp at *)
def AAe(hk:1<=k)(KW:k<=40)(h:beside f b n d k=some x)(hn: ∀j,1<=j->j<k->beside f b n d j=none):fewest f b n d=x:=by
 unfold fewest;have :(Hl ENOUGH).findSome? (fun k=>beside f b n d (k+1))=some x:=by
  rw [AGA];refine⟨Hl (k-1),k-1,(qN k (40-k)),?_,?_,?_⟩
  ·show Hl 40=_;rw [b8,b8,show 40=(k-1)+((40-k)+1) by lia,<-AGB,AGC];congr 2<;>first|lia| (congr 1<;>lia)
  ·rw [show k-1+1=k by lia];exact h
  ·intro j hj;rw [RD]at hj;exact hn (j+1) (by lia) (by lia)
 rw [this];rfl
noncomputable def C4(base:Nat)(c:UInt8):Bool:=(digitOf base c).isSome
noncomputable def val(base n:Nat)(l:Text):Nat:=l.foldl (fun n c=>base*n+(digitOf base c).getD 0) n
noncomputable def Ab(base:Nat)(s:Text):Text:=s.takeWhile (C4 base)
noncomputable def BE(base:Nat)(s:Text):Text:=s.dropWhile (C4 base)
def T4(base:Nat): ∀(s:Text)(n k:Nat),digitRun base n k s=(val base n (Ab base s),k+(Ab base s).length,BE base s)
 | [],n,k=>rfl
 |c::r,n,k=>by
  unfold digitRun;unfold Ab BE;rw [M4,Ln];cases h:digitOf base c with
  |some x=>
   have :C4 base c=true:=by unfold C4;rw [h];rfl
   rw [this];dsimp only;rw [T4 base r,AG rfl,AG rfl];unfold Ab BE val;rw [List.foldl_cons,BU,h];simp only [Option.getD_some];congr 2;lia
  |none=>
   have :C4 base c=false:=by unfold C4;rw [h];rfl
   rw [this];rfl
def split_len(base:Nat)(s:Text):(Ab base s).length+(BE base s).length=s.length:=by
 unfold Ab BE;rw [<-CD,Ow]
def MV(base:Nat): ∀(s:Text)(k:Nat),Ab base (s.take k)=(Ab base s).take k
 | [],k=>by unfold Ab;simp
 |c::r,0=>by unfold Ab;simp
 |c::r,k+1=>by
  have ih:=MV base r k;unfold Ab at *
  rw [Jn,M4,M4];split
  ·rw [Jn,ih]
  ·simp
def QP(base:Nat): ∀(s:Text)(k:Nat),BE base (s.take k)=(BE base s).take (k-(Ab base s).length)
 | [],k=>by unfold BE;simp
 |c::r,0=>by unfold BE;simp
 |c::r,k+1=>by
  have ih:=QP base r k;unfold BE Ab at *
  rw [Jn,Ln,Ln,M4];split
  ·rw [ih,BU,Nat.succ_sub_succ]
  ·simp
noncomputable def BV(s:Text):Nat:=s.length-(leadSign s).2.length
def KG(s:Text):BV s+(leadSign s).2.length=s.length/\(leadSign s).2=s.drop (BV s)/\BV s<=1:=by
 unfold BV;cases s with
 |nil=>exact⟨rfl,rfl,by decide⟩
 |cons c r=>
  unfold leadSign;dsimp only;split
  ·exact⟨by simp only [BU];lia,by simp [show r.length+1-r.length=1 by lia],by simp only [BU];lia⟩
  ·split
   ·exact⟨by simp only [BU];lia,by simp [show r.length+1-r.length=1 by lia],by simp only [BU];lia⟩
   ·exact⟨by dsimp only;lia,by simp,by dsimp only;lia⟩
def YQ(s:Text)(k:Nat)(h:BV s<=k)(hk:1<=k):leadSign (s.take k)=((leadSign s).1,(leadSign s).2.take (k-BV s))/\BV (s.take k)=BV s:=by
 unfold BV at *
 cases s with
 |nil=>exact⟨by simp [leadSign],by simp⟩
 |cons c r=>
  obtain⟨j,rfl⟩: ∃j,k=j+1:=⟨k-1,by lia⟩;rw [Jn];unfold leadSign at *
  dsimp only at *
  split
  ·next q=>
   rw [AG q]at h;refine⟨?_,?_⟩
   ·simp only [BU,show r.length+1-r.length=1 by lia,Kf]
   ·simp only [BU];lia
  ·next q=>
   rw [AD q]at h;split
   ·next q2=>
    rw [AG q2]at h;refine⟨?_,?_⟩
    ·simp only [BU,show r.length+1-r.length=1 by lia,Kf]
    ·simp only [BU];lia
   ·refine⟨?_,?_⟩
    ·simp only [V9,Vk,Jn]
    ·dsimp only;lia
noncomputable def Av(mark:UInt8)(r:Text):Nat×Int:=match r with
 | []=>(0,0)
 |c::r'=>if c=mark/\Ab 10 (leadSign r').2≠[]then(1+BV r'+(Ab 10 (leadSign r').2).length,if(leadSign r').1=true then -(val 10 0 (Ab 10 (leadSign r').2):Int)else(val 10 0 (Ab 10 (leadSign r').2):Int))else(0,0)
def AAf(mark:UInt8)(r:Text)(x:Int):exponentOf mark r=some x↔Av mark r=(r.length,x):=by
 cases r with
 |nil=>unfold exponentOf Av;constructor<;>(intro h;simp at h⊢;lia)
 |cons c r'=>
  unfold exponentOf Av;dsimp only;rw [T4];dsimp only;have l1:=(KG r').1;have l2:=split_len 10 (leadSign r').2;by_cases h:c=mark/\Ab 10 (leadSign r').2≠[]
  ·rw [AG h];have e0:(0+(Ab 10 (leadSign r').2).length≠0):=by
    intro z;exact h.2 (V5.mp (by lia))
   by_cases g:BE 10 (leadSign r').2=[]
   ·rw [AG ⟨h.1,e0,g⟩];rw [g]at l2;constructor
    ·intro z;injection z with z
     rw [z];congr 1;simp only [BU,Cu]at *;lia
    ·intro z;injection z with z1 z2
     rw [z2]
   ·rw [AD (fun z=>g z.2.2)];constructor
    ·intro z;exact absurd z (by simp)
    ·intro z;injection z with z1 z2
     have :(BE 10 (leadSign r').2).length≠0:=fun q=>g (V5.mp q)
     simp only [BU]at z1;lia
  ·rw [AD h,AD (fun z=>h ⟨z.1,fun q=>z.2.1 (by rw [q];rfl)⟩)];constructor
   ·intro z;exact absurd z (by simp)
   ·intro z;injection z with z1 z2
    simp only [BU]at z1;lia
def T5(mark:UInt8)(r:Text):(Av mark r).1<=r.length:=by
 cases r with
 |nil=>exact BO _
 |cons c r'=>
  unfold Av;dsimp only;have l1:=(KG r').1;have l2:=split_len 10 (leadSign r').2;split
  ·simp only [BU];lia
  ·simp
def i_(mark:UInt8)(r:Text)(h:(Av mark r).1=0):Av mark r=(0,0):=by
 cases r with
 |nil=>rfl
 |cons c r'=>
  unfold Av at *
  dsimp only at *
  split at h
  ·dsimp only at h;lia
  ·next q=>rw [AD q]
def AAg(mark:UInt8)(r:Text):Av mark (r.take (Av mark r).1)=Av mark r:=by
 by_cases z:(Av mark r).1=0
 ·rw [i_ mark r z];show Av mark (r.take 0)=_;rw [Ls];rfl
 ·cases r with
  |nil=>rfl
  |cons c r'=>
   have l1:=(KG r').1;by_cases h:c=mark/\Ab 10 (leadSign r').2≠[]
   ·have e:Av mark (c::r')=(1+BV r'+(Ab 10 (leadSign r').2).length,if(leadSign r').1=true then -(val 10 0 (Ab 10 (leadSign r').2):Int)else(val 10 0 (Ab 10 (leadSign r').2):Int)):=by
     unfold Av;dsimp only;rw [AG h]
    rw [e];dsimp only;have hd:0< (Ab 10 (leadSign r').2).length:=List.length_pos_iff.mpr h.2;rw [show 1+BV r'+(Ab 10 (leadSign r').2).length=(BV r'+(Ab 10 (leadSign r').2).length)+1 by lia,Jn];obtain⟨s1,s2⟩:=YQ r' (BV r'+(Ab 10 (leadSign r').2).length) (by lia) (by lia);unfold Av;dsimp only;rw [s1,s2];dsimp only;rw [MV,show BV r'+(Ab 10 (leadSign r').2).length-BV r'=(Ab 10 (leadSign r').2).length by lia,Ip,AG h];congr 1;lia
   ·exfalso;apply z;unfold Av;dsimp only;rw [AD h]
def jA(mark:UInt8)(r:Text)(j:Nat)(hj:j<=r.length)(h:(Av mark (r.take j)).1=j):j<=(Av mark r).1:=by
 by_cases z:j=0
 ·lia
 ·cases r with
  |nil=>simp at hj;lia
  |cons c r'=>
   obtain⟨i,rfl⟩: ∃i,j=i+1:=⟨j-1,by lia⟩;rw [Jn]at h;unfold Av at h⊢;dsimp only at h⊢;by_cases g:c=mark/\Ab 10 (leadSign (r'.take i)).2≠[]
   ·rw [AG g]at h;dsimp only at h;by_cases q:BV r'<=i/\1<=i
    ·obtain⟨s1,s2⟩:=YQ r' i q.1 q.2;rw [s1]at g h;rw [s2]at h;dsimp only at g h;rw [MV]at g h;rw [AG ⟨g.1,fun w=>g.2 (by rw [w,List.take_nil])⟩];dsimp only;rw [DV]at h;lia
    ·exfalso;have i0:i=0:=by
      have :=(KG r').2.2;lia
     subst i0;rw [Ls]at g;exact g.2 rfl
   ·rw [AD g]at h;dsimp only at h;lia
structure QQ where
 d1:Text
 pt:Nat
 d2:Text
 r2:Text
noncomputable def AO(base:Nat)(s:Text):QQ:=
 if(BE base s).head? =some 46 then⟨Ab base s,1,Ab base ((BE base s).drop 1),BE base ((BE base s).drop 1)⟩else⟨Ab base s,0,[],BE base s⟩
noncomputable def QQ.len(p:QQ):Nat:=p.d1.length+p.pt+p.d2.length
noncomputable def QQ.worth(p:QQ)(base:Nat)(x:Int):Nat×Nat:=
 if base=10 then tens (val base (val base 0 p.d1) p.d2) 1 (nearer x-(p.d2.length:Int))else twos (val base (val base 0 p.d1) p.d2) (nearer x-4*(p.d2.length:Int))
noncomputable def DT(base:Nat)(mark:UInt8)(s:Text):Option (Nat×(Nat×Nat)):=
 if(AO base s).d1.length+(AO base s).d2.length=0 then none
 else some ((AO base s).len+(Av mark (AO base s).r2).1,(AO base s).worth base (Av mark (AO base s).r2).2)
def LG(base:Nat)(s:Text):(AO base s).len+(AO base s).r2.length=s.length:=by
 have l1:=split_len base s;unfold AO;split
 ·next h=>
  have l2:=split_len base ((BE base s).drop 1);have :0< (BE base s).length:=by
   cases q:BE base s with
   |nil=>rw [q]at h;simp at h
   |cons c r=>simp
  rw [D1]at l2;unfold QQ.len;dsimp only;lia
 ·unfold QQ.len;dsimp only;simp only [Cu];lia
def QR(base:Nat)(mark:UInt8)(s:Text)(v:Nat×Nat):wholeNumber base mark s=some v↔DT base mark s=some (s.length,v):=by
 have e:wholeNumber base mark s=(if(AO base s).d1.length+(AO base s).d2.length=0 then none else(exponentOf mark (AO base s).r2).map fun x=>(AO base s).worth base x):=by
  unfold wholeNumber AO QQ.worth;dsimp only;rw [T4];dsimp only;split
  ·rw [T4];simp only [Jl]
  ·simp only [Jl];rfl
 rw [e];unfold DT;have hl:=LG base s;split
 ·simp
 ·have ew:=AAf mark (AO base s).r2;cases h:exponentOf mark (AO base s).r2 with
  |none=>
   simp only [AGD];constructor
   ·intro z;exact absurd z (by simp)
   ·intro z;injection z with z
    injection z with z1 z2
    have :=(ew (Av mark (AO base s).r2).2).mpr (Prod.ext (by dsimp only;lia) rfl);rw [h]at this;exact absurd this (by simp)
  |some x=>
   have :=(ew x).mp h;rw [this];simp only [Ka,Rc,Ke];constructor
   ·intro z;exact⟨hl,z⟩
   ·intro z;exact z.2
def YR{l:Text}{k:Nat}(h:0<k):(l.take k).head? =l.head?:=by
 cases l with
 |nil=>simp
 |cons c r=>obtain⟨j,rfl⟩: ∃j,k=j+1:=⟨k-1,by lia⟩;rfl
def AAh(h:k<=(AO base s).d1.length):AO base (s.take k)=⟨(AO base s).d1.take k,0,[],[]⟩:=by
 have e1:(AO base s).d1=Ab base s:=by unfold AO;split<;>rfl
 rw [e1]at h⊢;have :BE base (s.take k)=[]:=by rw [QP,show k-(Ab base s).length=0 by lia,Ls]
 unfold AO;rw [this];simp [MV]
def jB{base:Nat}{s:Text}{k:Nat}(h:(AO base s).d1.length<=k)(h0:(AO base s).pt=0):AO base (s.take k)=⟨(AO base s).d1,0,[],(AO base s).r2.take (k-(AO base s).d1.length)⟩:=by
 have e1:(AO base s).d1=Ab base s:=by unfold AO;split<;>rfl
 have hh: ¬(BE base s).head? =some 46:=by
  intro q;unfold AO at h0;rw [AG q]at h0;exact absurd h0 (by simp)
 have e2:(AO base s).r2=BE base s:=by unfold AO;rw [AD hh]
 rw [e1]at h;rw [e1,e2];unfold AO;rw [QP,MV,Il h];by_cases c:k-(Ab base s).length=0
 ·rw [c,Ls];rfl
 ·rw [YR (by lia),AD hh]
def jC{base:Nat}{s:Text}{k:Nat}(h:(AO base s).d1.length+1<=k)(h0:(AO base s).pt=1):
 AO base (s.take k)=⟨(AO base s).d1,1,(AO base s).d2.take (k-(AO base s).d1.length-1),(AO base s).r2.take (k-(AO base s).len)⟩:=by
 have e1:(AO base s).d1=Ab base s:=by unfold AO;split<;>rfl
 have hh:(BE base s).head? =some 46:=by
  by_cases q:(BE base s).head? =some 46
  ·exact q
  ·unfold AO at h0;rw [AD q]at h0;exact absurd h0 (by simp)
 have e2:(AO base s).r2=BE base ((BE base s).drop 1):=by unfold AO;rw [AG hh]
 have e3:(AO base s).d2=Ab base ((BE base s).drop 1):=by unfold AO;rw [AG hh]
 unfold QQ.len;rw [h0,e1,e2,e3];rw [e1]at h;have hp:BE base (s.take k)=(BE base s).take (k-(Ab base s).length):=QP base s k;have hd:(BE base (s.take k)).drop 1=((BE base s).drop 1).take (k-(Ab base s).length-1):=by
  rw [hp,qO]
 have ZZ:(BE base (s.take k)).head? =some 46:=by rw [hp,YR (by lia),hh]
 have ed:Ab base (s.take k)=Ab base s:=by rw [MV,Il (by lia)]
 have step:AO base (s.take k)=⟨Ab base (s.take k),1,Ab base ((BE base (s.take k)).drop 1),BE base ((BE base (s.take k)).drop 1)⟩:=by
  conv=>lhs;unfold AO
  rw [AG ZZ]
 rw [step,hd,ed,MV,QP];congr 2;lia
def jD(base:Nat)(s:Text):(AO base s).pt=0/\(AO base s).d2=[]\/(AO base s).pt=1:=by
 unfold AO;split
 ·exact Or.inr rfl
 ·exact Or.inl ⟨rfl,rfl⟩
def jE(h:DT base mark s=some (L,v)):L<=s.length/\DT base mark (s.take L)=some (L,v):=by
 have hl:=LG base s;have he:=T5 mark (AO base s).r2;have ht:=AAg mark (AO base s).r2;unfold DT at h;split at h
 ·exact absurd h (by simp)
 ·next hz=>
  injection h with h
  injection h with h1 h2
  refine⟨by lia,?_⟩;have hlen:(AO base s).len=(AO base s).d1.length+(AO base s).pt+(AO base s).d2.length:=rfl;rcases jD base s with⟨p0,p2⟩|p1
  ·have q:=jB (base:=base) (s:=s) (k:=L) (by lia) p0;have l0:(AO base s).d2.length=0:=by rw [p2];rfl
   rw [show L-(AO base s).d1.length=(Av mark (AO base s).r2).1 by lia]at q;unfold DT;rw [q];dsimp only;rw [ht,AD (by rw [Cu];lia)];refine congrArg some (Prod.ext ?_ ?_)
   ·unfold QQ.len;dsimp only;rw [Cu];lia
   ·unfold QQ.worth at h2⊢;dsimp only;rw [p2]at h2;exact h2
  ·have q:=jC (base:=base) (s:=s) (k:=L) (by lia) p1;rw [show L-(AO base s).len=(Av mark (AO base s).r2).1 by lia,Il (show(AO base s).d2.length<=L-(AO base s).d1.length-1 by lia)]at q;unfold DT;rw [q];dsimp only;rw [ht,AD hz];refine congrArg some (Prod.ext ?_ ?_)
   ·unfold QQ.len;dsimp only;lia
   ·unfold QQ.worth at h2⊢;exact h2
def jG(hk:k<=s.length)(h:DT base mark (s.take k)=some (k,v)): ∃L w,DT base mark s=some (L,w)/\k<=L:=by
 have hl:=LG base s;have hlen:(AO base s).len=(AO base s).d1.length+(AO base s).pt+(AO base s).d2.length:=rfl;have fin:(AO base s).d1.length+(AO base s).d2.length≠0->k<=(AO base s).len+(Av mark (AO base s).r2).1-> ∃L w,DT base mark s=some (L,w)/\k<=L:=fun a b=>by
  refine⟨(AO base s).len+(Av mark (AO base s).r2).1,(AO base s).worth base (Av mark (AO base s).r2).2,?_,b⟩;unfold DT;rw [AD a]
 unfold DT at h;split at h
 ·exact absurd h (by simp)
 ·next hz=>
  injection h with h
  injection h with h1 h2
  rcases DW (AO base s).d1.length k with c|c
  ·rcases jD base s with⟨p0,p2⟩|p1
   ·have q:=jB (base:=base) (s:=s) (k:=k) (by lia) p0;have l0:(AO base s).d2.length=0:=by rw [p2];rfl
    rw [q]at hz h1;unfold QQ.len at h1;dsimp only at hz h1;rw [Cu]at hz h1;have :=jA mark (AO base s).r2 (k-(AO base s).d1.length) (by lia) (by lia);exact fin (by lia) (by lia)
   ·have q:=jC (base:=base) (s:=s) (k:=k) (by lia) p1;rw [q]at hz h1;unfold QQ.len at h1;dsimp only at hz h1;rw [DV]at hz h1;rcases DW (AO base s).len k with g|g
    ·have :=jA mark (AO base s).r2 (k-(AO base s).len) (by lia) (by unfold QQ.len;lia);exact fin (by lia) (by lia)
    ·exact fin (by lia) (by lia)
  ·have q:=AAh (base:=base) (s:=s) (k:=k) c;rw [q]at hz h1;dsimp only at hz h1;rw [DV,Cu]at hz;exact fin (by lia) (by lia)
set_option tactic.hygienic true
noncomputable def Ey:Text:=[105,110,102]
noncomputable def Ez:Text:=[105,110,102,105,110,105,116,121]
noncomputable def Eg:Text:=[110,97,110]
noncomputable def DU:Text:=[48,120]
def AAi:ascii "inf"=Ey:=by decide+kernel
def AAj:ascii "infinity"=Ez:=by decide+kernel
def AAk:ascii "nan"=Eg:=by decide+kernel
def AAl:ascii "0x"=DU:=by decide+kernel
noncomputable def Hg(neg:Bool)(r:Text):Option Said:=
 if r=Ey\/r=Ez then some (.inf neg)
 else if r=Eg then some .nan
 else(if r.take 2=DU then wholeNumber 16 112 (r.drop 2)else wholeNumber 10 101 r).map fun x=>.value neg x.1 x.2
def AAm(s:Text):saidBy s=Hg (leadSign s).1 (leadSign s).2:=by
 unfold saidBy Hg;rw [AAi,AAj,AAk,AAl]
noncomputable def IS(neg:Bool)(r:Text):Option (Nat×Said):=
 if r.take 8=Ez then some (8,.inf neg)
 else if r.take 3=Ey then some (3,.inf neg)
 else if r.take 3=Eg then some (3,.nan)
 else match(if r.take 2=DU then DT 16 112 (r.drop 2)else none)with
  |some y=>some (2+y.1,.value neg y.2.1 y.2.2)
  |none=>(DT 10 101 r).map fun y=>(y.1,.value neg y.2.1 y.2.2)
noncomputable def scan(s:Text):Option (Nat×Said):=(IS (leadSign s).1 (leadSign s).2).map fun y=>(BV s+y.1,y.2)
def YS{r:Text}{c:UInt8}(hc:r.head? =some c)(h1:C4 10 c=false)(h2:c≠46)(k:Nat):wholeNumber 10 101 (r.take k)=none:=by
 cases h:wholeNumber 10 101 (r.take k)with
 |none=>rfl
 |some v=>
  exfalso;rw [QR]at h;cases r with
  |nil=>simp at hc
  |cons d r'=>
   have hd:d=c:=by simpa using hc
   subst hd;have e:AO 10 ((d::r').take k)=⟨[],0,[],(d::r').take k⟩:=by
    cases k with
    |zero=>rfl
    |succ j=>
     rw [Jn];unfold AO BE Ab;rw [Ln,M4,h1];simp [h2]
   unfold DT at h;rw [e]at h;simp at h
def F9{r w:Text}(h:r.take k=w)(n:Nat)(hn:w.length=n)(hr:k<=r.length):k=n/\r.take n=w:=by
 have :k=n:=by rw [<-hn,<-h,DV];lia
 subst this;exact⟨rfl,h⟩
def T6{r w:Text}(h:r.take n=w)(hn:w.length=n):n<=r.length:=by
 have :=congrArg Ik h;rw [DV]at this;lia
def QS{r w:Text}(h:r.take n=w)(hw:w.head? =some c):r.head? =some c:=by
 cases n with
 |zero=>rw [Ls]at h;subst h;simp at hw
 |succ j=>rw [<-h,YR (by lia)]at hw;exact hw
def N4{r:Text}{k:Nat}:(r.take k).take 2=DU↔(r.take 2=DU/\2<=k):=by
 rw [List.take_take];constructor
 ·intro h;have hl:=congrArg Ik h;rw [DV]at hl;have :DU.length=2:=rfl;have e:min 2 k=2:=by lia
  rw [e]at h;exact⟨h,by lia⟩
 ·rintro⟨h,hk⟩;rw [show min 2 k=2 by lia];exact h
def AAn(h:IS neg r=some (L,x)):L<=r.length/\Hg neg (r.take L)=some x:=by
 unfold IS at h;split at h
 ·next q=>
  simp only [Rc,Ke]at h;obtain⟨rfl,rfl⟩:=h;exact⟨T6 q rfl,by unfold Hg;rw [q,AG (Or.inr rfl)]⟩
 ·split at h
  ·next q=>
   simp only [Rc,Ke]at h;obtain⟨rfl,rfl⟩:=h;exact⟨T6 q rfl,by unfold Hg;rw [q,AG (Or.inl rfl)]⟩
  ·split at h
   ·next q=>
    simp only [Rc,Ke]at h;obtain⟨rfl,rfl⟩:=h;exact⟨T6 q rfl,by unfold Hg;rw [q,AD (by decide),AG rfl]⟩
   ·next n8 n3 nn=>
    have keep: ∀L,L<=r.length-> ¬(r.take L=Ey\/r.take L=Ez)/\ ¬r.take L=Eg:=fun L hL=>by
     refine⟨?_,fun z=>nn (F9 z 3 rfl hL).2⟩;rintro(z|z)
     ·exact n3 (F9 z 3 rfl hL).2
     ·exact n8 (F9 z 8 rfl hL).2
    split at h
    ·next y hy=>
     split at hy
     ·next q=>
      simp only [Rc,Ke]at h;obtain⟨rfl,rfl⟩:=h;obtain⟨a,b⟩:=jE (L:=y.1) (v:=y.2) hy;rw [D1]at a;have Dc:2<=r.length:=T6 q rfl;have hL:2+y.1<=r.length:=by lia
      refine⟨hL,?_⟩;obtain⟨k1,k2⟩:=keep _ hL;unfold Hg;rw [AD k1,AD k2,AG (N4.mpr ⟨q,by lia⟩),qO,show 2+y.1-2=y.1 by lia];have Z1:((r.drop 2).take y.1).length=y.1:=by rw [DV,D1];lia
      rw [(QR 16 112 ((r.drop 2).take y.1) y.2).mpr (by rw [Z1];exact b)];rfl
     ·exact absurd hy (by simp)
    ·next hy=>
     cases hn:DT 10 101 r with
     |none=>rw [hn]at h;exact absurd h (by simp)
     |some y=>
      rw [hn]at h;simp only [Ka,Rc,Ke]at h;obtain⟨rfl,rfl⟩:=h;obtain⟨a,b⟩:=jE (L:=y.1) (v:=y.2) hn;refine⟨a,?_⟩;obtain⟨k1,k2⟩:=keep _ a;have nh: ¬(r.take y.1).take 2=DU:=by
       intro z;obtain⟨q,q2⟩:=N4.mp z;have e:AO 10 r=⟨[48],0,[],r.drop 1⟩:=by
        obtain⟨r',rfl⟩: ∃r',r=48::120::r':=by
         cases r with
         |nil=>simp [DU]at q
         |cons c r1=>cases r1 with
          |nil=>simp [DU]at q
          |cons d r2=>
           simp [DU]at q;exact⟨r2,by rw [q.1,q.2]⟩
        unfold AO BE Ab;have d1:C4 10 48=true:=by decide
        have d2:C4 10 120=false:=by decide
        rw [Ln,M4,d1,AG rfl,AG rfl,Ln,M4,d2];simp
       have hx:Av 101 (r.drop 1)=(0,0):=by
        obtain⟨r',rfl⟩: ∃r',r=48::120::r':=by
         cases r with
         |nil=>simp [DU]at q
         |cons c r1=>cases r1 with
          |nil=>simp [DU]at q
          |cons d r2=>
           simp [DU]at q;exact⟨r2,by rw [q.1,q.2]⟩
        show Av 101 (120::r')=_;unfold Av;dsimp only;rw [AD (fun w=>absurd w.1 (by decide))]
       unfold DT at hn;rw [e]at hn;dsimp only at hn;rw [hx]at hn;simp [QQ.len]at hn;have :=congrArg Prod.fst hn;dsimp only at this;lia
      unfold Hg;rw [AD k1,AD k2,AD nh];have Z1:(r.take y.1).length=y.1:=by rw [DV];lia
      rw [(QR 10 101 (r.take y.1) y.2).mpr (by rw [Z1];exact b)];rfl
def AAo(hk:k<=r.length)(h:Hg neg (r.take k)=some x): ∃L y,IS neg r=some (L,y)/\k<=L:=by
 have nX:C4 10 105=false:=by decide
 have AFB:C4 10 110=false:=by decide
 have Z2: ∀{w:Text}{n:Nat}{c:UInt8},r.take n=w->w.head? =some c->c≠48-> ¬(r.take k).take 2=DU:=fun {w n c} a b d z=>by
  have q:=QS (N4.mp z).1 (show DU.head? =some 48 from rfl);rw [QS a b]at q;exact d (by injection q)
 unfold Hg at h;unfold IS;by_cases n8:r.take 8=Ez
 ·rw [AG n8];refine⟨8,_,rfl,?_⟩;split at h
  ·next c=>
   rcases c with z|z
   ·have :=(F9 z 3 rfl hk).1;lia
   ·have :=(F9 z 8 rfl hk).1;lia
  ·split at h
   ·next c=>have :=(F9 c 3 rfl hk).1;lia
   ·rw [AD (Z2 n8 (c:=105) rfl (by decide)),YS (QS n8 (c:=105) rfl) nX (by decide)]at h;exact absurd h (by simp)
 ·rw [AD n8];by_cases n3:r.take 3=Ey
  ·rw [AG n3];refine⟨3,_,rfl,?_⟩;split at h
   ·next c=>
    rcases c with z|z
    ·have :=(F9 z 3 rfl hk).1;lia
    ·exact absurd (F9 z 8 rfl hk).2 n8
   ·split at h
    ·next c=>have :=(F9 c 3 rfl hk).1;lia
    ·rw [AD (Z2 n3 (c:=105) rfl (by decide)),YS (QS n3 (c:=105) rfl) nX (by decide)]at h;exact absurd h (by simp)
  ·rw [AD n3];by_cases nn:r.take 3=Eg
   ·rw [AG nn];refine⟨3,_,rfl,?_⟩;split at h
    ·next c=>
     rcases c with z|z
     ·exact absurd (F9 z 3 rfl hk).2 n3
     ·exact absurd (F9 z 8 rfl hk).2 n8
    ·split at h
     ·next c=>have :=(F9 c 3 rfl hk).1;lia
     ·rw [AD (Z2 nn (c:=110) rfl (by decide)),YS (QS nn (c:=110) rfl) AFB (by decide)]at h;exact absurd h (by simp)
   ·rw [AD nn];have k1: ¬(r.take k=Ey\/r.take k=Ez):=by
     rintro(z|z)
     ·exact n3 (F9 z 3 rfl hk).2
     ·exact n8 (F9 z 8 rfl hk).2
    have k2: ¬r.take k=Eg:=fun z=>nn (F9 z 3 rfl hk).2
    rw [AD k1,AD k2]at h;have nY: ∀v,wholeNumber 10 101 (r.take k)=some v-> ∃L w,DT 10 101 r=some (L,w)/\k<=L:=fun v hv=>by
     have :=(QR 10 101 (r.take k) v).mp hv;rw [DV,show min k r.length=k by lia]at this;exact jG hk this
    by_cases hx:r.take 2=DU
    ·rw [AG hx];by_cases c:2<=k
     ·rw [AG (N4.mpr ⟨hx,c⟩),qO]at h;cases hw:wholeNumber 16 112 ((r.drop 2).take (k-2))with
      |none=>rw [hw]at h;exact absurd h (by simp)
      |some v=>
       have :=(QR 16 112 ((r.drop 2).take (k-2)) v).mp hw;have hkd:k-2<=(r.drop 2).length:=by rw [D1];lia
       rw [DV,show min (k-2) (r.drop 2).length=k-2 by lia]at this;obtain⟨L,w,a,b⟩:=jG hkd this;rw [a];exact⟨2+L,_,rfl,by lia⟩
     ·rw [AD (fun z=>c (N4.mp z).2)]at h;cases hw:wholeNumber 10 101 (r.take k)with
      |none=>rw [hw]at h;exact absurd h (by simp)
      |some v=>
       obtain⟨L,w,a,b⟩:=nY v hw;cases h16:DT 16 112 (r.drop 2)with
       |some y=>exact⟨2+y.1,_,rfl,by lia⟩
       |none=>exact⟨L,_,by dsimp only;rw [a];rfl,b⟩
    ·rw [AD hx];rw [AD (fun z=>hx (N4.mp z).1)]at h;cases hw:wholeNumber 10 101 (r.take k)with
     |none=>rw [hw]at h;exact absurd h (by simp)
     |some v=>
      obtain⟨L,w,a,b⟩:=nY v hw;exact⟨L,_,by dsimp only;rw [a];rfl,b⟩
def AAp(neg:Bool):Hg neg []=none:=rfl
def AAq(hL:L<=s.length)(h:saidBy (s.take L)=some x)(hm: ∀k,L<k->k<=s.length->saidBy (s.take k)=none):longest s=some (L,x):=by
 unfold longest;rw [AGA];refine⟨(qN (L+1) (s.length-L)).reverse,L,(Hl L).reverse,?_,?_,?_⟩
 ·have e:Hl (s.length+1)=Hl L++L::qN (L+1) (s.length-L):=by
   rw [b8,b8,show s.length+1=L+((s.length-L)+1) by lia,<-AGB,AGC];congr 2<;>first|lia| (congr 1<;>lia)
  rw [e];simp
 ·rw [h];rfl
 ·intro k hk;rw [bM,List.mem_range']at hk;obtain⟨i,hi,rfl⟩:=hk;rw [hm _ (by lia) (by lia)];rfl
def AAr(hm: ∀k,k<=s.length->saidBy (s.take k)=none):longest s=none:=by
 unfold longest;rw [List.findSome?_eq_none_iff];intro k hk;rw [bM,RD]at hk;rw [hm k (by lia)];rfl
def AAs(s:Text):longest s=scan s:=by
 obtain⟨sl,sd,s1⟩:=KG s;have small: ∀k,k<=s.length->BV s<=k->1<=k->saidBy (s.take k)=Hg (leadSign s).1 ((leadSign s).2.take (k-BV s)):=fun k hk h1 h2=>by
  rw [AAm,(YQ s k h1 h2).1]
 have zero:saidBy (s.take 0)=none:=by rw [Ls];rfl
 have max: ∀k x,k<=s.length->saidBy (s.take k)=some x-> ∃L y,IS (leadSign s).1 (leadSign s).2=some (L,y)/\k<=BV s+L:=fun k x hk h=>by
  by_cases k0:k=0
  ·subst k0;rw [zero]at h;exact absurd h (by simp)
  ·rw [small k hk (by lia) (by lia)]at h;obtain⟨L,y,a,b⟩:=AAo (by lia) h;exact⟨L,y,a,by lia⟩
 unfold scan;cases hs:IS (leadSign s).1 (leadSign s).2 with
 |none=>
  refine AAr fun k hk=>?_
  cases h:saidBy (s.take k)with
  |none=>rfl
  |some x=>
   obtain⟨L,y,a,b⟩:=max k x hk h;rw [hs]at a;exact absurd a (by simp)
 |some y=>
  obtain⟨a,b⟩:=AAn (L:=y.1) (x:=y.2) hs;have y0:1<=BV s+y.1:=by
   rcases Dq y.1 with q|q
   ·rw [q,Ls,AAp]at b;exact absurd b (by simp)
   ·lia
  refine AAq (by lia) ?_ ?_
  ·rw [small _ (by lia) (by lia) y0,show BV s+y.1-BV s=y.1 by lia];exact b
  ·intro k Ep KW;cases h:saidBy (s.take k)with
   |none=>rfl
   |some x=>
    obtain⟨L,z,c,d⟩:=max k x KW h;rw [hs]at c;injection c with c
    rw [c]at Ep;dsimp only at Ep;lia
set_option tactic.hygienic false
def T7(m:Mode)(neg:Bool)(x:Nat×Rest):x.1<=rounded m neg x/\rounded m neg x<=x.1+1:=by
 rcases K4 m neg x with h|h<;>lia
def jH(hE:2<=f.ebits)(ha:0<a)(hb:0<b)(h:1<=(ratioAt a b s (f.bias+1)).1):round f m neg (ratio a b s)=(beyond f m neg,OF+NX):=by
 have hab:f.bias+1< (ratio a b s).above:=(EK ha hb).mp h;have hu:f.unit=1-f.bias-(f.fbits:Int):=rfl;have LQ:=XN f;have hbn:0<=f.bias:=by unfold p7;lia
 have pk:place f (ratio a b s)=(ratio a b s).above-1-(f.fbits:Int):=by unfold place;lia
 generalize hk:(ratio a b s).above-1-(f.fbits:Int)=k at *
 have top:1<=(ratioAt a b s (k+f.fbits)).1:=(EK ha hb).mpr (by lia);have q1:2^f.fbits<=(ratioAt a b s k).1:=by
  have e1:=Ci (a:=a) (b:=b) (s:=s) (k:=k) (s-k).toNat (k-s).toNat (by lia);have e2:=Ci (a:=a) (b:=b) (s:=s) (k:=k+f.fbits) (s-k).toNat ((k-s).toNat+f.fbits) (by lia);rw [e2]at top;dsimp only at top;rw [e1];dsimp only;rw [DN (BN hb (Al _))]at top⊢;rw [B1,Ap,<-A6]at top;rw [Ar (2^f.fbits)];lia
 have q2:=(T7 m neg (ratioAt a b s k)).1;have hp:2^f.ebits=2*2^(f.ebits-1):=by rw [<-Nat.pow_succ'];congr 1;lia
 have ov:f.infinity<=magnitude f (rounded m neg (ratioAt a b s k)) k:=by
  unfold M6 magnitude;have :2^f.ebits-2<=(k-f.unit).toNat:=by
   have :((2^f.ebits:Nat):Int)=2*((2^(f.ebits-1):Nat):Int):=by lia
   lia
  have t:=B2 (2^f.fbits) this;have t2:(2^f.ebits-1)*2^f.fbits=(2^f.ebits-2)*2^f.fbits+2^f.fbits:=by
   have h4:2^2<=2^f.ebits:=CG hE;rw [show 2^f.ebits-1=(2^f.ebits-2)+1 by lia,FZ]
  lia
 unfold round;dsimp only;rw [pk,AG (show f.infinity<=magnitude f (rounded m neg ((ratio a b s).at_ k)) k from ov)]
def jI(hE:2<=f.ebits)(ha:0<a)(hb:0<b)(h:(ratioAt a b s (f.unit-1)).1=0):
 round f m neg (ratio a b s)=(signed f neg (rounded m neg (0,1)),UF+NX):=by
 have hab:(ratio a b s).above<=f.unit-1:=by
  have :=EK (a:=a) (b:=b) (s:=s) (k:=f.unit-1) ha hb;lia
 have hu:f.unit=1-f.bias-(f.fbits:Int):=rfl;have pk:place f (ratio a b s)=f.unit:=by unfold place;lia
 have e1:=Ci (a:=a) (b:=b) (s:=s) (k:=f.unit-1) (s-(f.unit-1)).toNat ((f.unit-1)-s).toNat (by lia);have e2:=Ci (a:=a) (b:=b) (s:=s) (k:=f.unit) (s-(f.unit-1)).toNat (((f.unit-1)-s).toNat+1) (by lia);rw [e1]at h;dsimp only at h;generalize hN:a*2^(s-(f.unit-1)).toNat=N at *
 have hN0:0<N:=by rw [<-hN];exact BN ha (Al _)
 have hD0:0<b*2^((f.unit-1)-s).toNat:=BN hb (Al _);rw [CQ,<-A6]at e2;generalize b*2^((f.unit-1)-s).toNat=D at *
 have Bk:N<D:=by
  rcases DW N D with q|q
  ·exact q
  ·have :=qM q hD0;lia
 have at_:ratioAt a b s f.unit=(0,1):=by
  rw [e2,FW (by lia),M5 (by lia)];unfold restOf;rw [AD (by lia),AG (by lia)]
 have tn:tiny f m neg (ratio a b s)=true:=by
  unfold tiny;dsimp only;rw [Bw];generalize hk:(ratio a b s).above-1-(f.fbits:Int)=k;have nb: ¬1<=(ratioAt a b s (k+(f.fbits+1:Nat))).1:=fun z=>by
   have :=(EK ha hb).mp z;lia
  have q1:(ratioAt a b s k).1 <2^(f.fbits+1):=by
   have e3:=Ci (a:=a) (b:=b) (s:=s) (k:=k) (s-k).toNat (k-s).toNat (by lia);have e4:=Ci (a:=a) (b:=b) (s:=s) (k:=k+(f.fbits+1:Nat)) (s-k).toNat ((k-s).toNat+(f.fbits+1)) (by lia);rw [e4]at nb;dsimp only at nb;rw [e3];dsimp only;rw [E_ (BN hb (Al _))];rw [DN (BN hb (Al _)),B1,Ap 2 (k-s).toNat,<-A6]at nb;rw [Ar (2^(f.fbits+1))];lia
  have q2:=(T7 m neg (ratioAt a b s k)).2;have q3:(rounded m neg ((ratio a b s).at_ k)).log2<=f.fbits+1:=by
   show(rounded m neg (ratioAt a b s k)).log2<=_;by_cases z:rounded m neg (ratioAt a b s k)=0
   ·rw [z];simp
   ·have :=(Jj z (k:=f.fbits+2)).mpr (by rw [CQ];have :=Al (f.fbits+1);lia);lia
  lia
 have hi:magnitude f (rounded m neg (0,1)) f.unit<f.infinity:=by
  unfold magnitude;have :=(T7 m neg ((0,1):Nat×Rest)).2;rw [Int.sub_self];have h3:3*2^f.fbits<=f.infinity:=by
   unfold M6;have h4:2^2<=2^f.ebits:=CG hE;exact B2 _ (by lia)
  have :=Al f.fbits;simp only [Int.toNat_zero,Jk,Jl];lia
 unfold round;dsimp only;rw [pk];have at2:(ratio a b s).at_ f.unit=(0,1):=at_;rw [at2,AD (by lia),tn];unfold magnitude;rw [Int.sub_self];simp
def T8(hD:0<D):rounded 0 false (N/D,restOf (N%D) D)=c↔
 ((2*N< (2*c+1)*D\/(2*N=(2*c+1)*D/\c%2=0))/\(2*c*D<2*N+D\/(2*c*D=2*N+D/\c%2=0))):=by
 have e:=Gy N D;have hr:=Dg N hD;generalize hq:N/D=q at *
 generalize U8:N%D=r at *
 have ru:rounded 0 false (q,restOf r D)=if D<2*r\/(2*r=D/\q%2=1)then q+1 else q:=by
  have r3: ∀(x:Rest),rounded 0 false (q,x)=if x=3\/(x=2/\q%2=1)then q+1 else q:=fun x=>by
   unfold rounded;dsimp only;by_cases h1:x=3
   ·subst h1;simp
   ·by_cases h2:x=2
    ·subst h2;simp
    ·simp [h1,h2]
  have r4:(restOf r D=3↔D<2*r)/\(restOf r D=2↔2*r=D):=by
   unfold restOf;by_cases r0:r=0
   ·rw [AG r0];exact⟨⟨fun z=>absurd z (by decide),fun z=>by lia⟩,⟨fun z=>absurd z (by decide),fun z=>by lia⟩⟩
   ·rw [AD r0];by_cases r1:2*r<D
    ·rw [AG r1];exact⟨⟨fun z=>absurd z (by decide),fun z=>by lia⟩,⟨fun z=>absurd z (by decide),fun z=>by lia⟩⟩
    ·rw [AD r1];by_cases r2:2*r=D
     ·rw [AG r2];exact⟨⟨fun z=>absurd z (by decide),fun z=>by lia⟩,⟨fun z=>r2,fun z=>rfl⟩⟩
     ·rw [AD r2];exact⟨⟨fun z=>by lia,fun z=>rfl⟩,⟨fun z=>absurd z (by decide),fun z=>by lia⟩⟩
  rw [r3];simp only [r4.1,r4.2]
 rw [ru];have m1:(2*c+1)*D=2*(c*D)+D:=by rw [FZ,A6]
 have m2:2*c*D=2*(c*D):=A6 _ _ _;rw [m1,m2];have qd:D*q=q*D:=Ar _ _;rw [qd]at e;rcases HG c q with h|h|h
 ·have :=B2 D h;rw [FZ]at this;constructor
  ·intro z;split at z<;>lia
  ·intro z;lia
 ·subst h;constructor
  ·intro z;split at z
   ·lia
   ·lia
  ·intro z;rw [AD (by lia)]
 ·rcases DW (q+1) c with g|g
  ·have :=B2 D g;rw [FZ,FZ]at this;constructor
   ·intro z;split at z<;>lia
   ·intro z;lia
  ·have :c=q+1:=by lia
   subst this;have s1:(q+1)*D=q*D+D:=FZ _ _;rw [s1];clear m1 m2 ru;constructor
   ·intro z;split at z
    ·lia
    ·lia
   ·intro z;rw [AG (by lia)]
noncomputable def CM(m:Nat)(e:Int):Nat:=if m=2^112/\QUAD.unit<e then 4*m-1 else 4*m-2
def Back(m:Nat)(e:Int)(N D:Nat):Prop:=
 (CM m e*D<4*N\/(CM m e*D=4*N/\m%2=0))/\(4*N< (4*m+2)*D\/(4*N=(4*m+2)*D/\m%2=0))
def AAt:beyond QUAD 0 false=QUAD.infinity:=by
 unfold beyond signed;simp
def AAu{P D N:Nat}(hP:1<=4*P)(h2:P%2=0)(h:4*P*D<=2*(N*2)+D):(4*P-1)*D<4*N\/((4*P-1)*D=4*N/\P%2=0):=by
 rw [Lo,B1];have :=Rg D hP;generalize 4*P*D=X at *
 rcases DW (X-D) (4*N)with q|q
 ·exact .inl q
 ·exact .inr ⟨by lia,h2⟩
def AAv{P D N:Nat}(hP:1<=4*P)(h:(4*P-1)*D<=4*N):4*P*D<=4*N+D:=by
 rw [Lo,B1]at h;generalize 4*P*D=X at *
 lia
def AAw(Q4:4*2^112*D<=4*N+D)(KU: ¬2^112*D<=N):D*2^111<=N/\ ¬D*2^112<=N/\2*(N*2) < (2*2^113+1)*D/\
 (2*2^113*D<2*(N*2)+D\/(2*2^113*D=2*(N*2)+D/\2^113%2=0)):=by
 have e2:2^112=2^111*2:=by decide+kernel
 have e3:2^113=2^111*2*2:=by decide+kernel
 have hp:1<=2^111:=by decide+kernel
 rw [e3,V8,Ar D (2^111),Ar D (2^112)];rw [e2]at Q4 KU⊢;clear e2 e3;generalize 2^111=P at *
 have a1:4*(P*2)*D=8*(P*D):=by rw [Ar P 2,<-A6,A6]
 have a2:P*2*D=2*(P*D):=by rw [Ar P 2,A6]
 have a3:2*(P*2*2)*D=8*(P*D):=by rw [show 2*(P*2*2)=8*P by lia,A6]
 have a4:(2*(P*2*2)+1)*D=8*(P*D)+D:=by rw [FZ,a3]
 have a5:D<=P*D:=Rg _ hp;rw [a1]at Q4;rw [a2]at KU⊢;rw [a3,a4];generalize P*D=X at *
 refine⟨by lia,by lia,by lia,?_⟩;rcases DW (8*X) (2*(N*2)+D)with q|q
 ·exact .inl q
 ·exact .inr ⟨by lia,rfl⟩
def AAx{b:Nat}{s:Bool}{m:Nat}{e:Int}{A B i j:Nat}(h:num QUAD b=.fin s m e)(hm:0<m)(hA:0<A)(hB:0<B)
 (Ms:(i:Int)-j=e):(round QUAD 0 false (ratio A B 0)).1=A0 QUAD b↔Back m e (A*2^j) (B*2^i):=by
 have hf:=K5 h;have Jb:=So hf;have hF:fracOf QUAD b<2^112:=F7 QUAD b;rw [Ft hf]at h;injection h with h1 h2 h3
 have F:QUAD.fbits=112:=rfl;have hU:QUAD.unit= -16494:=by decide
 rw [F]at h2;have Q0:m<2^113:=by
  rw [<-h2];split<;>lia
 have Oe:QUAD.unit<e->2^112<=m:=fun q=>by
  rw [<-h2];split
  ·next c=>rw [c]at h3;lia
  ·lia
 have heU:QUAD.unit<=e:=by lia
 have mg:magnitude QUAD m e=A0 QUAD b:=by
  unfold magnitude;rw [G5,<-h2,<-h3,F];have e0:(QUAD.unit+((expoOf QUAD b-1:Nat):Int)-QUAD.unit).toNat=expoOf QUAD b-1:=by lia
  rw [e0];by_cases c:expoOf QUAD b=0
  ·rw [AG c,c]
  ·rw [AD c];obtain⟨x,hx⟩: ∃x,expoOf QUAD b=x+1:=⟨expoOf QUAD b-1,by lia⟩;rw [hx,Kf,D3];lia
 have hN: ∀(c:Nat)(k:Int),k=e-c->ratioAt A B 0 k=((A*2^j*2^c)/(B*2^i),restOf ((A*2^j*2^c)%(B*2^i)) (B*2^i)):=fun c k hk=>by
  rw [Ci (j+c) i (by lia),Ap,<-A6]
 have Lc: ∀(c:Nat)(k:Int),k=e+c->(ratioAt A B 0 k).1=(A*2^j)/(B*2^i*2^c):=fun c k hk=>by
  rw [Ci j (i+c) (by lia),Ap,<-A6]
 have hD:0<B*2^i:=BN hB (Al i);have hNp:0<A*2^j:=BN hA (Al j);generalize hNN:A*2^j=N at *
 generalize hDD:B*2^i=D at *
 have Ld: ∀c:Nat,(e+c< (ratio A B 0).above↔D*2^c<=N):=fun c=>by
  rw [<-EK hA hB,Lc c _ rfl,DN (BN hD (Al c)),B1]
 have CB:place QUAD (ratio A B 0)=max QUAD.unit ((ratio A B 0).above-113):=by
  unfold place;rw [F];lia
 unfold Back;constructor
 ·intro hr;have key:magnitude QUAD (rounded 0 false (ratioAt A B 0 (place QUAD (ratio A B 0)))) (place QUAD (ratio A B 0))=A0 QUAD b:=by
   unfold round at hr;dsimp only at hr;split at hr
   ·rw [AAt]at hr;dsimp only at hr;lia
   ·unfold signed at hr;rw [AD (by decide)]at hr;exact hr
  have Og:QUAD.unit<place QUAD (ratio A B 0)->2^112<=(ratioAt A B 0 (place QUAD (ratio A B 0))).1:=fun q=>by
   have q1:1<=(ratioAt A B 0 (place QUAD (ratio A B 0)+112)).1:=(EK hA hB).mpr (by lia);generalize place QUAD (ratio A B 0)=k at *
   rw [Ci (0-k).toNat (k+112-0+(0-k).toNat).toNat (by lia)]at q1;dsimp only at q1;obtain⟨t,ht⟩: ∃t:Nat,k+(0-k).toNat=(t:Int):=⟨(k+(0-k).toNat).toNat,by lia⟩;have e1:(k+112-0+(0-k).toNat).toNat=t+112:=by lia
   rw [e1]at q1;have Z3:0<B*2^(t+112):=BN hB (Al _);rw [DN Z3,B1]at q1;rw [Ci (0-k).toNat t (by lia)];dsimp only;rw [DN (BN hB (Al _))];rw [Ap,<-A6]at q1;lia
  have Bk:(ratioAt A B 0 (place QUAD (ratio A B 0))).1 <2^113:=by
   have q1: ¬1<=(ratioAt A B 0 (place QUAD (ratio A B 0)+113)).1:=fun z=>by
    have :=(EK hA hB).mp z;lia
   generalize place QUAD (ratio A B 0)=k at *
   rw [Ci (0-k).toNat (k+113-0+(0-k).toNat).toNat (by lia)]at q1;dsimp only at q1;obtain⟨t,ht⟩: ∃t:Nat,k+(0-k).toNat=(t:Int):=⟨(k+(0-k).toNat).toNat,by lia⟩;have e1:(k+113-0+(0-k).toNat).toNat=t+113:=by lia
   rw [e1]at q1;have Z3:0<B*2^(t+113):=BN hB (Al _);rw [DN Z3,B1]at q1;rw [Ci (0-k).toNat t (by lia)];dsimp only;rw [E_ (BN hB (Al _))];rw [Ap,<-A6]at q1;lia
  have hc:=K4 0 false (ratioAt A B 0 (place QUAD (ratio A B 0)));have hpu:QUAD.unit<=place QUAD (ratio A B 0):=by lia
  generalize hk:place QUAD (ratio A B 0)=k at *
  generalize GI:rounded 0 false (ratioAt A B 0 k)=c at *
  rw [<-mg]at key;unfold magnitude at key;rw [F]at key;obtain⟨K,hK⟩: ∃K:Nat,k-QUAD.unit=(K:Int):=⟨(k-QUAD.unit).toNat,by lia⟩;obtain⟨E,hE⟩: ∃E:Nat,e-QUAD.unit=(E:Int):=⟨(e-QUAD.unit).toNat,by lia⟩;have eK:(k-QUAD.unit).toNat=K:=by lia
  have eE:(e-QUAD.unit).toNat=E:=by lia
  rw [eK,eE]at key;have both:(k=e/\c=m)\/(k=e-1/\c=2^113/\m=2^112):=by
   rcases HG K E with q|q|q
   ·right;obtain⟨t,rfl⟩: ∃t,E=K+1+t:=⟨E-K-1,by lia⟩;have m2:=Oe (by lia);rw [D3,D3]at key;rcases Dq t with z|z
    ·subst z;lia
    ·have :=B2 (2^112) z;lia
   ·left;subst q;lia
   ·exfalso;obtain⟨t,rfl⟩: ∃t,K=E+1+t:=⟨K-E-1,by lia⟩;have m2:=Og (by lia);rw [D3,D3]at key;lia
  rcases both with⟨rfl,rfl⟩|⟨rfl,rfl,rfl⟩
  ·rw [hN 0 k (by lia),B7,Cc,T8 hD]at GI;have m1:(2*c+1)*D=2*(c*D)+D:=by rw [FZ,A6]
   have m2:2*c*D=2*(c*D):=A6 _ _ _;rw [m1,m2]at GI;have m3:(4*c+2)*D=4*(c*D)+2*D:=by rw [D3,A6]
   rw [m3];refine⟨?_,by lia⟩;unfold CM;split
   ·next q=>
    have a:=Og q.2;have e4:(4*c-1)*D=4*(c*D)-D:=by rw [Lo,B1,A6]
    rw [hN 0 k (by lia),B7,Cc]at a;dsimp only at a;rw [DN hD]at a;rw [e4,q.1];left;lia
   ·have e4:(4*c-2)*D=4*(c*D)-2*D:=by rw [Lo,A6]
    rw [e4];have :D<=c*D:=Rg _ hm;lia
  ·have up:=(not_congr (Ld 112)).mp (by clear key Og Bk hc GI hK hE eK eE mg h2 h3 Jb Q0 hF;lia);have hu:QUAD.unit<e:=by clear key Og Bk hc GI mg h2 h3 Jb Q0 hF;lia
   rw [hN 1 (e-1) (by clear key Og Bk hc GI mg h2 h3 Jb Q0 hF;lia),V2,T8 hD]at GI;have Q5:2*2^113*D<=2*(N*2)+D:=by
    rcases GI.2 with q|q
    ·exact KZ q
    ·exact Om q.1
   clear key Og Bk hc hK hE eK eE mg h2 h3 GI Ld CB hN Lc hr Oe;refine⟨?_,?_⟩
   ·unfold CM;rw [AG ⟨rfl,hu⟩];have e5:2*2^113=4*2^112:=by decide+kernel
    rw [e5]at Q5;exact AAu (by decide+kernel) (by decide+kernel) Q5
   ·left;lia
 ·rintro⟨HD,Q6⟩;have m3:(4*m+2)*D=4*(m*D)+2*D:=by rw [D3,A6]
  rw [m3]at Q6;have Zz:m*D<=(2^113-1)*D:=B2 _ (by lia);have mD:D<=m*D:=Rg _ hm;have VD:4*(m*D) <4*N+2*D\/(4*(m*D)=4*N+2*D/\m%2=0):=by
   clear Q6 Ld CB;unfold CM at HD;split at HD
   ·have e4:(4*m-1)*D=4*(m*D)-D:=by rw [Lo,B1,A6]
    rw [e4]at HD;left;rcases HD with h|h<;>lia
   ·have e4:(4*m-2)*D=4*(m*D)-2*D:=by rw [Lo,A6]
    rw [e4]at HD;rcases HD with h|h
    ·left;lia
    ·right;exact⟨by lia,h.2⟩
  have Of:rounded 0 false (ratioAt A B 0 e)=m:=by
   rw [hN 0 e (by lia),B7,Cc,T8 hD];have m1:(2*m+1)*D=2*(m*D)+D:=by rw [FZ,A6]
   have m2:2*m*D=2*(m*D):=A6 _ _ _;rw [m1,m2];refine⟨?_,?_⟩
   ·rcases Q6 with h|⟨h,p⟩
    ·left;lia
    ·right;exact⟨by lia,p⟩
   ·rcases VD with h|⟨h,p⟩
    ·left;lia
    ·right;exact⟨by lia,p⟩
  have U3:N<2^113*D:=by
   clear VD HD;rcases Q6 with h|h<;>lia
  have Z4:(4*m-2)*D<=4*N:=by
   have e4:(4*m-2)*D=4*(m*D)-2*D:=by rw [Lo,A6]
   rw [e4];rcases VD with h|h<;>lia
  have ab1: ¬e+(113:Nat) < (ratio A B 0).above:=(not_congr (Ld 113)).mpr (by rw [Ar];exact Nat.not_le.mpr U3);clear VD Q6 m3;have go: ∀(q:Nat)(k:Int),place QUAD (ratio A B 0)=k->rounded 0 false (ratioAt A B 0 k)=q->magnitude QUAD q k=A0 QUAD b->(round QUAD 0 false (ratio A B 0)).1=A0 QUAD b:=fun q k hk hq hg=>
   (i8 hk hq (by rw [hg];exact Jb)).trans hg
  by_cases he:e=QUAD.unit
  ·exact go m e (by lia) Of mg
  ·have nW:=Oe (by lia);by_cases KU:2^112*D<=N
   ·have :=(Ld 112).mpr (by lia);exact go m e (by lia) Of mg
   ·have Z0:m=2^112:=by
     rcases DW (2^112) m with q|q
     ·exfalso;have :=B2 D (show 4*2^112+2<=4*m-2 by lia);have z:=A9 this Z4;clear HD this Z4 Zz mD;lia
     ·lia
    subst Z0;unfold CM at HD;rw [AG ⟨rfl,by lia⟩]at HD;have Q5:(4*2^112-1)*D<=4*N:=by
     rcases HD with h|h
     ·exact KZ h
     ·exact Om h.1
    have Q4:=AAv (by decide+kernel) Q5;obtain⟨n1,n2,n3,n4⟩:=AAw Q4 KU;have hN':ratioAt A B 0 (e-1)=(N*2/D,restOf (N*2%D) D):=by rw [hN 1 (e-1) (by lia),V2]
    have a1:=(Ld 111).mpr n1;have a2:=(not_congr (Ld 112)).mpr n2;clear HD Q5 Q4 Z4 Zz mD n1 n2 KU U3 Ld Q0 nW Oe hN Lc Of hF h2 h3;have pl:place QUAD (ratio A B 0)=e-1:=by
     rw [CB];clear go n3 n4 CB Jb mg;generalize (ratio A B 0).above=z at *
     lia
    refine go (2^113) (e-1) pl ?_ (by rw [<-mg];exact i9 (show QUAD.unit<e by clear go n3 n4 Jb mg CB;lia));rw [hN',T8 hD];exact⟨.inl n3,n4⟩
def jJ(hB:0<B)(hD:0<D)(h:A*D=N*B):A/B=N/D/\restOf (A%B) B=restOf (N%D) D:=by
 have e1:A/B=A*D/(B*D):=(Tv hD).symm;have e2:N/D=N*B/(D*B):=(Tv hB).symm;have e3:A%B*D=N%D*B:=by rw [<-Tw,<-Tw,h,Ar B D]
 refine⟨by rw [e1,e2,h,Ar B D],?_⟩;rw [<-Tx (r:=A%B) (d:=B) hD,<-Tx (r:=N%D) (d:=D) hB,e3,Ar B D]
def AAy(ha:0<a)(hb:0<b)(hc:0<c)(hd:0<d)(h:a*d=c*b):ratio a b s=ratio c d s:=by
 rw [<-T3 ha hb hd,h,Ar b d,T3 hc hd hb]
noncomputable def BG(p g:Int):Nat:=10^(-g).toNat*2^p.toNat
noncomputable def Aw(p g:Int):Nat:=10^g.toNat*2^(-p).toNat
def AAz(d:Nat):restOf 0 d=0:=by unfold restOf;rw [AG rfl]
def JN(p g:Int):0<BG p g/\0<Aw p g:=⟨BN (CW _) (Al _),BN (CW _) (Al _)⟩
def YT(c:Nat)(g:Int):tens c 1 g=(c*10^g.toNat,1*10^(-g).toNat):=rfl
def T9(m:Nat)(e g:Int)(c:Nat):Prop:=
 (CM m e*BG (e-2) g<c*Aw (e-2) g\/(CM m e*BG (e-2) g=c*Aw (e-2) g/\m%2=0))/\
 (c*Aw (e-2) g< (4*m+2)*BG (e-2) g\/(c*Aw (e-2) g=(4*m+2)*BG (e-2) g/\m%2=0))
def jK(h:num QUAD b=.fin s m e)(hm:0<m)(hc:0<c):readsAs QUAD (A0 QUAD b) c g=true↔T9 m e g c:=by
 unfold readsAs;rw [Bi hc,GU,GP,YT];dsimp only;rw [AAx h hm (A:=c*10^g.toNat) (B:=1*10^(-g).toNat) (i:=(e-2).toNat+2) (j:=(-(e-2)).toNat) (BN hc (CW _)) (BN Iy (CW _)) (by lia)];unfold Back T9 BG Aw;have e1:1*10^(-g).toNat*2^((e-2).toNat+2)=4*(10^(-g).toNat*2^(e-2).toNat):=by
  rw [B1,Ap,<-A6,Ar _ (2^2)]
 have e2:c*10^g.toNat*2^(-(e-2)).toNat=c*(10^g.toNat*2^(-(e-2)).toNat):=A6 _ _ _;rw [e1,e2];generalize 10^(-g).toNat*2^(e-2).toNat=V;generalize c*(10^g.toNat*2^(-(e-2)).toNat)=Y;generalize CM m e=L;have e3:L*(4*V)=4*(L*V):=Hs _ _ _;have e4:(4*m+2)*(4*V)=4*((4*m+2)*V):=Hs _ _ _;rw [e3,e4];generalize L*V=P;generalize (4*m+2)*V=R;have f1:(4*P<4*Y)↔P<Y:=by lia
 have f2:(4*P=4*Y)↔P=Y:=by lia
 have f3:(4*Y<4*R)↔Y<R:=by lia
 have f4:(4*Y=4*R)↔Y=R:=by lia
 rw [f1,f2,f3,f4]
def jL{f:Fmt}{b c t:Nat}{p:Int}(hc:0<c):readsAs f b (c*10^t) p=readsAs f b c (p+t):=by
 unfold readsAs;have nZ:0<c*10^t:=BN hc (CW t);rw [Bi hc,Bi nZ,YT,YT];dsimp only;rw [AAy (a:=c*10^t*10^p.toNat) (b:=1*10^(-p).toNat) (c:=c*10^(p+t).toNat) (d:=1*10^(-(p+t)).toNat) (BN nZ (CW _)) (BN Iy (CW _)) (BN hc (CW _)) (BN Iy (CW _))];rw [B1,B1,A6,A6,A6,<-Ap,<-Ap,<-Ap];congr 2;lia
def YU(hx:tenExponent (twos m e).1 (twos m e).2=x)(hk:k<=36):
 kParts (twos m e).1 (twos m e).2 k=(4*m*BG (e-2) (x-35)/(Aw (e-2) (x-35)*10^(36-k)),restOf (4*m*BG (e-2) (x-35)%(Aw (e-2) (x-35)*10^(36-k))) (Aw (e-2) (x-35)*10^(36-k))):=by
 have Ms:((-(x-35)).toNat:Int)-(((x-35).toNat+(36-k):Nat):Int)=(k:Int)-1-tenExponent (twos m e).1 (twos m e).2:=by rw [hx];lia
 rw [Tz Ms];have hd:0< (twos m e).2*10^((x-35).toNat+(36-k)):=BN (Al _) (CW _);have hB:0<Aw (e-2) (x-35)*10^(36-k):=BN (JN _ _).2 (CW _);have c:(twos m e).1*10^(-(x-35)).toNat*(Aw (e-2) (x-35)*10^(36-k))=4*m*BG (e-2) (x-35)*((twos m e).2*10^((x-35).toNat+(36-k))):=by
  show m*2^e.toNat*10^(-(x-35)).toNat*(10^(x-35).toNat*2^(-(e-2)).toNat*10^(36-k))=4*m*(10^(-(x-35)).toNat*2^(e-2).toNat)*(2^(-e).toNat*10^((x-35).toNat+(36-k)));rw [Ap];have t:2^e.toNat*2^(-(e-2)).toNat=2^2*2^(e-2).toNat*2^(-e).toNat:=by
   rw [<-Ap,<-Ap,<-Ap];congr 1;lia
  generalize 10^(-(x-35)).toNat=a at *
  generalize 10^(x-35).toNat=b at *
  generalize 10^(36-k)=c at *
  calc m*2^e.toNat*a*(b*2^(-(e-2)).toNat*c)=(2^e.toNat*2^(-(e-2)).toNat)*(m*a*b*c):=by ac_rfl
   _=(2^2*2^(e-2).toNat*2^(-e).toNat)*(m*a*b*c):=by rw [t]
   _=4*m*(a*2^(e-2).toNat)*(2^(-e).toNat*(b*c)):=by
    rw [show(2:Nat)^2=4 by decide]
    ac_rfl
 obtain⟨p1,p2⟩:=jJ hd hB c;rw [p1,p2]
section
variable(m:Nat)(e g:Int)
def FT(c:Nat):Prop:=CM m e*BG (e-2) g<c*Aw (e-2) g\/(CM m e*BG (e-2) g=c*Aw (e-2) g/\m%2=0)
def E1(c:Nat):Prop:=c*Aw (e-2) g< (4*m+2)*BG (e-2) g\/(c*Aw (e-2) g=(4*m+2)*BG (e-2) g/\m%2=0)
instance(c:Nat):Decidable (FT m e g c):=by unfold FT;infer_instance
instance(c:Nat):Decidable (E1 m e g c):=by unfold E1;infer_instance
noncomputable def Bb(k:Nat):Nat:=4*m*BG (e-2) g/(Aw (e-2) g*10^(36-k))
noncomputable def JO(k:Nat):Nat:=
 if 2*(4*m*BG (e-2) g) < (2*Bb m e g k+1)*(Aw (e-2) g*10^(36-k))\/(2*(4*m*BG (e-2) g)=(2*Bb m e g k+1)*(Aw (e-2) g*10^(36-k))/\Bb m e g k%2=0)then Bb m e g k else Bb m e g k+1
noncomputable def E2(k:Nat):Option Nat:=
 if FT m e g (Bb m e g k*10^(36-k))/\E1 m e g ((Bb m e g k+1)*10^(36-k))then some (JO m e g k)
 else if FT m e g (Bb m e g k*10^(36-k))then some (Bb m e g k)
 else if E1 m e g ((Bb m e g k+1)*10^(36-k))then some (Bb m e g k+1)else none
end
def YV(hm:0<m):CM m e<4*m:=by unfold CM;split<;>lia
section
variable{m:Nat}{e g:Int}{k:Nat}
def jM(m:Nat)(e g:Int)(k:Nat):Bb m e g k*10^(36-k)*Aw (e-2) g<=4*m*BG (e-2) g:=by
 unfold Bb;have :=AF9 (4*m*BG (e-2) g) (Aw (e-2) g*10^(36-k));rw [A6,Ar (10^(36-k))];exact this
def AA0(m:Nat)(e g:Int)(k:Nat):4*m*BG (e-2) g< (Bb m e g k+1)*10^(36-k)*Aw (e-2) g:=by
 unfold Bb;have hp:0<Aw (e-2) g*10^(36-k):=BN (JN _ _).2 (CW _);have :=AF_ (VQ (4*m*BG (e-2) g/(Aw (e-2) g*10^(36-k)))) hp;rw [A6 (4*m*BG (e-2) g/(Aw (e-2) g*10^(36-k))+1),Ar (10^(36-k))];exact this
def AA1(hm:0<m):T9 m e g (Bb m e g k*10^(36-k))↔FT m e g (Bb m e g k*10^(36-k)):=by
 have h1:=jM m e g k;have hv:=(JN (e-2) g).1;have h2:4*m*BG (e-2) g< (4*m+2)*BG (e-2) g:=Lq (by lia) hv;exact⟨fun h=>h.1,fun h=>⟨h,.inl (Cb h1 h2)⟩⟩
def AA2(hm:0<m):T9 m e g ((Bb m e g k+1)*10^(36-k))↔E1 m e g ((Bb m e g k+1)*10^(36-k)):=by
 have h1:=AA0 m e g k;have hv:=(JN (e-2) g).1;have h2:CM m e*BG (e-2) g<4*m*BG (e-2) g:=Lq (YV hm) hv;exact⟨fun h=>h.2,fun h=>⟨.inl (Io h2 h1),h⟩⟩
end
def AA3(hD:0<D)(hy:X/D=y)(h0:X%D≠0):
 ((restOf (X%D) D=3\/(restOf (X%D) D=2/\y%2=1))↔ ¬(2*X< (2*y+1)*D\/(2*X=(2*y+1)*D/\y%2=0))):=by
 have e:=Gy X D;have hr:=Dg X hD;rw [hy]at e;generalize X%D=r at *
 have m1:(2*y+1)*D=2*(D*y)+D:=by rw [FZ,A6,Ar y D]
 rw [m1];clear m1;generalize D*y=Z at *
 have r4:(restOf r D=3↔D<2*r)/\(restOf r D=2↔2*r=D):=by
  unfold restOf;rw [AD h0];by_cases r1:2*r<D
  ·rw [AG r1];exact⟨⟨fun z=>absurd z (by decide),fun z=>by lia⟩,⟨fun z=>absurd z (by decide),fun z=>by lia⟩⟩
  ·rw [AD r1];by_cases r2:2*r=D
   ·rw [AG r2];exact⟨⟨fun z=>absurd z (by decide),fun z=>by lia⟩,⟨fun z=>r2,fun z=>rfl⟩⟩
   ·rw [AD r2];exact⟨⟨fun z=>by lia,fun z=>rfl⟩,⟨fun z=>absurd z (by decide),fun z=>by lia⟩⟩
 rw [r4.1,r4.2];lia
def YW(h:num QUAD b=.fin s m e)(hm:0<m)(hx:tenExponent (twos m e).1 (twos m e).2=x)(Ep:1<=k)(hk:k<=36):
 beside QUAD (A0 QUAD b) (twos m e).1 (twos m e).2 k=(E2 m e (x-35) k).map fun y=>carried k y x:=by
 obtain⟨hn,hd⟩:=KD (e:=e) hm;have kb:=N3 hn hd Ep;have kp:=YU hx hk;have hp:x-(k:Int)+1=(x-35)+((36-k:Nat):Int):=by lia
 have hy:(kParts (twos m e).1 (twos m e).2 k).1=Bb m e (x-35) k:=by rw [kp];rfl
 have y0:0<Bb m e (x-35) k:=by
  rw [<-hy];have :=CW (k-1);lia
 have KU:readsAs QUAD (A0 QUAD b) (Bb m e (x-35) k) (x-(k:Int)+1)=decide (FT m e (x-35) (Bb m e (x-35) k*10^(36-k))):=by
  rw [hp,<-jL y0];apply Hn.mpr;rw [jK h hm (BN y0 (CW _)),V_,AA1 hm]
 have hup:readsAs QUAD (A0 QUAD b) (Bb m e (x-35) k+1) (x-(k:Int)+1)=decide (E1 m e (x-35) ((Bb m e (x-35) k+1)*10^(36-k))):=by
  rw [hp,<-jL (Nat.succ_pos _)];apply Hn.mpr;rw [jK h hm (BN (Nat.succ_pos _) (CW _)),V_,AA2 hm]
 have hr:(kParts (twos m e).1 (twos m e).2 k).2=restOf (4*m*BG (e-2) (x-35)%(Aw (e-2) (x-35)*10^(36-k))) (Aw (e-2) (x-35)*10^(36-k)):=by rw [kp]
 unfold beside;dsimp only;rw [hx,hy,hr,KU,hup];have hD:0<Aw (e-2) (x-35)*10^(36-k):=BN (JN _ _).2 (CW _);have yl:=jM m e (x-35) k;have hl0:4*m*BG (e-2) (x-35)%(Aw (e-2) (x-35)*10^(36-k))=0->FT m e (x-35) (Bb m e (x-35) k*10^(36-k))/\JO m e (x-35) k=Bb m e (x-35) k:=fun z=>by
  have e1:=Gy (4*m*BG (e-2) (x-35)) (Aw (e-2) (x-35)*10^(36-k));rw [z,Iq]at e1;have e2:Bb m e (x-35) k*10^(36-k)*Aw (e-2) (x-35)=4*m*BG (e-2) (x-35):=by
   rw [<-e1];unfold Bb;rw [e1,A6,Ar (10^(36-k)),Ar];exact e1
  refine⟨.inl ?_,?_⟩
  ·rw [e2];exact Lq (YV hm) (JN _ _).1
  ·unfold JO;rw [AG];left;have e3:(2*Bb m e (x-35) k+1)*(Aw (e-2) (x-35)*10^(36-k))=2*(Bb m e (x-35) k*10^(36-k)*Aw (e-2) (x-35))+Aw (e-2) (x-35)*10^(36-k):=by
    rw [FZ,A6,A6,Ar (Aw (e-2) (x-35))]
   rw [e3,e2];lia
 unfold E2;by_cases z:4*m*BG (e-2) (x-35)%(Aw (e-2) (x-35)*10^(36-k))=0
 ·obtain⟨l1,l2⟩:=hl0 z;rw [z,AAz,Bi l1,l2];simp only [bne_self_eq_false,RG,Jh,and_false,GQ,E8];by_cases u:E1 m e (x-35) ((Bb m e (x-35) k+1)*10^(36-k))
  ·rw [AG ⟨l1,u⟩];rfl
  ·rw [AD (fun q=>u q.2),AG l1];rfl
 ·have nz:(restOf (4*m*BG (e-2) (x-35)%(Aw (e-2) (x-35)*10^(36-k))) (Aw (e-2) (x-35)*10^(36-k)) !=0)=true:=by
   rw [bne_iff_ne];intro q;exact z (Sj.mp q)
  rw [nz,GU];simp only [Bw];have nr:=AA3 hD (y:=Bb m e (x-35) k) rfl z;by_cases l:FT m e (x-35) (Bb m e (x-35) k*10^(36-k))
  ·by_cases u:E1 m e (x-35) ((Bb m e (x-35) k+1)*10^(36-k))
   ·simp only [l,u,and_self,E8,Ka];congr 2;unfold JO;by_cases q:restOf (4*m*BG (e-2) (x-35)%(Aw (e-2) (x-35)*10^(36-k))) (Aw (e-2) (x-35)*10^(36-k))=3\/(restOf (4*m*BG (e-2) (x-35)%(Aw (e-2) (x-35)*10^(36-k))) (Aw (e-2) (x-35)*10^(36-k))=2/\Bb m e (x-35) k%2=1)
    ·rw [AG q,AD (nr.mp q)]
    ·rw [AD q,AG (RU fun w=>q (nr.mpr w))]
   ·simp only [l,u,and_false,E8,GQ,Ka]
  ·by_cases u:E1 m e (x-35) ((Bb m e (x-35) k+1)*10^(36-k))
   ·simp only [l,u,false_and,E8,GQ,Ka]
   ·simp only [l,u,false_and,GQ,AGD]
def jN(h:E2 m e g k=some y):(y=Bb m e g k/\FT m e g (y*10^(36-k)))\/(y=Bb m e g k+1/\E1 m e g (y*10^(36-k))):=by
 unfold E2 at h;split at h
 ·next c=>
  injection h with h
  unfold JO at h;split at h
  ·left;rw [<-h];exact⟨rfl,c.1⟩
  ·right;rw [<-h];exact⟨rfl,c.2⟩
 ·split at h
  ·next c=>injection h with h;left;rw [<-h];exact⟨rfl,c⟩
  ·split at h
   ·next c=>injection h with h;right;rw [<-h];exact⟨rfl,c⟩
   ·exact absurd h (by simp)
def AA4(h:E2 m e g k=none): ¬FT m e g (Bb m e g k*10^(36-k))/\ ¬E1 m e g ((Bb m e g k+1)*10^(36-k)):=by
 unfold E2 at h;split at h
 ·exact absurd h (by simp)
 ·split at h
  ·exact absurd h (by simp)
  ·next a b=>
   split at h
   ·exact absurd h (by simp)
   ·next c=>exact⟨b,c⟩
def AA5(Ep:2<=k)(hk:k<=36):Bb m e g (k-1)=Bb m e g k/10:=by
 unfold Bb;rw [RT,A6 (Aw (e-2) g),<-CQ,show(36-k).succ=36-(k-1) by lia]
def AA6(Ep:1<=k)(hk:k<=36)(h:E2 m e g k=some y)(hn:2<=k->E2 m e g (k-1)=none):y%10≠0\/k=1:=by
 rcases DW k 2 with z|z
 ·right;lia
 ·left;intro q;obtain⟨n1,n2⟩:=AA4 (hn z);rw [AA5 z hk]at n1 n2;have ep:10^(36-(k-1))=10*10^(36-k):=by rw [show 36-(k-1)=(36-k)+1 by lia,CQ,Ar]
  rw [ep,<-A6]at n1 n2;rcases jN h with⟨a,b⟩|⟨a,b⟩
  ·apply n1;rw [<-a,Nat.div_mul_cancel (Nat.dvd_of_mod_eq_zero q)];exact b
  ·apply n2;rw [show(Bb m e g k/10+1)*10=y by lia];exact b
def AA7(h:num QUAD b=.fin s m e)(hm:0<m)(hx:tenExponent (twos m e).1 (twos m e).2=x)(Ep:1<=k)(hk:k<=36)
 (hs:E2 m e (x-35) k=some y)(hn: ∀j,1<=j->j<k->E2 m e (x-35) j=none):
 fewest QUAD (A0 QUAD b) (twos m e).1 (twos m e).2=carried k y x/\10^(k-1)<=y/\y<=10^k/\(y%10≠0\/(k=1/\y=10)):=by
 obtain⟨Z5,Z6⟩:=KD (e:=e) hm;have kb:=N3 Z5 Z6 Ep;have hy:(kParts (twos m e).1 (twos m e).2 k).1=Bb m e (x-35) k:=by rw [YU hx hk];rfl
 rw [hy]at kb;have t2:y=Bb m e (x-35) k\/y=Bb m e (x-35) k+1:=by
  rcases jN hs with q|q
  ·exact .inl q.1
  ·exact .inr q.1
 refine⟨AAe Ep (by lia) (by rw [YW h hm hx Ep hk,hs];rfl) (fun j j1 j2=>by rw [YW h hm hx j1 (by lia),hn j j1 j2];rfl),by lia,by lia,?_⟩;rcases AA6 Ep hk hs (fun z=>hn _ (by lia) (by lia))with q|q
 ·exact .inl q
 ·subst q;have :10^1=10:=by decide
  rcases Dq (y%10)with z|z
  ·right;have :10^(1-1)=1:=by decide
   lia
  ·left;lia
def AA8(h:num QUAD b=.fin s m e)(hm:0<m)(hx:tenExponent (twos m e).1 (twos m e).2=x):E2 m e (x-35) 36≠none:=by
 intro z;have :=AAd h hm;rw [YW h hm hx (by decide) (by decide),z]at this;cases this
def jO(h:0<n):decimal (n*10)=decimal n++[48]:=by
 rw [i4 (by lia),V7 _ (by decide),V8];rfl
def YX(h:0<n): ∀t,decimal (n*10^t)=decimal n++RJ t 48
 |0=>by simp
 |t+1=>by
  rw [CQ,<-A6,jO (BN h (CW t)),YX h t,Jp];congr 1;rw [AGE]
def AA9(h:n%10≠0): ∃l c,decimal n=l++[c]/\c≠48:=by
 have key:Ki (48+n%10)≠48:=fun z=>by
  have hl:n%10<10:=Dg _ (by decide);have a1:(Ki (48+n%10)).toNat=48+n%10:=qP (show 48+n%10<256 by lia);have a2:(Ki (48+n%10)).toNat=48:=by rw [z];rfl
  lia
 rcases DW n 10 with q|q
 ·refine⟨[],Ki (48+n),by rw [iy q];rfl,?_⟩;rw [M5 q]at key;exact key
 ·exact⟨_,_,i4 q,key⟩
def T_(l:Text): ∀t,trimmed (l++RJ t 48)=trimmed l
 |0=>by simp
 |t+1=>by
  rw [AGE,<-Jp];have :=T_ l t;unfold trimmed at *
  rw [qQ];show((([48]:Text).reverse++(l++RJ t 48).reverse).dropWhile _).reverse=_;rw [AGF,AGG,Ln,AG (by decide)];exact this
def AA_(h:c≠48):trimmed (l++[c])=l++[c]:=by
 unfold trimmed;rw [qQ,AGF,AGG,Ln,AD (by simpa using h)];simp
def ABA(Ep:1<=k)(hk:k<=36)(hy1:10^(k-1)<=y)(hy2:y<=10^k)(hy:y%10≠0\/(k=1/\y=10)):
 trimmed (decimal (y*10^(36-k)))=decimal (carried k y x).1/\(x-35)+((decimal (y*10^(36-k))).length:Int)-1=(carried k y x).2:=by
 have y0:0<y:=by have :=CW (k-1);lia
 rcases hy with h|⟨h1,h2⟩
 ·have ny:y≠10^k:=by
   intro z;rw [z,show k=(k-1)+1 by lia,CQ,V8]at h;exact h rfl
  unfold carried;rw [AD ny,YX y0,T_];obtain⟨l,c,e1,e2⟩:=AA9 h;refine⟨by rw [e1,AA_ e2],?_⟩;rw [CD,ow,LF,YO (k:=k-1) hy1 (by rw [show k-1+1=k by lia];lia)];dsimp only;lia
 ·subst h1 h2;unfold carried;rw [AG (by decide),YX y0,T_];refine⟨by dsimp only;decide+kernel,?_⟩;rw [CD,ow];have :(decimal 10).length=2:=by decide+kernel
  rw [this];dsimp only;lia
def ABB(Ep:1<=k)(hq1:10^(k-1)<=q)(hq2:q<=10^k):
 (decimal q).take k=decimal (carried k q x).1/\(x-k+1)+((decimal q).length:Int)-1=(carried k q x).2:=by
 unfold carried;by_cases h:q=10^k
 ·rw [AG h];dsimp only;have e:q=10^(k-1)*10:=by rw [h,<-CQ];congr 1;lia
  have hl:(decimal (10^(k-1))).length=k:=by
   rw [LF,YO (k:=k-1) (BO _) (QO (by lia))];lia
  rw [e,jO (CW _)];refine⟨?_,?_⟩
  ·rw [List.take_append_of_le_length (by lia),Il (by lia)]
  ·rw [CD,hl];simp only [BU,Cu];lia
 ·rw [AD h];dsimp only;have hl:(decimal q).length=k:=by
   rw [LF,YO (k:=k-1) hq1 (by rw [show k-1+1=k by lia];lia)];lia
  exact⟨Il (by lia),by lia⟩
def UA(n:Nat): ∀k,(hexDigits n k).length=k
 |0=>rfl
 |k+1=>by unfold hexDigits;rw [BU,UA n k]
def jP(n:Nat)(t:Nat): ∀k,hexDigits (n*16^t) (k+t)=hexDigits n k++RJ t 48
 |0=>by
  rw [Jl];have : ∀j,j<=t->hexDigits (n*16^t) j=RJ j 48:=fun j=>by
   induction j with
   |zero=>intro _;rfl
   |succ i ih=>
    intro hi;unfold hexDigits;rw [ih (by lia),show t=i+(t-i) by lia,Ap,<-A6,Ar n (16^i),A6,Nat.mul_div_cancel_left _ (Iw (by decide))];obtain⟨d,hd⟩: ∃d,t-i=d+1:=⟨t-i-1,by lia⟩;rw [hd,CQ,<-A6,V8];rfl
  rw [this t (BO t)];rfl
 |k+1=>by
  rw [show k+1+t=(k+t)+1 by lia];unfold hexDigits;rw [jP n t k,ay,show k+t=t+k by lia,Ap,<-RT,V7 _ (Iw (by decide))]
def ABC(hm:0<m)(h:m.log2<=112):trimmed (hexDigits ((m-2^m.log2)*2^(4*((m.log2+3)/4)-m.log2)) ((m.log2+3)/4))=trimmed (hexDigits (m*2^(112-m.log2)-2^112) 28):=by
 generalize hl:m.log2=l at *
 have e:m*2^(112-l)-2^112=(m-2^l)*2^(4*((l+3)/4)-l)*16^(28-(l+3)/4):=by
  have e1:2^112=2^l*2^(112-l):=by rw [<-Ap];congr 1;lia
  have e2:16^(28-(l+3)/4)=2^(4*(28-(l+3)/4)):=by rw [Jq]
  rw [e1,<-Lo,e2,A6,<-Ap];congr 2;lia
 rw [e,show 28=(l+3)/4+(28-(l+3)/4) by lia,Rh,jP,T_]
def ABD(n k:Nat):hexDigits n (k+1)=hexDigit (n/16^k%16)::hexDigits n k:=rfl
noncomputable def B4(z:Nat)(p g:Int):Nat:=z*5^(-g).toNat*2^(p-g).toNat
noncomputable def CJ(p g:Int):Nat:=5^g.toNat*2^(g-p).toNat
def UB(n:Nat):10^n=5^n*2^n:=by rw [<-Nat.mul_pow]
def LH(p g:Int):0<CJ p g:=BN (Iw (by decide)) (Al _)
def YY(z:Nat)(p g:Int):B4 z p g*Aw p g=z*BG p g*CJ p g:=by
 unfold B4 CJ BG Aw;rw [UB,UB];have t:2^(p-g).toNat*2^g.toNat*2^(-p).toNat=2^(-g).toNat*2^p.toNat*2^(g-p).toNat:=by
  rw [<-Ap,<-Ap,<-Ap,<-Ap];congr 1;lia
 generalize 5^(-g).toNat=a at *
 generalize 5^g.toNat=b at *
 calc z*a*2^(p-g).toNat*(b*2^g.toNat*2^(-p).toNat)=z*a*b*(2^(p-g).toNat*2^g.toNat*2^(-p).toNat):=by ac_rfl
  _=z*a*b*(2^(-g).toNat*2^p.toNat*2^(g-p).toNat):=by rw [t]
  _=z*(a*2^(-g).toNat*2^p.toNat)*(b*2^(g-p).toNat):=by ac_rfl
def YZ(z:Nat)(p g:Int):B4 z p g/CJ p g=z*BG p g/Aw p g/\restOf (B4 z p g%CJ p g) (CJ p g)=restOf (z*BG p g%Aw p g) (Aw p g):=
 jJ (LH p g) (JN p g).2 (YY z p g)
def Ya(c z:Nat)(p g:Int):c*CJ p g<B4 z p g↔c*Aw p g<z*BG p g:=by
 have h1:=(JN p g).2;have h2:=LH p g;have e:=YY z p g;rw [<-Gw h1,e,<-Gw (a:=CJ p g) (b:=c*Aw p g) h2,V6]
def Yb(c z:Nat)(p g:Int):c*CJ p g=B4 z p g↔c*Aw p g=z*BG p g:=by
 have h1:=(JN p g).2;have h2:=LH p g;have e:=YY z p g;constructor
 ·intro h;apply AGH h2;rw [<-e,<-h,V6]
 ·intro h;apply AGH h1;rw [e,<-h,V6]
def ABE{m:Nat}{e x g:Int}{k:Nat}(hx:tenExponent (twos m e).1 (twos m e).2=x)(hg:g=x-k+1):
 kParts (twos m e).1 (twos m e).2 k=(m*BG e g/Aw e g,restOf (m*BG e g%Aw e g) (Aw e g)):=by
 rw [Tz (i:=(-g).toNat) (j:=g.toNat) (by lia)];have e1:(twos m e).2*10^g.toNat=Aw e g:=Ar _ _;have e2:(twos m e).1*10^(-g).toNat=m*BG e g:=by
  show m*2^e.toNat*10^(-g).toNat=m*(10^(-g).toNat*2^e.toNat);rw [A6,Ar (2^e.toNat)]
 rw [e1,e2]
noncomputable def Bg(E:Int):Int:=E*30103/100000-1
def ABF: ∀r,r<196->10^(r*30103/100000)<=2^r:=by decide+kernel
def ABG: ∀r,r<93->2^r<=10^((r*30103+99999)/100000):=by decide+kernel
def ABH:10^59<=2^196:=by decide+kernel
def p93:2^93<=10^28:=by decide+kernel
def jQ(q r:Nat)(hr:r<196):10^(59*q+r*30103/100000)<=2^(196*q+r):=by
 rw [Ap,Ap,Jq,Jq];exact RX (Ri ABH q) (ABF r hr)
def jR(q r:Nat)(hr:r<93):2^(93*q+r)<=10^(28*q+(r*30103+99999)/100000):=by
 rw [Ap,Ap,Jq,Jq];exact RX (Ri p93 q) (ABG r hr)
def ABI{E:Nat}(h:E<=17000){a:Nat}(ha:(a:Int)<=Bg E):10^a<=2^E:=by
 have :=jQ (E/196) (E%196) (Dg _ (by decide));rw [Gy]at this;refine A9 (J_ ?_) this;unfold Bg at ha;lia
def ABJ{E:Nat}(h:E<=17000){a:Nat}(ha: -(a:Int)<=Bg (-(E:Int)))(ha2:Bg (-(E:Int))<= -(a:Int)):2^E<=10^a:=by
 have :=jR (E/93) (E%93) (Dg _ (by decide));rw [Gy]at this;refine A9 this (J_ ?_);unfold Bg at ha ha2;lia
def jS{E:Nat}(h:E<=17000){a:Nat}(ha:Bg E+35<=(a:Int)):2^(E+1)<=10^a:=by
 have :=jR ((E+1)/93) ((E+1)%93) (Dg _ (by decide));rw [Gy]at this;refine A9 this (J_ ?_);unfold Bg at ha;lia
def ABK{E:Nat}(h:E<=17000)(h1:1<=E){a:Nat}(ha:(a:Int)<= -Bg (-(E:Int))-35):10^a<=2^(E-1):=by
 have :=jQ ((E-1)/196) ((E-1)%196) (Dg _ (by decide));rw [Gy]at this;refine A9 (J_ ?_) this;unfold Bg at ha;lia
def ABL(hm:0<m)(h1: -17000<=(m.log2:Int)+e)(h2:(m.log2:Int)+e<=17000):
 Aw e (Bg (m.log2+e))<=m*BG e (Bg (m.log2+e))/\m*BG e (Bg (m.log2+e)) <10^35*Aw e (Bg (m.log2+e)):=by
 have l1:=IK hm;have l2:=Ex m;generalize m.log2=l at *
 unfold Aw BG;rcases Gx ((l:Int)+e) 0 with hE|hE
 ·obtain⟨F,hF⟩: ∃F:Nat,(l:Int)+e= -((F:Int)+1):=⟨(-((l:Int)+e)-1).toNat,by lia⟩;have Z7:(l:Int)+e= -((F+1:Nat):Int):=by lia
  have e0:(-e).toNat=l+e.toNat+(F+1):=by lia
  obtain⟨a,ha⟩: ∃a:Nat,Bg ((l:Int)+e)= -(a:Int):=⟨(-Bg ((l:Int)+e)).toNat,by unfold Bg;lia⟩;have g1:=ABJ (E:=F+1) (by lia) (a:=a) (by rw [<-Z7,ha];exact Vn _) (by rw [<-Z7,ha];exact Vn _);have g2:10^a<=10^35*2^F:=by
   rcases DW a 35 with q|q
   ·exact A9 (J_ (by lia)) (Nat.le_mul_of_pos_right _ (Al F))
   ·have :=ABK (E:=F+1) (by lia) (by lia) (a:=a-35) (by rw [<-Z7,ha];lia);rw [Kf]at this;have e1:10^a=10^35*10^(a-35):=by rw [<-Ap];congr 1;lia
    rw [e1];exact NA _ this
  rw [ha,e0];have z1:(-(a:Int)).toNat=0:=by lia
  have z2:(-(-(a:Int))).toNat=a:=by lia
  rw [z1,z2,B7,B1,Ap,Ap];refine⟨?_,?_⟩
  ·have :2^l*2^e.toNat*2^(F+1)<=m*2^e.toNat*10^a:=RX (B2 _ l1) g1;rw [Ar (10^a),<-A6];exact this
  ·have b1:m*(10^a*2^e.toNat) <2^(l+1)*(10^a*2^e.toNat):=Lq l2 (BN (CW a) (Al _));refine Bs b1 ?_;have b2:2^(l+1)*(10^a*2^e.toNat)<=2^(l+1)*(10^35*2^F*2^e.toNat):=NA _ (B2 _ g2);refine A9 b2 (Om ?_);rw [CQ 2 l,CQ 2 F];generalize 10^35=c
   ac_rfl
 ·obtain⟨E,hEE⟩: ∃E:Nat,(l:Int)+e=(E:Int):=⟨((l:Int)+e).toNat,by lia⟩;have e0:(-e).toNat+E=l+e.toNat:=by lia
  have t:2^(-e).toNat*2^E=2^l*2^e.toNat:=by rw [<-Ap,<-Ap,e0]
  rw [hEE];have g1:10^(Bg E).toNat<=2^E:=by
   rcases Gx (Bg E) 0 with q|q
   ·rw [show(Bg E).toNat=0 by lia,B7];exact Al E
   ·exact ABI (by lia) (by lia)
  have g2:2^(E+1)*10^(-Bg E).toNat<=10^35*10^(Bg E).toNat:=by
   rcases Gx (Bg E) 0 with q|q
   ·have q1:Bg E= -1:=by unfold Bg at q⊢;lia
    have :=jS (E:=E) (by lia) (a:=34) (by lia);rw [q1];have e1:(- -1:Int).toNat=1:=rfl;have e2:(-1:Int).toNat=0:=rfl;rw [e1,e2,B7,Cc,V2,CQ 10 34];exact B2 _ this
   ·have :=jS (E:=E) (by lia) (a:=35+(Bg E).toNat) (by lia);rw [show(-Bg E).toNat=0 by lia,B7,Cc,<-Ap];exact this
  refine⟨?_,?_⟩
  ·have a1:10^(Bg E).toNat*2^(-e).toNat<=2^E*2^(-e).toNat:=B2 _ g1;refine A9 a1 ?_;rw [Ar (2^E),t];refine RX l1 (Rg _ (CW _))
  ·have b1:m*(10^(-Bg E).toNat*2^e.toNat) <2^(l+1)*(10^(-Bg E).toNat*2^e.toNat):=Lq l2 (BN (CW _) (Al _));refine Bs b1 ?_;have b2:2^(l+1)*(10^(-Bg E).toNat*2^e.toNat)=2^(E+1)*10^(-Bg E).toNat*2^(-e).toNat:=by
    rw [CQ 2 l,CQ 2 E]
    calc 2^l*2*(10^(-Bg E).toNat*2^e.toNat)=(2^l*2^e.toNat)*(2*10^(-Bg E).toNat):=by ac_rfl
     _=(2^(-e).toNat*2^E)*(2*10^(-Bg E).toNat):=by rw [t]
     _=2^E*2*10^(-Bg E).toNat*2^(-e).toNat:=by ac_rfl
   rw [b2,<-A6];exact B2 _ g2
def jT(hm:0<m)(h1: -17000<=(m.log2:Int)+e)(h2:(m.log2:Int)+e<=17000):
 tenExponent (twos m e).1 (twos m e).2=Bg (m.log2+e)+(digitCount (m*BG e (Bg (m.log2+e))/Aw e (Bg (m.log2+e))):Int)-1/\m*BG e (Bg (m.log2+e))/Aw e (Bg (m.log2+e)) <10^35:=by
 obtain⟨a,b⟩:=ABL hm h1 h2;obtain⟨hn,hd⟩:=KD (e:=e) hm;generalize Bg (m.log2+e)=g at *
 have hB:=(JN e g).2;have q1:1<=m*BG e g/Aw e g:=(DN hB).mpr (by rw [B1];exact a);refine⟨?_,(E_ hB).mpr b⟩;have d1:=N2 (n:=m*BG e g/Aw e g) q1;have d2:=Tu (m*BG e g/Aw e g);have d3:=N1 (m*BG e g/Aw e g);generalize digitCount (m*BG e g/Aw e g)=k at *
 rw [DN hB]at d1;rw [E_ hB]at d2;have e1:(twos m e).2=2^(-e).toNat:=rfl;have e2:(twos m e).1=m*2^e.toNat:=rfl;have s1: ∀j:Nat,(twos m e).2*10^(g.toNat+j)=10^j*Aw e g:=fun j=>by
  rw [e1,Ap];unfold Aw;ac_rfl
 have s2:(twos m e).1*10^(-g).toNat=m*BG e g:=by
  rw [e2];unfold BG;ac_rfl
 refine AAZ hn hd ?_ ?_
 ·rw [KC (i:=g.toNat+(k-1)) (j:=(-g).toNat) (by lia),s1,s2];exact d1
 ·rw [KC (i:=g.toNat+k) (j:=(-g).toNat) (by lia),s1,s2];exact Nat.not_le.mpr d2
end QM
namespace Q3
open PySem PySem.Spec PyProof.Rows L2
open Qu (Fmt Num restOf ratioAt rounded QUAD Acc)
open QM (Bo BI QN)
def jU:bootBuiltins "ord"=some (.builtin "ord"):=by decide+kernel
def UC:bootBuiltins "str"=some (.type "str"):=by decide+kernel
def Yc:bootBuiltins "int"=some (.type "int"):=by decide+kernel
def AM(l:List Nat):Str:=⟨l.toArray⟩
noncomputable def tn(l:Rj):List Nat:=l.map UInt8.toNat
def BF(l:List Nat):(AM l).length=l.length:=by
 show l.toArray.size=_;exact D2
def Gk(a b:List Nat):AM a++AM b=AM (a++b):=by
 show(⟨a.toArray++b.toArray⟩:Str)=⟨(a++b).toArray⟩;rw [List.append_toArray]
def QT(l:List Nat):(AM l).cps.toList=l:=rfl
def jV(s:String):RP s=AM (s.toList.map b9):=Str.ofString_eq_toList s
def N5:AM a=AM b↔a=b:=by
 constructor
 ·intro h;have :=congrArg (fun z=>z.cps.toList) h;exact this
 ·intro h;rw [h]
def Dl(l:Rj):(tn l).length=l.length:=A5 ..
def UD(a b:Rj):tn (a++b)=tn a++tn b:=Jm ..
def ABM{c:Char}(h:c.toNat<256):(Ki c.toNat).toNat=c.toNat:=qP h
def ABN(h:c∈Nat.toDigits 10 n):c.toNat<256:=by
 have :=Nat.isDigit_of_mem_toDigits dd dd h;unfold Char.isDigit at this;simp only [BK,Bw]at this;have h2:c.val<=57:=this.2;have h3:c.val.toNat<=57:=h2;show c.val.toNat<256;lia
def jW(n:Nat):tn (Cq n)=(Nat.toDigits 10 n).map b9:=by
 unfold tn Cq;rw [Ir];refine bA fun c hc=>?_
 exact ABM (ABN hc)
def Yd(n:Nat):RP (toString (n:Int))=AM (tn (Cq n)):=by
 rw [jV,jW];show AM ((b_ n).toList.map b9)=_;unfold b_;rw [AGI]
def str_int(x:Int):RP (toString x)=AM (tn ((if x<0 then [45]else [])++Cq x.natAbs)):=by
 rcases Gx x 0 with h|h
 ·obtain⟨k,rfl⟩: ∃k:Nat,x= -((k:Int)+1):=⟨(-x-1).toNat,by lia⟩;have e: -((k:Int)+1)=Int.negSucc k:=by lia
  rw [AG h,UD,jW,jV,e];show AM (("-"++b_ (k+1)).toList.map b9)=_;unfold b_;simp only [String.toList_append,AGI,Jm];rfl
 ·obtain⟨k,rfl⟩: ∃k:Nat,x=(k:Int):=⟨x.toNat,by lia⟩;rw [AD (by lia),Vi,Ht];exact Yd k
section
variable{C:Addr}
def ABO:Sp:=fun vs H Q _=> ∃n:Nat,vs=[.int (n:Int)]/\n<=30000/\Q (.int ((5^n:Nat):Int)) H
def IT(n:Nat):QM.A7 (5^n)<=3*n+1:=by
 refine QM.Fd ?_;have :5^n<=8^n:=Ri dd n;have e:8^n=2^(3*n):=by rw [Jq]
 have :2^(3*n) <2^(3*n+1):=QM.Ha (by lia);lia
def ABP(n b i:Nat)(hi:i<b):n/2^(b-1-i)=2*(n/2^(b-i))+n/2^(b-1-i)%2:=by
 have e:2^(b-i)=2^(b-1-i)*2:=by rw [<-CQ];congr 1;lia
 rw [e,<-RT];lia
def Ye:Df "power_of_five" 1 ["n"] ABO:=by
 refine(AW 90 rfl).go ["n","result","place"] ?_;rintro S _ _ _ _ _ st H _ Q _ _ ⟨n,rfl,hn,q⟩;refine⟨_,(AJ (pS 1 S AE) (AJ (JD Gz rfl (Wz (by rfl) YK (AB (AK BP (PM Vq Vr Vs PZ (pv 0)) AE) (AB (Eu FG AE) (AB (Eu FG AE) AL)))) (FF (i:=2) S rfl (Or.inl rfl)) (AJ (pS 1 S (AK FJ (pv 1) (pv 1))) (Cj (Ag (AX Ae (AK EH (AK GZ (pv 0) (pv 2)) AE) AE) (Cj (pS 1 S (AK FJ (pv 1) AE))) Ai)))) (pR (pv 1)))),?_⟩;refine BD AI ?_;have bn:QM.A7 n<=15:=QM.Fd (by have :2^15=32768:=dd;lia);refine⟨_,rfl,rfl,_,rfl,rfl,_,_,rfl,rfl,?_⟩;refine(Ev.un AI:Ev _ _ _ _) _ ?_;refine(Ev.un AI:Ev _ _ _ _) _ ?_;rw [Dj];have Zk:(2:Int)^62=4611686018427387904:=by decide
 refine⟨_,_,_,((QM.A7 n:Int)-1- -1).toNat,rfl,dm.neg (by lia) (by lia) (by lia) (by lia),?_⟩;rw [show((QM.A7 n:Int)-1- -1).toNat=QM.A7 n by lia];refine W0 (fun i σ H'=>H'=H/\i<=QM.A7 n/\ ∃z:Option V,σ=[some (.int (n:Int)),some (.int ((5^(n/2^(QM.A7 n-i)):Nat):Int)),z]) ⟨rfl,DM _,none,?_⟩ ?_ ?_
 ·have :n/2^(QM.A7 n-0)=0:=by
   refine FW ?_;rw [Vk];rcases Dq n with z|z
   ·subst z;exact BR _
   ·rw [QM.Fs z];exact QM.Ex n
  rw [this];rfl
 ·rintro i σ H' hi ⟨rfl,Ze,z,rfl⟩;have e1:(QM.A7 n:Int)-1+(i:Nat)* -1=((QM.A7 n-1-i:Nat):Int):=by lia
  dsimp only [HN];rw [e1];have st:=ABP n (QM.A7 n) i hi;have sb:n/2^(QM.A7 n-i)<=30000:=A9 (qD _ _) hn;have b5:=IT (n/2^(QM.A7 n-i));have c5:Aq ((5^(n/2^(QM.A7 n-i)):Nat):Int)<=100000:=by rw [Dj];lia
  refine BD ((BS (AH rfl) (AH rfl) (⟨by lia,by lia⟩:HW _ _)).to (v':=.int ((5^(2*(n/2^(QM.A7 n-i))):Nat):Int)) (congrArg V.int (by rw [<-Fl,<-Ap,Nat.two_mul]))) ?_;have b6:=IT (2*(n/2^(QM.A7 n-i)));have c6:Aq ((5^(2*(n/2^(QM.A7 n-i))):Nat):Int)<=200000:=by rw [Dj];lia
  have Qy:(0:Int)<=((QM.A7 n-1-i:Nat):Int):=CI _;have Z8:D0 ((n:Int)/2^((QM.A7 n-1-i:Nat):Int).toNat) 1=((n/2^(QM.A7 n-1-i)%2:Nat):Int):=by
   rw [Am,IF];exact Ny _ 1
  refine IL ((Ac (An ((A1 (BS (C:=fun _ j=>0<=j) (g:=fun i j=>V.int (i/2^j.toNat)) (AH rfl) (AH rfl) Qy) AI).to (congrArg V.int Z8)) AI)).to (b':=decide (n/2^(QM.A7 n-1-i)%2=1)) (Cd.mpr (by lia))) (fun c=>?_) (fun c=>?_)
  ·have c:=Au c;refine((BS (AH rfl) AI (⟨by lia,by decide⟩:HW _ _)).to (v':=.int ((5^(n/2^(QM.A7 n-(i+1))):Nat):Int)) (congrArg V.int ?_):Ev _ _ _ _) _ ⟨rfl,hi,_,rfl⟩;rw [show QM.A7 n-(i+1)=QM.A7 n-1-i by lia,st,c,CQ,Fl];rfl
  ·have c:=BA c;refine⟨rfl,hi,some (.int ((QM.A7 n-1-i:Nat):Int)),?_⟩;rw [show QM.A7 n-(i+1)=QM.A7 n-1-i by lia,st,show n/2^(QM.A7 n-1-i)%2=0 by lia,Iq];rfl
 ·rintro σ H' ⟨rfl,_,z,rfl⟩;rw [V9,B7,bT];exact⟨_,rfl,q⟩
def ABQ{x:Str}{g:TG}{tt:TT}{te:TE}{vs:List Nat}{σ:L2.St}{H1:Hp}{D:Addr}{Qd:Hp->Prop}(Pv:Nat->Hp->Prop)(h0:Pv 0 (upd H1 D (.lst [])))
 (hs: ∀i c H,x.cps[i]? =some c->Pv i H->g (.str ⟨#[c]⟩) (DY σ vs) H fun A_ H2=>DY A_ vs=DY σ vs/\tt A_ H2 fun b H3=>
   if b=true then te A_ H3 fun y H4=> ∃acc,H4 D=some (.lst acc)/\acc.length<sizeLine/\Pv (i+1) (upd H4 D (.lst (acc++[y])))else Pv (i+1) H3)(hd: ∀H,Pv x.cps.size H->Qd H):
 ∃W:Nat->Nat->Hp->Prop,(∃m,W 0 m (upd H1 D (.lst [])))/\ ∀i m H,W i m H->
  ((Kw x).stop i H/\Qd H)\/((Kw x).go i H/\ ∃Nx:Hp->Prop,(∀H',Nx H'-> ∃m',m'<m/\W (i+1) m' H')/\ ∀v H',(Kw x).Hi i H v H'->g v (DY σ vs) H' fun A_ H2=>DY A_ vs=DY σ vs/\tt A_ H2 fun b H3=>
   if b=true then te A_ H3 fun y H4=> ∃acc,H4 D=some (.lst acc)/\acc.length<sizeLine/\Nx (upd H4 D (.lst (acc++[y])))else Nx H3):=by
 refine⟨fun i m H=>m=x.cps.size-i/\i<=x.cps.size/\Pv i H,⟨x.cps.size,by simp,DM _,h0⟩,?_⟩;rintro i m H ⟨rfl,hi,p⟩;by_cases Bk:i<x.cps.size
 ·refine .inr ⟨Bk,Pv (i+1),fun H' p'=>⟨x.cps.size-(i+1),by lia,rfl,Bk,p'⟩,fun v H' y=>?_⟩;obtain⟨e,c,hc,rfl⟩:=y;subst e;exact hs i c _ hc p
 ·have e:i=x.cps.size:=by lia
  subst e;exact .inl ⟨BO _,hd H p⟩
def MW(H:Hp)(a:Addr)(l:List Nat):Prop:=H a=some (.lst (.int (l.length:Nat)::l.map fun (c:Nat)=>V.int (c:Int)))/\l.length<=20000
def ABR:Sp:=fun vs H Q _=> ∃l:List Nat,vs=[.str (AM l)]/\l.length<=20000/\ ∀H' a,MW H' a l->AQ H H'->Q (.ref a) H'
def jX:mg "ord"=none:=rat 19 rfl
def QU:Df "as_bytes" 1 ["text"] ABR:=by
 refine(AW 91 rfl).go ["text","letter"] ?_;rintro S _ _ _ _ _ _ H _ Q _ _ ⟨l,rfl,hl,q⟩;refine⟨_,(pR (AK We (Ay (AB (Cf MA (by rfl) FR FQ (pO 0)) AL)) (PR (own:=[("letter",1)]) rfl S (du (pv 0)) (by show Kv ["text","letter"] (Cw (top 164)) _ _;exact⟨rfl,by decide+kernel,by decide+kernel,by decide+kernel,by decide+kernel⟩) (fun _ _ _ _ _=>FF (i:=1) S rfl (Or.inl rfl)) (fun _ _ _ _ _=>PQ) (fun _ _ _ _ _=>by exact(Cf cz (by rfl) jX jU (pO 1)))))),?_⟩;have HE:sizeLine=16777216:=rfl;refine⟨_,rfl,AM l,rfl,by rw [BF];lia,dz,fun a ha=>?_⟩;refine⟨_,rfl,AM l,rfl,fun D hD=>?_⟩;have s1:AQ H (upd H a (.lst [.int ((AM l).length:Nat)])):=AQ.new ha;refine ABQ (x:=AM l) (fun i H'=>AQ (upd H a (.lst [.int ((AM l).length:Nat)])) H'/\H' D=some (.lst ((l.take i).map fun (c:Nat)=>V.int (c:Int)))) ⟨AQ.new hD,AZ⟩ ?_ ?_
 ·rintro i c H' hc ⟨s2,hd⟩;have JY:l[i]? =some c:=by
   have e:(AM l).cps[i]? =l[i]?:=by show l.toArray[i]? =_;simp
   rw [<-e];exact hc
  refine⟨rfl,?_⟩;refine⟨_,rfl,_,rfl,rfl,_,hd,?_,?_⟩
  ·rw [A5,DV];lia
  ·refine⟨fun b o e=>?_,?_⟩
   ·rw [BC (D4 e hD)];exact s2 b o e
   ·have e1:l.take (i+1)=l.take i++[c]:=by rw [M9,JY];rfl
    rw [AZ,e1,Jm];rfl
 ·rintro H' ⟨s2,hd⟩;have e:(AM l).cps.size=l.length:=BF l;rw [e,Ip]at hd;refine⟨a,D,_,_,rfl,rfl,s2 _ _ AZ,hd,?_,fun p hp=>q _ p ?_ ((s1.trans s2).trans (AQ.new hp))⟩
  ·simp only [CD,BU,Cu,A5];lia
  ·refine⟨?_,hl⟩;show upd H' p _ p=_;rw [AZ,BF];rfl
def Qc(ha:Ev ta σ H (.str x))(hb:Ev tb σ H (.str y)):Ev (Br PJ ta tb) σ H (.bl (decide (V.str x=V.str y))):=fun Q q=>ha _ (hb _ ⟨rfl,q⟩)
noncomputable def Eh(n:Bool):List Nat:=if n=true then [45]else []
noncomputable def Yf(x:Num):Bool:=match x with
 |.fin n _ _=>n
 |.inf n=>n
 |.nan _=>false
def ABS(C:Addr):Sp:=fun vs H Q _=> ∃a x,vs=[.ref a]/\BY C H a x/\BH x=false/\Q (.str (AM (Eh (Yf x)))) H
def Yg:Df "minus" 1 ["number"] (ABS CP):=by
 refine(AW 92 rfl).go ["number"] ?_;rintro _ _ _ _ _ _ _ H _ Q _ _ ⟨a,x,rfl,⟨dx,k,s,z,e,ha,hx⟩,hn,q⟩;refine⟨_,(pR (Bq (AX Ae (AR (pv 0) rfl) AE) Cy Cy)),?_⟩;have hs:s=sg (Yf x):=by
  cases x with
  |nan b=>cases hn
  |inf n=>exact hx.2
  |fin n m p=>exact hx.2.1
 subst hs;refine EU (B5 ((Ac (An (Ax (AH rfl) ha AN.cl AN.sign DR) AI)).to (CL _)) (fun e=>?_) (fun e=>?_)) q
 ·rw [e];exact AI
 ·rw [e];exact AI
noncomputable def Yh(x:Num)(z:List Nat):List Nat:=match x with
 |.nan _=>[110,97,110]
 |.inf n=>Eh n++[105,110,102]
 |.fin n _ _=>Eh n++z
noncomputable def jY(x:Num)(z:List Nat):List Nat:=match x with
 |.inf _=>[105,110,102]
 |_=>z
def ABT(C:Addr):Sp:=fun vs H Q _=> ∃(a:Addr)(x:Num)(z:List Nat),vs=[.ref a,.str (AM z)]/\BY C H a x/\z.length<=100/\Q (.str (AM (Yh x z))) H
def jZ:Df "not_finite" 2 ["number","zero_text"] (ABT CP):=by
 refine(AW 93 rfl).go ["number","zero_text"] ?_;rintro _ _ _ _ _ _ _ H _ Q _ hr ⟨a,x,z,rfl,hp,hz,q⟩;obtain⟨dx,k,s,zz,e,ha,hx⟩:=id hp;refine⟨_,(AJ (Ag (Bz (pD hr K9 (pO 0))) (pR Cy) Ai) (pR (AK G0 (pD hr Yg (pO 0)) (Bq (AX Ae (AR (pv 0) rfl) (pG D7)) Cy (pv 1))))),?_⟩;refine⟨_,rfl,a,x,rfl,hp,_,rfl,D6 (fun c=>?_) (fun c=>?_)⟩
 ·cases x with
  |nan b=>exact q
  |inf n=>cases c
  |fin n m p=>cases c
 ·refine⟨_,rfl,a,x,rfl,hp,c,?_⟩;refine(B5 (v:=.str (AM (jY x z))) ((Ac (An (Ax (AH rfl) ha AN.cl AN.kind C3) AI)).to (FP hx)) (fun e=>?_) (fun e=>?_):Ev _ _ _ _) _ ?_
  ·cases x with
   |nan b=>cases c
   |inf n=>exact AI
   |fin n m p=>cases e
  ·cases x with
   |nan b=>cases c
   |inf n=>cases e
   |fin n m p=>exact AH rfl
  ·refine⟨_,_,rfl,rfl,?_,?_⟩
   ·rw [BF,BF];have h1:(Eh (Yf x)).length<=1:=by unfold Eh;split<;>decide
    have h2:(jY x z).length<=100:=by
     cases x with
     |nan b=>exact hz
     |inf n=>exact(by decide:3<=100)
     |fin n m p=>exact hz
    have :sizeLine=16777216:=rfl;lia
   ·rw [Gk];cases x with
    |nan b=>cases c
    |inf n=>exact q
    |fin n m p=>exact q
noncomputable def F_(f o:List Nat):List Nat:=if o=[]then f else f++46::o
def ABU:Sp:=fun vs H Q _=> ∃f o:List Nat,vs=[.str (AM f),.str (AM o)]/\f.length<=20000/\o.length<=20000/\Q (.str (AM (F_ f o))) H
def ja:Df "with_point" 1 ["first","others"] ABU:=by
 refine(AW 94 rfl).go ["first","others"] ?_;rintro _ _ _ _ _ _ _ H _ Q _ _ ⟨f,o,rfl,hf,ho,q⟩;refine⟨_,(pR (Bq (AX Ae (pv 1) Cy) (pv 0) (AK G0 (AK G0 (pv 0) Cy) (pv 1)))),?_⟩;have HE:sizeLine=16777216:=rfl;have e0:((V.str (AM o))=V.str "")↔o=[]:=by
  constructor
  ·intro h;injection h with h;exact N5.mp (h.trans (by rfl:("":Str)=AM []))
  ·intro h;subst h;rfl
 have e1:AM f++((".":String):Str)=AM (f++[46]):=Gk f [46];unfold F_ at q;refine EU (v:=.str (AM (if o=[]then f else f++46::o))) (B5 ((Ac (Qc (AH rfl) AI)).to (b':=decide (o=[])) (Cd.mpr e0)) (fun c=>?_) (fun c=>?_)) q
 ·rw [AG (Au c)];exact AH rfl
 ·rw [AD (BA c)];refine fun Q q=>⟨_,rfl,_,_,rfl,rfl,?_,_,rfl,_,_,rfl,rfl,?_,?_⟩
  ·rw [BF];have :(".":Str).length=1:=rfl;lia
  ·rw [e1,BF,BF,CD];simp only [BU,Cu];lia
  ·rw [e1,Gk,Jp];exact q
end
open QM (B4 CJ BG Aw Bg E2 FT E1 Bb JO CM)
def ABV(h:i.natAbs<2^k):Aq i<=k:=Vd.mpr h
def MX(h1:QM.A7 a<=x)(h2:QM.A7 b<=y):QM.A7 (a*b)<=x+y:=by
 refine QM.Fd ?_;have l: ∀{n k:Nat},QM.A7 n<=k->n<2^k:=fun {n k} h=>by
  rcases Dq n with z|z
  ·subst z;exact BR _
  ·rw [QM.Fs z]at h;exact Bs (QM.Ex n) (QM.CG h)
 rw [Ap];rcases Dq b with z|z
 ·subst z;rw [Vm];exact BN (BR _) (BR _)
 ·exact AF5 (l h1) (KZ (l h2)) (BR _)
def jb(n:Nat):QM.A7 (2^n)<=n+1:=QM.Fd (QM.Ha (by lia))
def jc(hz:QM.A7 z<=200)(hp: -40000<=p/\p<=40000)(hg: -20000<=g/\g<=20000):QM.A7 (B4 z p g)<=200000/\QM.A7 (CJ p g)<=200000:=by
 unfold B4 CJ;have a1:=IT (-g).toNat;have a2:=IT g.toNat;have b1:=jb (p-g).toNat;have b2:=jb (g-p).toNat;exact⟨A9 (MX (MX hz a1) b1) (by lia),A9 (MX a2 b2) (by lia)⟩
section
variable{C:Addr}
def ABW(H:Hp)(l:Addr)(t u:Nat):Prop:=H l=some (.lst [.int (t:Int),.int (u:Int)])
def ABX:Sp:=fun vs H Q _=> ∃(z:Nat)(p g:Int),vs=[.int (z:Int),.int p,.int g]/\QM.A7 z<=200/\(-40000<=p/\p<=40000)/\(-20000<=g/\g<=20000)/\
 ∀H' l,ABW H' l (B4 z p g) (CJ p g)->AQ H H'->Q (.ref l) H'
def QV:Df "over_ten" 2 ["size","power","grid"] ABX:=by
 refine(AW 95 rfl).go ["size","power","grid","fives","top","bottom","twos"] ?_;rintro S _ _ _ _ _ _ H _ Q _ hr ⟨z,p,g,rfl,hz,hp,hg,q⟩;refine⟨_,(AJ (pS 3 S (pD hr Ye (AB (Cf Rz (by rfl) S8 S7 (pO 2)) AL))) (AJ (pS 4 S (Bq (AX L8 (pv 2) AE) (pv 0) (AK FJ (pv 0) (pv 3)))) (AJ (pS 5 S (Bq (AX L8 (pv 2) AE) (pv 3) AE)) (AJ (pS 6 S (AK BP (pv 1) (pv 2))) (pR (Ay (AB (AK DF (pv 4) (Cf (R0 rfl) (by rfl) S3 Sw (pW 6 (AB AE AL)))) (AB (AK DF (pv 5) (Cf (R0 rfl) (by rfl) S3 Sw (AB (Eu FG (pv 6)) (AB AE AL)))) AL)))))))),?_⟩;have a1:=IT (-g).toNat;have a2:=IT g.toNat;have a3:=IT g.natAbs;have bz:Aq (z:Int)<=200:=by rw [Dj];exact hz
 have b5:Aq ((5^g.natAbs:Nat):Int)<=60001:=by rw [Dj];lia
 refine BD (Ev.df (r:=.int ((5^g.natAbs:Nat):Int)) (Nw.cons (EX (r:=.int ((g.natAbs:Nat):Int)) (Nw.cons (AH rfl) Nw.nil) fun Q q=>⟨g,rfl,by
  have :(if g<0 then -g else g)=((g.natAbs:Nat):Int):=by split<;>lia
  rw [this];exact q⟩) Nw.nil) fun Q q=>⟨g.natAbs,rfl,by lia,q⟩) ?_
 have g0: ∀σ:L2.St,σ[2]? =some (some (.int g))->DK (JF (Br (Dv fun i j=>V.bl (decide (j<=i))) (Aa 2) (tC (.int 0)))) σ H (decide (0<=g)):=fun σ h=>Ac (CO (AH h) AI)
 refine BD (v:=.int ((z*5^(-g).toNat:Nat):Int)) (B5 (g0 _ rfl) (fun e=>?_) (fun e=>?_)) ?_
 ·have e:=Au e;rw [show(-g).toNat=0 by lia,B7,Cc];exact AH rfl
 ·have e:=BA e;rw [show(-g).toNat=g.natAbs by lia];exact(BS (AH rfl) (AH rfl) ⟨by lia,by lia⟩).to (congrArg V.int (Fl _ _).symm)
 refine BD (v:=.int ((5^g.toNat:Nat):Int)) (B5 (g0 _ rfl) (fun e=>?_) (fun e=>?_)) ?_
 ·have e:=Au e;rw [show g.toNat=g.natAbs by lia];exact AH rfl
 ·have e:=BA e;rw [show g.toNat=0 by lia,B7];exact AI
 refine BD (A1 (AH rfl) (AH rfl)) ?_;have bt:Aq ((z*5^(-g).toNat:Nat):Int)<=70000:=by rw [Dj];exact A9 (MX hz a1) (by lia)
 have bb:Aq ((5^g.toNat:Nat):Int)<=70000:=by rw [Dj];lia
 refine((BS (AH rfl) (EX (r:=.int ((p-g).toNat:Nat)) (Nw.cons (AH rfl) (Nw.cons AI Nw.nil)) fun Q q=>⟨p-g,0,rfl,by
  rw [Xb,show max (p-g) 0=(((p-g).toNat:Nat):Int) by lia];exact q⟩) (⟨CI _,by lia,by lia⟩:MD _ _)).to (v':=.int ((B4 z p g:Nat):Int)) (congrArg V.int (by rw [Am,Ge];rfl)):Ev _ _ _ _) _ ?_
 refine((BS (AH rfl) (EX (r:=.int ((g-p).toNat:Nat)) (Nw.cons (Ev.un (AH rfl)) (Nw.cons AI Nw.nil)) fun Q q=>⟨-(p-g),0,rfl,by
  rw [Xb,show max (-(p-g)) 0=(((g-p).toNat:Nat):Int) by lia];exact q⟩) (⟨CI _,by lia,by lia⟩:MD _ _)).to (v':=.int ((CJ p g:Nat):Int)) (congrArg V.int (by rw [Am,Ge];rfl)):Ev _ _ _ _) _ ?_
 exact⟨dz,fun l hl=>q _ l AZ (AQ.new hl)⟩
def UE(k:Nat):10^k<=2^(4*k):=by
 rw [Jq];exact Ri dd k
def Yi{t u k:Nat}(hu:0<u)(h:t/u<10^k)(hk:k<=1100):HF (t:Int) (u:Int)=false:=by
 refine S_ ?_;have h1:t<10^k*u:=(E_ hu).mp h;have h2:10^k*u<=2^4400*u:=B2 _ (A9 (UE k) (QM.CG (by lia)));rw [Ar u];exact Bs h1 h2
def ABY(C:Addr):Sp:=fun vs H Q _=> ∃(a:Addr)(n:Bool)(m:Nat)(e:Int),vs=[.ref a]/\BY C H a (.fin n m e)/\0<m/\QN (.fin n m e)/\ ∀H',AQ H H'->Q (.int (Rk (Dh m e).1 (Dh m e).2)) H'
def ZD(h:QN (.fin n m e))(hm:0<m): -16494<=(m.log2:Int)+e/\(m.log2:Int)+e<=16383/\m.log2<=112:=by
 have h1:=h.1;have h2:=h.2;have :m.log2<113:=(Jj (by lia)).mpr h1;lia
def UG:mg "str"=none:=rat 20 rfl
def ABZ:Df "decimal_exponent" 3 ["number"] (ABY CP):=by
 refine(AW 96 rfl).go ["number","low","part"] ?_;rintro S _ _ _ _ _ _ H _ Q _ hr ⟨a,n,m,e,rfl,⟨dx,k,s,z,ex,ha,k1,k2,k3,k4⟩,hm,hq,q⟩;subst k2 k3 k4;refine⟨_,(AJ (pS 1 S (AK BP (AK FK (AK FJ (pD hr MN (AB (AR (pv 0) rfl) (AB (AR (pv 0) rfl) AL))) AE) AE) AE)) (AJ (pS 2 S (pD hr QV (AB (AR (pv 0) rfl) (AB (AR (pv 0) rfl) (pO 1))))) (pR (AK BP (AK BX (pv 1) (Cf MA (by rfl) FR FQ (AB (L_ (SR rfl) (by rfl) UG UC (AB (AK FK (AY Ah (pv 2) AE) (AY Ah (pv 2) AE)) AL)) AL))) AE)))),?_⟩;obtain⟨x1,x2,x3⟩:=ZD hq hm;have zx: ∀σ:L2.St,σ[0]? =some (some (.ref a))->Ev (BJ K (Aa 0) "size") σ H (.int m):=fun σ h=>Ax (AH h) ha AN.cl AN.size EV
 have px: ∀σ:L2.St,σ[0]? =some (some (.ref a))->Ev (BJ K (Aa 0) "power") σ H (.int ex):=fun σ h=>Ax (AH h) ha AN.cl AN.power DQ
 have eE:ex+(Aq (m:Int):Int)-1=(m.log2:Int)+ex:=by rw [Dj,QM.Fs hm];lia
 have bE:Aq ((m.log2:Int)+ex)<=60000000:=A9 (ABV (k:=20) (by have :2^20=1048576:=dd;lia)) dd;refine BD ((A1 (BS (BS (Ev.df (r:=.int ((m.log2:Int)+ex)) (Nw.cons (zx _ rfl) (Nw.cons (px _ rfl) Nw.nil)) fun Q q=>⟨_,_,rfl,by rw [eE];exact q⟩) AI (⟨bE,by decide⟩:HW _ _)) AI ⟨by decide,az dd⟩) AI).to (v':=.int (Bg ((m.log2:Int)+ex))) rfl) ?_;obtain⟨d1,d2⟩:=QM.jT (e:=ex) hm (by lia) (by lia);have lb: -20000<=Bg ((m.log2:Int)+ex)/\Bg ((m.log2:Int)+ex)<=20000:=by unfold Bg;lia
 have y2:=hq.2;have bz:QM.A7 m<=113:=QM.Fd hq.1;refine⟨_,rfl,a,CP,dx,_,_,rfl,ha,AN.cl,AN.size,EV,_,rfl,a,CP,dx,_,_,rfl,ha,AN.cl,AN.power,DQ,_,rfl,m,ex,_,rfl,by lia,by lia,lb,fun H1 l hl s1=>?_⟩;generalize KU:Bg ((m.log2:Int)+ex)=low at *
 have tp:=(QM.YZ m ex low).1;have up:=QM.LH ex low;rw [<-tp]at d1 d2;have Mn:H1 l=some (.lst [.int (B4 m ex low:Int),.int (CJ ex low:Int)]):=hl;have ub:(0:Int) < (CJ ex low:Nat):=by lia
 refine⟨_,rfl,?_⟩;refine(BS (Ek (AH rfl) AI (BL Mn) rfl) (Ek (AH rfl) AI (BL Mn) rfl) ⟨ub,Yi up d2 dd⟩:Ev _ _ _ _) _ ?_;rw [<-Ji];refine⟨_,35,rfl,by decide,by rw [Ht];exact d2,?_⟩;rw [Yd];refine⟨_,rfl,?_,?_⟩
 ·rw [BF,Dl,QM.LF];have :=QM.N2 (n:=B4 m ex low/CJ ex low);have HE:sizeLine=16777216:=rfl;have hd:NF (B4 m ex low/CJ ex low)<=36:=by
   rcases DW 36 (NF (B4 m ex low/CJ ex low))with w|w
   ·exfalso;rcases Dq (B4 m ex low/CJ ex low)with z|z
    ·rw [z]at w;have :NF 0=1:=by decide
     lia
    ·have h3:=this z;have h4:10^35<=10^(NF (B4 m ex low/CJ ex low)-1):=QM.J_ (by lia);exact absurd (Bs (Bs d2 h4) h3) (Hk _)
   ·exact w
  lia
 ·refine⟨_,_,rfl,rfl,_,_,rfl,rfl,?_⟩;rw [BF,Dl,QM.LF];have q':=q H1 s1;rw [d1]at q';exact q'
def ABa(C:Addr):Sp:=fun vs H Q _=> ∃(a:Addr)(n:Bool)(m:Nat)(e md x:Int)(k:Nat),vs=[.ref a,.int (x-k+1),.int md]/\BY C H a (.fin n m e)/\0<m/\QN (.fin n m e)/\(0<=md/\md<=4)/\Rk (Dh m e).1 (Dh m e).2=x/\(-10000<=x/\x<=10000)/\(1<=k/\k<=1000)/\
 ∀H',AQ H H'->Q (.int (rounded md.toNat n (cA (Dh m e).1 (Dh m e).2 k):Nat)) H'
def ABb:Df "multiple_of_ten" 3 ["number","grid","mode"] (ABa CP):=by
 refine(AW 97 rfl).go ["number","grid","mode","part","kept","rest"] ?_;rintro S _ _ _ _ _ _ H _ Q _ hr ⟨a,n,m,e,md,x,k,rfl,⟨dx,kk,s,z,ex,ha,k1,k2,k3,k4⟩,hm,hq,Z9,hx,hxb,hk,q⟩;subst k2 k3 k4;refine⟨_,(AJ (pS 3 S (pD hr QV (AB (AR (pv 0) rfl) (AB (AR (pv 0) rfl) (pO 1))))) (AJ (pS 4 S (AK FK (AY Ah (pv 3) AE) (AY Ah (pv 3) AE))) (AJ (pS 5 S (AK Jv (AY Ah (pv 3) AE) (AY Ah (pv 3) AE))) (AJ (Ag (Bz (pD hr gC (AB (AR (pv 0) rfl) (pW 4 (AB (AK FJ AE (pv 5)) (AB (AY Ah (pv 3) AE) (pO 2))))))) (pR (AK BX (pv 4) AE)) Ai) (pR (pv 4)))))),?_⟩;have y2:=hq.2;have bz:QM.A7 m<=113:=QM.Fd hq.1;refine⟨_,rfl,a,CP,dx,_,_,rfl,ha,AN.cl,AN.size,EV,_,rfl,a,CP,dx,_,_,rfl,ha,AN.cl,AN.power,DQ,_,rfl,?_⟩;refine⟨m,ex,_,rfl,by lia,by lia,by lia,fun H1 l hl s1=>?_⟩;obtain⟨Z5,Z6⟩:=QM.KD (e:=ex) hm;have kb:=(QM.N3 Z5 Z6 hk.1).2;rw [QM.ABE hx rfl]at q kb;obtain⟨o1,o2⟩:=QM.YZ m ex (x-k+1);rw [<-o1,<-o2]at q;rw [<-o1]at kb;have up:=QM.LH ex (x-k+1);obtain⟨tb,Z_⟩:=jc (z:=m) (p:=ex) (g:=x-k+1) (by lia) (by lia) (by lia);have Mn:H1 l=some (.lst [.int (B4 m ex (x-k+1):Int),.int (CJ ex (x-k+1):Int)]):=hl;generalize B4 m ex (x-k+1)=tt at *
 generalize CJ ex (x-k+1)=uu at *
 have ub:(0:Int) < (uu:Int):=by lia
 have nc: ∀σ:L2.St,σ[3]? =some (some (.ref l))->Ev (Br (JG K) (Aa 3) (tC (.int 0))) σ H1 (.int (tt:Int)):=fun σ h=>Ek (AH h) AI (BL Mn) rfl
 have aA: ∀σ:L2.St,σ[3]? =some (some (.ref l))->Ev (Br (JG K) (Aa 3) (tC (.int 1))) σ H1 (.int (uu:Int)):=fun σ h=>Ek (AH h) AI (BL Mn) rfl
 refine BD ((BS (nc _ rfl) (aA _ rfl) ⟨ub,Yi up kb (by lia)⟩).to (v':=.int ((tt/uu:Nat):Int)) (congrArg V.int (Ji _ _).symm)) ?_;refine BD ((BS (C:=fun _ j=>0<j) (g:=fun i j=>V.int (i%j)) (nc _ rfl) (aA _ rfl) ub).to (v':=.int ((tt%uu:Nat):Int)) (congrArg V.int (qC _ _).symm)) ?_;have rl:tt%uu<uu:=Dg _ up;have br:Aq ((tt%uu:Nat):Int)<=200000:=by
  refine Cg (Io rl ?_);rw [QM.Fs up]at Z_;exact Bs (QM.Ex uu) (QM.CG Z_)
 have sc:restOf (2*(tt%uu)) (2*uu)=restOf (tt%uu) uu:=QM.XF dd;refine Bf (Ej (Ev.df (r:=.bl (P0 md.toNat n (tt/uu,restOf (tt%uu) uu))) (Nw.cons (Ax (AH rfl) (s1 _ _ ha) AN.cl AN.sign DR) (Nw.cons (AH rfl) (Nw.cons ((BS AI (AH rfl) (⟨by decide,by lia⟩:HW _ _)).to (v':=.int ((2*(tt%uu):Nat):Int)) (congrArg V.int (by rw [Fl];rfl))) (Nw.cons (aA _ rfl) (Nw.cons (AH rfl) Nw.nil))))) fun Q q=>⟨_,_,_,_,_,rfl,C7 n,CI _,CI _,ub,Z9,by
  rw [CL,Am,Am,Am,sc];exact q⟩)) (fun c=>?_) (fun c=>?_)
 ·rw [Sx,AG c]at q;exact⟨_,rfl,_,_,rfl,rfl,q H1 s1⟩
 ·rw [Sx,AD (by rw [c];decide)]at q;exact⟨_,rfl,q H1 s1⟩
noncomputable def QW(y st t u:Nat):Nat:=if 2*t< (2*y+1)*(u*st)\/(2*t=(2*y+1)*(u*st)/\y%2=0)then y else y+1
def ABc:Sp:=fun vs H Q _=> ∃(y st t u:Nat),vs=[.int ((y*st:Nat):Int),.int (st:Int),.int (t:Int),.int (u:Int)]/\0<st/\QM.A7 st<=200/\QM.A7 y<=200/\QM.A7 t<=1000000/\QM.A7 u<=1000000/\Q (.int ((QW y st t u*st:Nat):Int)) H
def ABd:Df "nearer" 1 ["below","step","top","bottom"] ABc:=by
 refine(AW 98 rfl).go ["below","step","top","bottom","beside"] ?_;rintro S _ _ _ _ _ _ H _ Q _ _ ⟨y,sp,t,u,rfl,hs,bs,Ii,bt,bu,q⟩;refine⟨_,(AJ (pS 4 S (AK BP (AK FJ AE (pv 2)) (AK FJ (AK BX (AK FJ AE (pv 0)) (pv 1)) (pv 3)))) (AJ (Ag (PW.pt (Fb (AX Fo (pv 4) AE) (Fn (PW.pt (JC (AX Ae (pv 4) AE) (Kp (AX Ae (AK Jv (AK FK (pv 0) (pv 1)) AE) AE))))))) (pR (pv 0)) Ai) (pR (AK BX (pv 0) (pv 1))))),?_⟩;have c1:Aq (t:Int)<=1000000:=by rw [Dj];exact bt
 have c2:Aq (u:Int)<=1000000:=by rw [Dj];exact bu
 have c3:Aq ((y*sp:Nat):Int)<=400:=by rw [Dj];exact MX Ii bs
 have c5:Aq ((2*(y*sp)+sp:Nat):Int)<=1000:=by
  rw [Dj];have h1:QM.A7 ((2*y+1)*sp)<=202+200:=MX (QM.Fd (by
   have :y<2^200:=by
    rcases Dq y with z|z
    ·subst z;exact BR _
    ·rw [QM.Fs z]at Ii;exact Bs (QM.Ex y) (QM.CG Ii)
   have e:2^202=4*2^200:=by rw [show 202=200+2 from rfl,Ap,Ar]
   have p:=BR 200;generalize 2^200=XX at *
   lia)) bs
  rw [FZ,A6]at h1;lia
 have s0:(0:Int) < (sp:Int):=by lia
 have eb:(2*(t:Int)-(2*((y*sp:Nat):Int)+(sp:Int))*(u:Int))=2*(t:Int)-(((2*y+1)*(u*sp):Nat):Int):=by
  have e1:(2*((y*sp:Nat):Int)+(sp:Int))=((2*(y*sp)+sp:Nat):Int):=by lia
  rw [e1,<-Fl];have e2:(2*(y*sp)+sp)*u=(2*y+1)*(u*sp):=by
   rw [D3,FZ (2*y) (u*sp)];congr 1
   ·ac_rfl
   ·ac_rfl
  rw [e2]
 refine BD ((A1 (BS AI (AH rfl) ⟨by decide,by lia⟩) (BS (A1 (BS AI (AH rfl) ⟨by decide,by lia⟩) (AH rfl)) (AH rfl) (⟨by
  show Aq (2*((y*sp:Nat):Int)+(sp:Int))<=60000000;rw [show(2*((y*sp:Nat):Int)+(sp:Int))=((2*(y*sp)+sp:Nat):Int) by lia];lia,by lia⟩))).to (congrArg V.int eb)) ?_
 have ey:((y*sp:Nat):Int)/(sp:Int)=(y:Int):=by rw [<-Ji,V7 _ hs]
 have ns:HF ((y*sp:Nat):Int) (sp:Int)=false:=S_ (by
  rw [Ar];refine Nat.mul_lt_mul_of_pos_left ?_ hs;rcases Dq y with z|z
  ·subst z;exact BR _
  ·rw [QM.Fs z]at Ii;exact Bs (QM.Ex y) (QM.CG (by lia)))
 unfold QW at q;generalize (2*y+1)*(u*sp)=X at *
 refine Bf ((GD (Ac (CO (AH rfl) AI)) (KL (Ac (An (AH rfl) AI)) (Ac (An (BS (C:=fun _ j=>0<j) (g:=fun i j=>V.int (i%j)) ((BS (AH rfl) (AH rfl) ⟨s0,ns⟩).to (congrArg V.int ey)) AI dd) AI)))).to (b':=decide (2*t<X\/(2*t=X/\y%2=0))) ?_) (fun c=>?_) (fun c=>?_)
 ·rw [<-Bool.decide_and,<-qK];exact Cd.mpr (by lia)
 ·rw [AG (Au c)]at q;exact⟨_,rfl,q⟩
 ·rw [AD (BA c)]at q;refine⟨_,rfl,_,rfl,_,_,rfl,rfl,?_⟩;rw [FZ,M8]at q;exact q
def ABe{m:Nat}{e g:Int}{c:Nat}(hm:0<m):((B4 (CM m e) (e-2) g:Int)-(1-(m:Int)%2))/(CJ (e-2) g:Int)+1<=(c:Int)↔FT m e g c:=by
 have up:=QM.LH (e-2) g;have l1:=QM.Ya c (CM m e) (e-2) g;have l2:=QM.Yb c (CM m e) (e-2) g;unfold FT;rw [Int.add_one_le_iff,Int.ediv_lt_iff_lt_mul (by lia),<-Fl];have l3:CM m e*BG (e-2) g<c*Aw (e-2) g↔B4 (CM m e) (e-2) g<c*CJ (e-2) g:=by
  constructor
  ·intro h;rcases HG (c*CJ (e-2) g) (B4 (CM m e) (e-2) g)with z|z|z
   ·have :=l1.mp z;lia
   ·have :=l2.mp z;lia
   ·exact z
  ·intro h;rcases HG (c*Aw (e-2) g) (CM m e*BG (e-2) g)with z|z|z
   ·have :=l1.mpr z;lia
   ·have :=l2.mpr z;lia
   ·exact z
 rw [l3,show(CM m e*BG (e-2) g=c*Aw (e-2) g)↔(B4 (CM m e) (e-2) g=c*CJ (e-2) g)from⟨fun h=>(l2.mpr h.symm).symm,fun h=>(l2.mp h.symm).symm⟩];generalize c*CJ (e-2) g=A;generalize B4 (CM m e) (e-2) g=B;lia
def ABf{m:Nat}{e g:Int}{c:Nat}:(c:Int)<=((B4 (4*m+2) (e-2) g:Int)-1+(1-(m:Int)%2))/(CJ (e-2) g:Int)↔E1 m e g c:=by
 have up:=QM.LH (e-2) g;have l1:=QM.Ya c (4*m+2) (e-2) g;have l2:=QM.Yb c (4*m+2) (e-2) g;unfold E1;rw [Int.le_ediv_iff_mul_le (by lia),<-Fl,<-l1,<-l2];generalize c*CJ (e-2) g=A;generalize B4 (4*m+2) (e-2) g=B;lia
def ABg(C:Addr):Sp:=fun vs H Q _=> ∃(a:Addr)(n:Bool)(m:Nat)(e x:Int),vs=[.ref a,.int (x-35)]/\BY C H a (.fin n m e)/\0<m/\QN (.fin n m e)/\Rk (Dh m e).1 (Dh m e).2=x/\(-10000<=x/\x<=10000)/\E2 m e (x-35) 36≠none/\
 ∀(H':Hp)(k y:Nat),1<=k->k<=36->E2 m e (x-35) k=some y->(∀j,1<=j->j<k->E2 m e (x-35) j=none)->AQ H H'->Q (.int ((y*10^(36-k):Nat):Int)) H'
def ABh(h:k<=36):QM.A7 (10^k)<=150:=by
 refine QM.Fd (Cb (UE k) (QM.Ha (by lia)))
def jd:B_ mg "HIDDEN_BIT" 5192296858534827628530496329220096:=CV 30 rfl
def ABi:B_ mg "LEAST_POWER" (-16494):=CV 31 rfl
def ABj:B_ mg "FIRST_STEP" 100000000000000000000000000000000000:=CV 32 rfl
def ABk:
 Df "fewest" 3 ["number","grid"] (ABg CP):=by
 refine(AW 99 rfl).go ["number","grid","size","is_narrow","part","low","high","closed","least","greatest","step","below"] ?_;rintro S _ _ _ A _ _ H _ Q _ hr ⟨a,n,m,e,x,rfl,⟨dx,kk,s,z,ex,ha,k1,k2,k3,k4⟩,hm,hq,hx,hxb,h36,q⟩;subst k2 k3 k4;refine⟨_,(AJ (pS 2 S (AK FJ AE (AR (pv 0) rfl))) (AJ (pS 3 S (L5 (C0 Ae (AR (pv 0) rfl) (pG jd)) (HM (C0 Ef (AR (pv 0) rfl) (pG ABi))))) (AJ (pS 4 S (pD hr QV (pW 2 (AB (AK BP (AR (pv 0) rfl) AE) (pO 1))))) (AJ (pS 5 S (pD hr QV (AB (AK BP (pv 2) (Bq (Bz (pv 3)) AE AE)) (AB (AK BP (AR (pv 0) rfl) AE) (pO 1))))) (AJ (pS 6 S (pD hr QV (AB (AK BX (pv 2) AE) (AB (AK BP (AR (pv 0) rfl) AE) (pO 1))))) (AJ (pS 7 S (AK BP AE (AK Jv (AR (pv 0) rfl) AE))) (AJ (pS 8 S (AK BX (AK FK (AK BP (AY Ah (pv 5) AE) (pv 7)) (AY Ah (pv 5) AE)) AE)) (AJ (pS 9 S (AK FK (AK BX (AK BP (AY Ah (pv 6) AE) AE) (pv 7)) (AY Ah (pv 6) AE))) (AJ (pS 10 S (pG ABj)) (Cj (O7 Gz (Bz L4) (AJ (pS 11 S (AK FJ (AK FK (AK FK (AY Ah (pv 4) AE) (AY Ah (pv 4) AE)) (pv 10)) (pv 10))) (AJ (Ag (PW.pt (JC (AX L8 (pv 11) (pv 8)) (Kp (AX PK (AK BX (pv 11) (pv 10)) (pv 9))))) (pR (pD hr ABd (pW 11 (pW 10 (AB (AY Ah (pv 4) AE) (AB (AY Ah (pv 4) AE) AL)))))) Ai) (AJ (Ag (AX L8 (pv 11) (pv 8)) (pR (pv 11)) Ai) (AJ (Ag (AX PK (AK BX (pv 11) (pv 10)) (pv 9)) (pR (AK BX (pv 11) (pv 10))) Ai) (Cj (pS 10 S (AK FK (pv 10) AE)))))))))))))))))),?_⟩;have q1:=hq.1;have q2:=hq.2;have ng:2^112=5192296858534827628530496329220096:=by decide
 have hu:QUAD.unit= -16494:=by decide
 have bm:Aq (m:Int)<=113:=Cg q1;have zx: ∀(σ:L2.St)(H':Hp),AQ H H'->σ[0]? =some (some (.ref a))->Ev (BJ K (Aa 0) "size") σ H' (.int m):=fun σ H' s h=>Ax (AH h) (s _ _ ha) AN.cl AN.size EV
 have px: ∀(σ:L2.St)(H':Hp),AQ H H'->σ[0]? =some (some (.ref a))->Ev (BJ K (Aa 0) "power") σ H' (.int ex):=fun σ H' s h=>Ax (AH h) (s _ _ ha) AN.cl AN.power DQ
 have r0:=KN H;refine BD ((BS AI (zx _ H r0 rfl) (⟨by decide,by lia⟩:HW _ _)).to (v':=.int ((4*m:Nat):Int)) (congrArg V.int (by rw [Fl];rfl))) ?_;refine BD (v:=.bl (decide (m=2^112/\QUAD.unit<ex))) ((OD (An (zx _ H r0 rfl) AI) (CO (px _ H r0 rfl) AI)).to (congrArg V.bl ?_)) ?_
 ·rw [<-Bool.decide_and,ng,hu];exact Cd.mpr (by lia)
 have b4:QM.A7 (4*m)<=115:=QM.Fd (by have :2^115=4*2^113:=dd;lia);have b42:QM.A7 (4*m+2)<=116:=QM.Fd (by have :2^116=8*2^113:=dd;lia);have lq:CM m ex<=4*m:=KZ (QM.YV hm);have blq:QM.A7 (CM m ex)<=115:=QM.Fd (by have :2^115=4*2^113:=dd;lia);refine⟨_,rfl,?_⟩;refine(A1 (px _ H r0 rfl) AI:Ev _ _ _ _) _ ?_;refine⟨_,rfl,4*m,ex-2,x-35,rfl,by lia,by lia,by lia,fun H1 l1 Fg s1=>?_⟩;have elq:((4*m:Nat):Int)-(if decide (m=2^112/\QUAD.unit<ex)=true then 1 else 2)=((CM m ex:Nat):Int):=by
  unfold QM.CM;by_cases c:m=2^112/\QUAD.unit<ex
  ·rw [AG (Bi c),AG c];lia
  ·rw [AD (by rw [Bh c];decide),AD c];lia
 refine((A1 (AH rfl) (B5 (v:=.int (if decide (m=2^112/\QUAD.unit<ex)=true then 1 else 2)) (Ej (AH rfl)) (fun e=>by rw [e];exact AI) (fun e=>by rw [e];exact AI))).to (congrArg V.int elq):Ev _ _ _ _) _ ?_;refine(A1 (px _ H1 s1 rfl) AI:Ev _ _ _ _) _ ?_;refine⟨_,rfl,CM m ex,ex-2,x-35,rfl,by lia,by lia,by lia,fun H2 l2 Bp s2=>?_⟩;have ni:=s1.trans s2;refine((A1 (AH rfl) AI).to (v':=.int ((4*m+2:Nat):Int)) (congrArg V.int (by lia)):Ev _ _ _ _) _ ?_;refine(A1 (px _ H2 ni rfl) AI:Ev _ _ _ _) _ ?_;refine⟨_,rfl,4*m+2,ex-2,x-35,rfl,by lia,by lia,by lia,fun H3 l3 Zo s3=>?_⟩;have VE:=ni.trans s3;have GK:H3 l1=some (.lst [.int (B4 (4*m) (ex-2) (x-35):Int),.int (CJ (ex-2) (x-35):Int)]):=s3 _ _ (s2 _ _ Fg);have Fy:H3 l2=some (.lst [.int (B4 (CM m ex) (ex-2) (x-35):Int),.int (CJ (ex-2) (x-35):Int)]):=s3 _ _ Bp;have Qz:H3 l3=some (.lst [.int (B4 (4*m+2) (ex-2) (x-35):Int),.int (CJ (ex-2) (x-35):Int)]):=Zo;have up:=QM.LH (ex-2) (x-35);have ub:(0:Int) < (CJ (ex-2) (x-35):Int):=by lia
 obtain⟨tb4,Z_⟩:=jc (z:=4*m) (p:=ex-2) (g:=x-35) (by lia) (by lia) (by lia);have aB:=(QM.N3 (QM.KD (e:=ex) hm).1 (QM.KD (e:=ex) hm).2 (k:=36) dd).2;rw [QM.YU hx dd]at aB;have qx:4*m*BG (ex-2) (x-35)/Aw (ex-2) (x-35) <10^36:=by
  have :Aw (ex-2) (x-35)*10^(36-36)=Aw (ex-2) (x-35):=by rw [V9,B7,Cc]
  rw [this]at aB;exact aB
 have o4:=(QM.YZ (4*m) (ex-2) (x-35)).1;rw [<-o4]at qx;have t0:0<B4 (CM m ex) (ex-2) (x-35):=by
  unfold QM.B4;refine BN (BN ?_ (Iw dd)) (BR _);unfold QM.CM;split<;>lia
 have aC: ∀a b:Nat,a<=b->B4 a (ex-2) (x-35)<=B4 b (ex-2) (x-35):=fun a b h=>by
  unfold QM.B4;exact B2 _ (B2 _ h)
 have nj:B4 (2*(4*m)) (ex-2) (x-35)=2*B4 (4*m) (ex-2) (x-35):=by
  unfold QM.B4
  ac_rfl
 have tl:=aC _ _ lq;have tlh:=aC (CM m ex) (4*m+2) (by lia);have th:=aC (4*m+2) (2*(4*m)) (by lia);rw [nj]at th;have li:=fun c=>ABe (m:=m) (e:=ex) (g:=x-35) (c:=c) hm
 have gi:=fun c=>ABf (m:=m) (e:=ex) (g:=x-35) (c:=c)
 have nk:=fun c=>QM.Ya c (2*(4*m)) (ex-2) (x-35)
 have nq:=fun c=>QM.Yb c (2*(4*m)) (ex-2) (x-35)
 rw [nj]at nk nq;have yk: ∀k,Bb m ex (x-35) k=B4 (4*m) (ex-2) (x-35)/CJ (ex-2) (x-35)/10^(36-k):=fun k=>by
  unfold QM.Bb;rw [o4,RT]
 generalize B4 (4*m) (ex-2) (x-35)=tt at *
 generalize hLL:B4 (CM m ex) (ex-2) (x-35)=LL at *
 generalize B4 (4*m+2) (ex-2) (x-35)=HH at *
 generalize hUU:CJ (ex-2) (x-35)=uu at *
 have nv: ∀σ:L2.St,σ[4]? =some (some (.ref l1))->Ev (Br (JG K) (Aa 4) (tC (.int 0))) σ H3 (.int (tt:Int)):=fun σ h=>Ek (AH h) AI (BL GK) rfl
 have oA: ∀σ:L2.St,σ[4]? =some (some (.ref l1))->Ev (Br (JG K) (Aa 4) (tC (.int 1))) σ H3 (.int (uu:Int)):=fun σ h=>Ek (AH h) AI (BL GK) rfl
 refine BD (A1 AI (BS (C:=fun _ j=>0<j) (g:=fun i j=>V.int (i%j)) (zx _ H3 VE rfl) AI dd)) ?_;have np: ∀i:Nat,i<=2*tt->HF (i:Int) (uu:Int)=false:=fun i hi=>by
  refine Yi (k:=37) up ?_ dd;have h1:tt<10^36*uu:=(E_ up).mp qx;refine(E_ up).mpr ?_;have e37:10^37*uu=10*(10^36*uu):=by rw [CQ 10 36,Ar (10^36),A6]
  rw [e37];generalize 10^36*uu=Z at *
  lia
 have mm:(m:Int)%2=0\/(m:Int)%2=1:=by lia
 refine BD (A1 (BS (A1 (Ek (AH rfl) AI (BL Fy) rfl) (AH rfl)) (Ek (AH rfl) AI (BL Fy) rfl) ⟨ub,?_⟩) AI) ?_
 ·have e1:(LL:Int)-(1-(m:Int)%2)=((LL-(1-m%2):Nat):Int):=by lia
  show HF ((LL:Int)-(1-(m:Int)%2)) (uu:Int)=false;rw [e1];exact np _ (by lia)
 refine BD (BS (A1 (A1 (Ek (AH rfl) AI (BL Qz) rfl) AI) (AH rfl)) (Ek (AH rfl) AI (BL Qz) rfl) ⟨ub,?_⟩) ?_
 ·have hH:LL<=HH\/True:=.inr trivial;by_cases h0:HH=0
  ·subst h0;rcases mm with z|z
   ·have e1:(((0:Nat):Int)-1+(1-(m:Int)%2))=((0:Nat):Int):=by lia
    show HF (((0:Nat):Int)-1+(1-(m:Int)%2)) (uu:Int)=false;rw [e1];exact np 0 (by lia)
   ·exfalso;lia
  ·have e1:(HH:Int)-1+(1-(m:Int)%2)=((HH-m%2:Nat):Int):=by lia
   show HF ((HH:Int)-1+(1-(m:Int)%2)) (uu:Int)=false;rw [e1];exact np _ (by lia)
 generalize hLe:((LL:Int)-(1-(m:Int)%2))/(uu:Int)+1=LE at *
 generalize hGr:((HH:Int)-1+(1-(m:Int)%2))/(uu:Int)=GR at *
 refine BD (AI) ?_;refine PB (fun σ H'=>H'=H3/\ ∃(k:Nat)(z:Option V),1<=k/\k<=36/\(∀j,1<=j->j<k->E2 m ex (x-35) j=none)/\σ=[some (.ref a),some (.int (x-35)),some (.int ((4*m:Nat):Int)),some (.bl (decide (m=2^112/\QUAD.unit<ex))),some (.ref l1),some (.ref l2),some (.ref l3),some (.int (1-(m:Int)%2)),some (.int LE),some (.int GR),some (.int ((10^(36-k):Nat):Int)),z])
  (fun (σ:L2.St) (_:Hp)=>match σ[10]? with
    |some (some (V.int i))=>i.toNat
    |_=>0) ⟨rfl,1,none,BO _,by decide,fun j h1 h2=>by lia,rfl⟩ ?_ ?_
 ·rintro σ H' ⟨rfl,k,z,Ep,KW,VF,rfl⟩;refine⟨true,rfl,ID ?_⟩;have tp:0<10^(36-k):=QM.CW _;have bst:=ABh (k:=36-k) (by lia);have ys:tt/uu/10^(36-k) <10^36:=Cb (qD _ _) qx;have Ii:QM.A7 (tt/uu/10^(36-k))<=150:=QM.Fd (Bs ys (A9 (UE 36) (QM.CG dd)));have oB:=yk k;have ns:HF ((tt/uu:Nat):Int) ((10^(36-k):Nat):Int)=false:=S_ (by
   refine Bs qx (A9 (UE 36) ?_);refine A9 (QM.CG (b:=4400) dd) ?_;exact Rg _ tp)
  have st0:(0:Int) < ((10^(36-k):Nat):Int):=by lia
  rw [<-oB]at Ii;generalize hy:Bb m ex (x-35) k=y at *
  have cb1:Aq ((y:Nat):Int)<=150:=by rw [Dj];exact Ii
  have cb2:Aq ((10^(36-k):Nat):Int)<=150:=by rw [Dj];exact bst
  refine BD (v:=.int ((y*10^(36-k):Nat):Int)) ?_ ?_
  ·refine(BS ((BS ((BS (nv _ rfl) (oA _ rfl) ⟨ub,np tt (by lia)⟩).to (v':=.int ((tt/uu:Nat):Int)) (congrArg V.int (Ji _ _).symm)) (AH rfl) ⟨st0,ns⟩).to (v':=.int (y:Int)) (congrArg V.int (by rw [<-Ji,oB]))) (AH rfl) (⟨by lia,by lia⟩:HW _ _)).to (congrArg V.int (Fl _ _).symm)
  have L1: ∀σ:L2.St,σ[11]? =some (some (.int ((y*10^(36-k):Nat):Int)))->σ[8]? =some (some (.int LE))->DK (JF (Br (Dv fun i j=>V.bl (decide (j<=i))) (Aa 11) (Aa 8))) σ H' (decide (FT m ex (x-35) (y*10^(36-k)))):=fun σ i1 i2=>
   (Ac (CO (AH i1) (AH i2))).to (Cd.mpr (li _))
  have oC:((y*10^(36-k):Nat):Int)+((10^(36-k):Nat):Int)=(((y+1)*10^(36-k):Nat):Int):=by rw [FZ,M8]
  have U1: ∀σ:L2.St,σ[11]? =some (some (.int ((y*10^(36-k):Nat):Int)))->σ[10]? =some (some (.int ((10^(36-k):Nat):Int)))->σ[9]? =some (some (.int GR))->DK (JF (Br (Dv fun i j=>V.bl (decide (i<=j))) (Br (Dv fun i j=>V.int (i+j)) (Aa 11) (Aa 10)) (Aa 9))) σ H' (decide (E1 m ex (x-35) ((y+1)*10^(36-k)))):=fun σ i1 i2 i3=>
   (Ac (CO ((A1 (AH i1) (AH i2)).to (congrArg V.int oC)) (AH i3))).to (Cd.mpr (gi _))
  have Hj:E2 m ex (x-35) k=if FT m ex (x-35) (y*10^(36-k))/\E1 m ex (x-35) ((y+1)*10^(36-k))then some (JO m ex (x-35) k)else if FT m ex (x-35) (y*10^(36-k))then some y else if E1 m ex (x-35) ((y+1)*10^(36-k))then some (y+1)else none:=by
   unfold QM.E2;rw [hy]
  refine Bf (KL (L1 _ rfl rfl) (U1 _ rfl rfl rfl)) (fun c=>?_) (fun c=>?_)
  ·rw [BK]at c;have c1:=Au c.1;have c2:=Au c.2;rw [AG ⟨c1,c2⟩]at Hj;refine(Ev.df (r:=.int ((QW y (10^(36-k)) tt uu*10^(36-k):Nat):Int)) (Nw.cons (AH rfl) (Nw.cons (AH rfl) (Nw.cons (nv _ rfl) (Nw.cons (oA _ rfl) Nw.nil)))) fun Q q=>⟨y,10^(36-k),tt,uu,rfl,tp,by lia,by lia,by lia,by lia,q⟩:Ev _ _ _ _) _ ?_;have en:QW y (10^(36-k)) tt uu=JO m ex (x-35) k:=by
    unfold QW QM.JO;rw [hy];have e1:(2*y+1)*(uu*10^(36-k))=(2*y+1)*10^(36-k)*uu:=by ac_rfl
    have e2:(2*y+1)*(Aw (ex-2) (x-35)*10^(36-k))=(2*y+1)*10^(36-k)*Aw (ex-2) (x-35):=by ac_rfl
    rw [e1,e2];have a1:=nk ((2*y+1)*10^(36-k));have a2:=nq ((2*y+1)*10^(36-k));have e3:2*(4*m)*BG (ex-2) (x-35)=2*(4*m*BG (ex-2) (x-35)):=A6 _ _ _;rw [e3]at a1 a2;generalize (2*y+1)*10^(36-k)*uu=A at *
    generalize (2*y+1)*10^(36-k)*Aw (ex-2) (x-35)=B at *
    generalize 4*m*BG (ex-2) (x-35)=D at *
    have b1:(2*tt<A)↔(2*D<B):=by
     constructor
     ·intro h;rcases HG B (2*D)with w|w|w
      ·have :=a1.mpr w;lia
      ·have :=a2.mpr w;lia
      ·exact w
     ·intro h;rcases HG A (2*tt)with w|w|w
      ·have :=a1.mp w;lia
      ·have :=a2.mp w;lia
      ·exact w
    have b2:(2*tt=A)↔(2*D=B):=⟨fun h=>(a2.mp h.symm).symm,fun h=>(a2.mpr h.symm).symm⟩;simp only [b1,b2]
   rw [en];exact q H' k _ Ep KW Hj VF VE
  ·have nb: ¬(FT m ex (x-35) (y*10^(36-k))/\E1 m ex (x-35) ((y+1)*10^(36-k))):=fun w=>by
    rw [Bi w.1,Bi w.2]at c;cases c
   rw [AD nb]at Hj;refine Bf (L1 _ rfl rfl) (fun c2=>?_) (fun c2=>?_)
   ·rw [AG (Au c2)]at Hj;exact⟨_,rfl,q H' k y Ep KW Hj VF VE⟩
   ·rw [AD (BA c2)]at Hj;refine Bf (U1 _ rfl rfl rfl) (fun c3=>?_) (fun c3=>?_)
    ·rw [AG (Au c3)]at Hj;refine((A1 (AH rfl) (AH rfl)).to (congrArg V.int oC):Ev _ _ _ _) _ ?_;exact q H' k (y+1) Ep KW Hj VF VE
    ·rw [AD (BA c3)]at Hj;have k36:k≠36:=fun w=>by rw [w]at Hj;exact h36 Hj
     have SY:10^(36-k)=10^(36-(k+1))*10:=by rw [<-CQ];congr 1;lia
     refine((BS (AH rfl) AI (⟨by decide,az dd⟩:Nb _ 10)).to (v':=.int ((10^(36-(k+1)):Nat):Int)) (congrArg V.int (by rw [SY];show(((10^(36-(k+1))*10:Nat)):Int)/((10:Nat):Int)=_;rw [<-Ji,V7 _ dd])):Ev _ _ _ _) _ ?_;refine⟨⟨rfl,k+1,_,by lia,by lia,fun j j1 j2=>?_,rfl⟩,?_⟩
     ·rcases DW j k with w|w
      ·exact VF j j1 w
      ·have :j=k:=by lia
       rw [this];exact Hj
     ·show(((10^(36-(k+1)):Nat):Int)).toNat < (((10^(36-k):Nat):Int)).toNat;rw [Am,Am];exact QM.QO (by lia)
 ·rintro σ H' Q1 Q2 h ⟨b,hb,k⟩;exact⟨b,hb,h _ _ k⟩
end
noncomputable def LI(l:List Nat):List Nat:=(l.reverse.dropWhile (· ==48)).reverse
def je(l:List Nat):pZ (AM l) "0"=AM (LI l):=by
 have hp:(fun c=>("0":Str).cps.contains c)=(fun c:Nat=>c==48):=by
  funext c;show(#[48]:Array Nat).contains c=(c==48);simp;rfl
 have key:AM (l.take (l.length-(l.reverse.takeWhile (fun c:Nat=>c==48)).length))=AM (LI l):=by
  unfold LI;rw [N5];have h:=Ow (p:=fun c:Nat=>c==48) (l:=l.reverse);have h2:=congrArg List.reverse h;rw [qQ,pq]at h2;have hl:(l.reverse.takeWhile (fun c:Nat=>c==48)).length+(l.reverse.dropWhile (fun c:Nat=>c==48)).length=l.length:=by
   rw [<-CD,h,Rb]
  have e:l.length-(l.reverse.takeWhile (fun c:Nat=>c==48)).length=((l.reverse.dropWhile (fun c:Nat=>c==48)).reverse).length:=by
   rw [Rb];lia
  rw [e];generalize (l.reverse.dropWhile (fun c:Nat=>c==48)).reverse=A at *
  generalize (l.reverse.takeWhile (fun c:Nat=>c==48)).reverse=B at *
  rw [<-h2,cB]
 unfold pZ Txt.stripBy;have lo:stripLo (("0":Str).cps.contains) false (AM l)=0:=rfl;have hi:stripHi (("0":Str).cps.contains) true (AM l) 0=l.length-(l.reverse.takeWhile (fun c:Nat=>c==48)).length:=by
  show(AM l).length-(((AM l).cps.toList.drop 0).reverse.takeWhile _).length=_;rw [BF,QT,Rl];congr 2;congr 1
 have sub:stripped (("0":Str).cps.contains) false true (AM l)=AM (l.take (l.length-(l.reverse.takeWhile (fun c:Nat=>c==48)).length)):=by
  unfold stripped;rw [lo,hi];show(⟨l.toArray.extract 0 _⟩:Str)=_;rw [WA];simp [AM]
 have same:stripSame (("0":Str).cps.contains) false true (AM l)=true->AM l=AM (l.take (l.length-(l.reverse.takeWhile (fun c:Nat=>c==48)).length)):=fun h=>by
  unfold stripSame at h;rw [lo,hi,BF]at h;simp only [BK,GP]at h;rw [h.2,Ip]
 split
 ·next c=>exact(same c).trans key
 ·rw [sub,key]
def UH(t:Rj):LI (tn t)=tn (Rm t):=by
 unfold LI tn Rm;rw [<-AGJ,List.dropWhile_map,<-AGJ];congr 1;have e:(fun c:Nat=>c==48) ∘ UInt8.toNat=fun c:UInt8=>c==48:=by
  funext c;show(c.toNat==48)=(c==48);rw [Hn,GP,GP];constructor
  ·intro h;exact AGK.mp h
  ·intro h;rw [h];rfl
 rw [e]
def ABl(l:List Nat)(d:Nat):HR (AM l) none (some (d:Int))=AM (l.take d):=by
 unfold HR;rw [HT.dH,HT.NW,QT,BF,Rl,Vk];show AM (l.take (min d l.length))=_;rw [N5];rcases Nat.le_total d l.length with h|h
 ·rw [Ou h]
 ·rw [Nat.min_eq_right h,Ip,Il h]
def jf(l:List Nat)(i:Nat):HR (AM l) (some (i:Int)) none=AM (l.drop i):=by
 unfold HR;rw [HT.dH,HT.NW,QT,BF];show AM ((l.drop (min i l.length)).take (l.length-min i l.length))=_;rw [N5];rcases Nat.le_total i l.length with h|h
 ·rw [Ou h,Il (by rw [D1];lia)]
 ·rw [Nat.min_eq_right h,AGL (BO _),AGL h];simp
def Yj(c:Nat):Cq c≠[]:=fun h=>by
 have :=congrArg Ik h;rw [QM.LF]at this;have :=QM.N1 c;simp only [Cu]at *
 lia
noncomputable def N6(n:Bool)(k:List Nat)(x:Int):List Nat:=Eh n++(F_ (k.take 1) (k.drop 1)++(101::tn ((if x<0 then [45]else [])++Cq x.natAbs)))
def UI:N6 n (tn (Cq q)) x=tn (Qu.decText n (q,x)):=by
 unfold N6 Qu.decText qR;dsimp only;rw [UD,UD];congr 1
 ·unfold Eh Iz;cases n<;>rfl
 ·congr 1;cases h:Cq q with
  |nil=>exact absurd h (Yj q)
  |cons c r=>
   unfold Qu.pointed F_;dsimp only;cases r with
   |nil=>simp [tn]
   |cons d r=>simp [tn]
section
variable{C:Addr}
noncomputable def G_(c d:Nat):List Nat:=if 0<d then(tn (Cq c)).take d else LI (tn (Cq c))
def ABm(C:Addr):Sp:=fun vs H Q _=> ∃(a:Addr)(n:Bool)(m:Nat)(e g:Int)(c d:Nat),vs=[.ref a,.int (c:Int),.int (d:Int),.int g]/\BY C H a (.fin n m e)/\c<10^1001/\G_ c d≠[]/\(-20000<=g/\g<=20000)/\
 Q (.str (AM (N6 n (G_ c d) (g+(Cq c).length-1)))) H
def LJ(h:c<10^k)(hk:1<=k):(Cq c).length<=k:=by
 rw [QM.LF];rcases DW k (NF c)with w|w
 ·exfalso;rcases Dq c with z|z
  ·rw [z]at w;have :NF 0=1:=by decide
   lia
  ·have h3:=QM.N2 z;have h4:10^k<=10^(NF c-1):=QM.J_ (by lia);exact absurd (Bs (Bs h h4) h3) (Hk _)
 ·exact w
def Yk(l:List Nat):(LI l).length<=l.length:=by
 unfold LI;rw [Rb];have :=(List.dropWhile_sublist (fun c:Nat=>c==48) (l:=l.reverse)).length_le;rw [Rb]at this;exact this
def jg:Df "in_decimal" 2 ["number","count","digits","grid"] (ABm CP):=by
 refine(AW 100 rfl).go ["number","count","digits","grid","text","kept"] ?_;rintro S _ _ _ _ _ _ H _ Q _ hr ⟨a,n,m,e,g,c,d,rfl,hp,hc,hk,hg,q⟩;refine⟨_,(AJ (pS 4 S (L_ (SR rfl) (by rfl) UG UC (pO 1))) (AJ (pS 5 S (Bq (AX Ef (pv 2) AE) (Jw MC (pv 4) WW (F5 (pv 2))) (Fp I0 pf AGM eU (pv 4) (AB Cy AL)))) (pR (AK G0 (AK G0 (AK G0 (pD hr Yg (pO 0)) (pD hr ja (AB (AY Wa (pv 5) AE) (AB (Jw MC (pv 5) (F5 AE) WW) AL)))) Cy) (L_ (SR rfl) (by rfl) UG UC (AB (AK BP (AK BX (pv 3) (Cf MA (by rfl) FR FQ (pO 4))) AE) AL)))))),?_⟩;have HE:sizeLine=16777216:=rfl;have dl:=LJ hc dd;have tl:(tn (Cq c)).length<=1001:=by rw [Dl];exact dl
 refine BD (v:=.str (AM (tn (Cq c)))) (EX (Nw.cons (AH rfl) Nw.nil) fun Q q=>⟨(c:Int),1001,rfl,by decide,by rw [Ht];exact hc,by rw [Yd];exact q⟩) ?_;refine BD (v:=.str (AM (G_ c d))) (B5 ((Ac (CO (AH rfl) AI)).to (b':=decide (0<d)) (Cd.mpr (by lia))) (fun e=>?_) (fun e=>?_)) ?_
 ·unfold G_;rw [AG (Au e),<-ABl];exact fun Q q=>⟨_,rfl,_,rfl,_,rfl,_,rfl,by rw [BF];lia,q⟩
 ·unfold G_;rw [AD (BA e),<-je];exact fun Q q=>⟨_,rfl,rfl,_,_,rfl,rfl,by rw [BF];lia,q⟩
 have kl:(G_ c d).length<=1001:=by
  unfold G_;split
  ·rw [DV];lia
  ·exact A9 (Yk _) tl
 obtain⟨k0,kr,nP⟩: ∃k0 kr,G_ c d=k0::kr:=by
  cases h:G_ c d with
  |nil=>exact absurd h hk
  |cons k0 kr=>exact⟨k0,kr,rfl⟩
 rw [nP]at q kl⊢;simp only [BU]at kl;refine(Ev.df (r:=.str (AM (Eh n))) (Nw.cons (AH rfl) Nw.nil) fun Q q=>⟨a,_,rfl,hp,rfl,q⟩:Ev _ _ _ _) _ ?_;have EK0: ∀σ:L2.St,σ[5]? =some (some (.str (AM (k0::kr))))->Ev (Br WZ (Aa 5) (tC (.int 0))) σ H (.str (AM [k0])):=fun σ h Q q=>⟨_,h,_,_,k0,rfl,rfl,by rw [BF];simp only [BU];lia,HQ (i:=0) rfl,q⟩
 have EK1: ∀σ:L2.St,σ[5]? =some (some (.str (AM (k0::kr))))->Ev (dN d8 (Aa 5) (dM (tC (.int 1))) dJ) σ H (.str (AM kr)):=fun σ h Q q=>⟨_,h,_,rfl,_,rfl,by rw [BF];simp only [BU];lia,by
  have :=jf (k0::kr) 1;rw [show((1:Nat):Int)=1 from rfl]at this;rw [this];exact q⟩
 refine(Ev.df (r:=.str (AM (F_ [k0] kr))) (Nw.cons (EK0 _ rfl) (Nw.cons (EK1 _ rfl) Nw.nil)) fun Q q=>⟨[k0],kr,rfl,by simp,by lia,q⟩:Ev _ _ _ _) _ ?_;have ml:(Eh n).length<=1:=by unfold Eh;split<;>decide
 have pl:(F_ [k0] kr).length<=1003:=by
  unfold F_;split
  ·simp
  ·simp only [CD,BU,Cu];lia
 refine⟨_,_,rfl,rfl,by rw [BF,BF];lia,?_⟩;rw [Gk];have ee:(("e":String):Str)=AM [101]:=rfl;refine⟨_,_,rfl,rfl,by rw [BF,ee,BF,CD];simp only [BU,Cu];lia,?_⟩;rw [ee,Gk];have e6:10^6=1000000:=by decide
 have gb:(g+((Cq c).length:Nat)-1).natAbs <10^6:=by rw [e6];lia
 have EL: ∀σ:L2.St,σ[4]? =some (some (.str (AM (tn (Cq c)))))->Ev (G3 (fun xs H Q=> ∃z,xs=[.str z]/\z.length<=sizeLine/\Q (.int z.length) H) (Ba (Aa 4) B3)) σ H (.int ((Cq c).length:Nat)):=fun σ h=>
  EX (Nw.cons (AH h) Nw.nil) fun Q q=>⟨_,rfl,by rw [BF];lia,by rw [BF,Dl];exact q⟩
 refine(EX (r:=.str (AM (tn ((if g+((Cq c).length:Nat)-1<0 then [45]else [])++Cq (g+((Cq c).length:Nat)-1).natAbs)))) (Nw.cons (A1 (A1 (AH rfl) (EL _ rfl)) AI) Nw.nil) fun Q q=>⟨_,6,rfl,by decide,gb,by rw [str_int];exact q⟩:Ev _ _ _ _) _ ?_;have xl:(Cq (g+((Cq c).length:Nat)-1).natAbs).length<=6:=LJ gb dd;refine⟨_,_,rfl,rfl,?_,?_⟩
 ·rw [BF,BF,Dl];simp only [CD,BU,Cu];split<;>simp only [BU,Cu]<;>lia
 ·rw [Gk];unfold N6 at q;rw [<-Jp]at q;rw [Jp (Eh n++F_ [k0] kr)];exact q
def UJ:Sp:=fun vs H Q _=> ∃(a m:Int)(d:Nat),vs=[.int a,.int (d:Int),.int m]/\A3 a/\d<=1000/\(0<=m/\m<=4)/\ ∀H' l,MW H' l (tn (Qu.show_ d m.toNat a.toNat))->AQ H H'->Q (.ref l) H'
def ABn:Yh x [48,101,48]=tn (match x with
 |.nan _=>GW "nan"
 |.inf n=>Iz n++GW "inf"
 |.fin n _ _=>Iz n++GW "0e0"):=by
 cases x with
 |nan b=>
  show [110,97,110]=tn (GW "nan");decide+kernel
 |inf n=>cases n<;>decide+kernel
 |fin n m e=>
  show Eh n++[48,101,48]=tn (Iz n++GW "0e0");cases n<;>decide+kernel
def ABo:B_ mg "MOST_DIGITS" 36:=CV 33 rfl
def ABp:Df "show" 6 ["a","digits","mode"] UJ:=by
 refine(AW 101 rfl).go ["a","digits","mode","number","x","grid"] ?_;rintro S _ _ _ _ _ _ H _ Q _ hr ⟨a,md,d,rfl,ba,hd,Z9,q⟩;refine⟨_,(AJ (pS 3 S (pD hr DS (pO 0))) (AJ (Ag (AX L7 (AR (pv 3) rfl) (pG Nq)) (pR (pD hr QU (AB (pD hr jZ (pW 3 (AB Cy AL))) AL))) Ai) (AJ (pS 4 S (pD hr ABZ (pO 3))) (AJ (Ag (AX Ae (pv 1) AE) (AJ (pS 5 S (AK BX (AK BP (pv 4) (pG ABo)) AE)) (pR (pD hr QU (AB (pD hr jg (pW 3 (AB (pD hr ABk (pW 3 (pO 5))) (pW 1 (pO 5))))) AL)))) Ai) (AJ (pS 5 S (AK BX (AK BP (pv 4) (pv 1)) AE)) (pR (pD hr QU (AB (pD hr jg (pW 3 (AB (pD hr ABb (pW 3 (pW 5 (pO 2)))) (pW 1 (pO 5))))) AL)))))))),?_⟩;refine⟨_,rfl,a,rfl,ba,fun H1 p hp s1=>?_⟩;have qx:QN (AU QUAD a.toNat):=QM.FO _;have q': ∀H' l,MW H' l (tn (Qu.showIn QUAD d md.toNat a.toNat))->AQ H1 H'->Q (.ref l) H':=fun H' l h s=>q H' l h (s1.trans s)
 clear q;unfold Qu.showIn at q';have AGd: ∀n m e,AU QUAD a.toNat=.fin n m e->AU QUAD a.toNat=.fin n m e:=fun _ _ _ h=>h
 generalize Zn:AU QUAD a.toNat=x at hp qx q';obtain⟨dx,k,s,z,e,Jd,hx⟩:=id hp;have kx: ∀σ:L2.St,σ[3]? =some (some (.ref p))->Ev (BJ K (Aa 3) "kind") σ H1 (.int k):=fun σ h=>Ax (AH h) Jd AN.cl AN.kind C3
 refine Bf (Ac (Mh (kx _ rfl) AI)) (fun c=>?_) (fun c=>?_)
 ·have c:k≠1:=fun w=>by rw [w]at c;cases c
  refine⟨_,rfl,p,x,[48,101,48],rfl,hp,by decide,?_⟩;rw [ABn];refine⟨_,rfl,?_,?_⟩
  ·rw [Dl];cases x with
   |nan b=>exact(by decide+kernel:(GW "nan").length<=20000)
   |inf n=>cases n<;>decide+kernel
   |fin n m e=>
    show(Iz n++GW "0e0").length<=20000;cases n<;>decide+kernel
  ·cases x with
   |nan b=>exact q'
   |inf n=>exact q'
   |fin n m pp=>
    have m0:m=0:=by
     rcases Dq m with w|w
     ·exact w
     ·exact absurd (by rw [hx.1,AD (by lia)]) c
    dsimp only at q';rw [AG m0]at q';exact q'
 ·have c:k=1:=by
   rcases RR k 1 with w|w|w
   ·rw [Bh (by lia)]at c;cases c
   ·exact w
   ·rw [Bh (by lia)]at c;cases c
  cases x with
  |nan b=>rw [hx.1]at c;split at c<;>cases c
  |inf n=>rw [hx.1]at c;cases c
  |fin n m pp=>
   have m0:0<m:=by
    rcases Dq m with w|w
    ·rw [hx.1,AG w]at c;cases c
    ·exact w
   dsimp only at q';rw [AD (by lia)]at q';obtain⟨x1,x2,x3⟩:=ZD qx m0;have tx:=QM.jT (e:=pp) m0 (by lia) (by lia);have oE: -10000<=Rk (Dh m pp).1 (Dh m pp).2/\Rk (Dh m pp).1 (Dh m pp).2<=10000:=by
    have dcl:NF (m*BG pp (Bg (m.log2+pp))/Aw pp (Bg (m.log2+pp)))<=35:=by
     have :=LJ tx.2 dd;rw [QM.LF]at this;exact this
    have :=tx.1;unfold Bg at *
    lia
   refine⟨_,rfl,p,n,m,pp,rfl,hp,m0,qx,fun H2 s2=>?_⟩;generalize hX:Rk (Dh m pp).1 (Dh m pp).2=X at *
   have E7:=hp.same s2;refine Bf ((Ac (An (AH rfl) AI)).to (b':=decide (d=0)) (Cd.mpr (by lia))) (fun cd=>?_) (fun cd=>?_)
   ·have d0:=Au cd;subst d0;rw [AG rfl]at q';refine BD ((A1 (A1 (AH rfl) AI) AI).to (v':=.int (X-35)) (congrArg V.int (by lia))) ?_;refine⟨_,rfl,_,rfl,_,rfl,p,n,m,pp,X,rfl,E7,m0,qx,hX,oE,QM.AA8 Zn m0 hX,fun H3 k y Ep KW hs hn s3=>?_⟩;obtain⟨f1,f2,f3,f4⟩:=QM.AA7 Zn m0 hX Ep KW hs hn;obtain⟨t1,t2⟩:=QM.ABA (x:=X) Ep KW f2 f3 f4;have ek:G_ (y*10^(36-k)) 0=tn (Cq (Hw k y X).1):=by
     unfold G_;rw [AD dd,UH,t1]
    have yb:y*10^(36-k) <10^1001:=by
     have h1:y*10^(36-k)<=10^k*10^(36-k):=B2 _ f3;rw [<-Ap]at h1;exact Cb h1 (QM.QO (by lia))
    refine⟨_,rfl,_,rfl,p,n,m,pp,X-35,y*10^(36-k),0,rfl,E7.same s3,yb,?_,by lia,?_⟩
    ·rw [ek];intro z;exact Yj _ (qS.mp z)
    ·rw [ek,t2,UI];refine⟨_,rfl,?_,fun H4 l h4 s4=>q' H4 l ?_ ((s2.trans s3).trans s4)⟩
     ·rw [<-UI];have l1:(Cq (Hw k y X).1).length<=1001:=by
       rw [<-t1];have :=Yk (tn (Cq (y*10^(36-k))));rw [UH,Dl,Dl]at this;exact A9 this (LJ yb dd)
      have l2:(Cq (Hw k y X).2.natAbs).length<=6:=LJ (by
       have :10^6=1000000:=by decide
       have c2:(Hw k y X).2=X\/(Hw k y X).2=X+1:=by unfold Hw;split<;>simp
       lia) dd
      unfold N6 Eh F_;simp only [CD,BU,Dl];split<;>split<;>split<;>simp only [CD,BU,Cu,DV,D1,Dl]<;>lia
     ·rw [show Qu.magnitudeOf QUAD a.toNat=QM.A0 QUAD a.toNat from rfl,f1];exact h4
   ·have d0:=BA cd;rw [AD d0]at q';refine BD ((A1 (A1 (AH rfl) (AH rfl)) AI)) ?_;refine⟨_,rfl,_,rfl,_,rfl,_,rfl,p,n,m,pp,md,X,d,rfl,E7,m0,qx,Z9,hX,oE,⟨by lia,hd⟩,fun H3 s3=>?_⟩;have kb:=QM.N3 (QM.KD (e:=pp) m0).1 (QM.KD (e:=pp) m0).2 (k:=d) (by lia);have rb:=QM.T7 md.toNat n (cA (Dh m pp).1 (Dh m pp).2 d);have eq0:Qu.kDigits (Qu.modeOf md.toNat) n (Dh m pp).1 (Dh m pp).2 d=Hw d (rounded md.toNat n (cA (Dh m pp).1 (Dh m pp).2 d)) X:=by
     unfold Qu.kDigits Qu.modeOf;rw [hX]
    rw [eq0]at q';generalize rounded md.toNat n (cA (Dh m pp).1 (Dh m pp).2 d)=c at *
    have c1:10^(d-1)<=c:=A9 kb.1 rb.1;have c2:c<=10^d:=A9 rb.2 kb.2;obtain⟨t1,t2⟩:=QM.ABB (x:=X) (by lia) c1 c2;have ek:G_ c d=tn (Cq (Hw d c X).1):=by
     unfold G_;rw [AG (by lia),<-t1];unfold tn;rw [qG]
    have yb:c<10^1001:=Cb c2 (QM.QO (by lia));refine⟨_,rfl,_,rfl,p,n,m,pp,X-d+1,c,d,rfl,E7.same s3,yb,?_,by lia,?_⟩
    ·rw [ek];intro z;exact Yj _ (qS.mp z)
    ·rw [ek,t2,UI];refine⟨_,rfl,?_,fun H4 l h4 s4=>q' H4 l h4 ((s2.trans s3).trans s4)⟩;rw [<-UI];have l1:(Cq (Hw d c X).1).length<=1001:=by
      rw [<-t1,DV];have :=LJ yb dd;lia
     have l2:(Cq (Hw d c X).2.natAbs).length<=6:=LJ (by
      have :10^6=1000000:=by decide
      have c2:(Hw d c X).2=X\/(Hw d c X).2=X+1:=by unfold Hw;split<;>simp
      lia) dd
     unfold N6 Eh F_;simp only [CD,BU,Dl];split<;>split<;>split<;>simp only [CD,BU,Cu,DV,D1,Dl]<;>lia
end
noncomputable def MY:List Nat:=[48,49,50,51,52,53,54,55,56,57,97,98,99,100,101,102]
def ABq: ∀d,d<16->MY[d]? =some (cC d).toNat:=by decide
section
variable{C:Addr}
def ABr:Sp:=fun vs H Q _=> ∃f:Nat,vs=[.int (f:Int)]/\Q (.str (AM (tn (Rm (Lu f 28))))) H
def jh:Pf mg "HEXADECIMAL" (AM MY):=XA (by kernel_rfl)
def ABs:Df "hexadecimal_digits" 1 ["fraction"] ABr:=by
 refine(AW 102 rfl).go ["fraction","text","place"] ?_;rintro S _ _ _ _ _ _ H _ Q _ _ ⟨f,rfl,q⟩;refine⟨_,(AJ (pS 1 S Cy) (AJ (JD Gz rfl (Wz (by rfl) YK (AB AE (AB AE (AB AE AL)))) (FF (i:=2) S rfl (Or.inl rfl)) (Cj (pS 1 S (AK G0 (AY Wa (Pg rfl jh) (AK EH (AK GZ (pv 0) (pv 2)) AE)) (pv 1))))) (pR (Fp I0 pf AGM eU (pv 1) (AB Cy AL))))),?_⟩;have HE:sizeLine=16777216:=rfl;refine BD AI ?_;refine⟨_,_,_,28,rfl,⟨by decide,by decide,by decide+kernel,by decide+kernel⟩,?_⟩;refine W0 (fun i σ H'=>H'=H/\i<=28/\ ∃z:Option V,σ=[some (.int (f:Int)),some (.str (AM (tn (Lu f i)))),z]) ⟨rfl,DM _,none,rfl⟩ ?_ ?_
 ·rintro i σ H' hi ⟨rfl,Ze,z,rfl⟩;have e1:(0:Int)+(i:Nat)*4=((4*i:Nat):Int):=by lia
  dsimp only [HN];rw [e1];have hd:f/16^i%16<16:=Dg _ dd;have Z8:D0 ((f:Int)/2^((4*i:Nat):Int).toNat) 15=((f/16^i%16:Nat):Int):=by
   rw [Am,IF,Jq];exact Ny _ 4
  have Qy:(0:Int)<=((4*i:Nat):Int):=CI _;refine((A1 (BS (C:=fun _ j=>0<=j) (g:=fun i j=>V.int (i/2^j.toNat)) (AH rfl) (AH rfl) Qy) AI).to (congrArg V.int Z8):Ev _ _ _ _) _ ?_;refine⟨_,_,(cC (f/16^i%16)).toNat,rfl,rfl,by rw [BF];decide,HQ (ABq _ hd),_,rfl,_,_,rfl,rfl,?_,⟨rfl,hi,some (.int ((4*i:Nat):Int)),?_⟩⟩
  ·rw [BF,Dl,QM.UA];show 1+i<=sizeLine;lia
  ·have e2:(⟨#[(cC (f/16^i%16)).toNat]⟩:Str)++AM (tn (Lu f i))=AM (tn (Lu f (i+1))):=by
    rw [QM.ABD];exact Gk [(cC (f/16^i%16)).toNat] (tn (Lu f i))
   rw [e2];rfl
 ·rintro σ H' ⟨rfl,_,z,rfl⟩;refine⟨_,rfl,rfl,_,_,rfl,rfl,by rw [BF,Dl,QM.UA];lia,?_⟩;rw [je,UH];exact q
def UK:Sp:=fun vs H Q _=> ∃a,vs=[.int a]/\A3 a/\ ∀H' l,MW H' l (tn (Qu.showHex a.toNat))->AQ H H'->Q (.ref l) H'
def ABt:Yh x [48,120,48,112,48]=tn (match x with
 |.nan _=>GW "nan"
 |.inf n=>Iz n++GW "inf"
 |.fin n _ _=>Iz n++GW "0x0p0"):=by
 cases x with
 |nan b=>
  show [110,97,110]=tn (GW "nan");decide+kernel
 |inf n=>cases n<;>decide+kernel
 |fin n m e=>
  show Eh n++[48,120,48,112,48]=tn (Iz n++GW "0x0p0");cases n<;>decide+kernel
def ABu(f k:Nat):(Rm (Lu f k)).length<=k:=by
 have :=Yk (tn (Lu f k));rw [UH,Dl,Dl,QM.UA]at this;exact this
def ABv(n:Bool)(fr:Rj)(x:Int):Eh n++[48,120]++F_ [49] (tn fr)++[112]++tn ((if x<0 then [45]else [])++Cq x.natAbs)=tn (Iz n++(GW "0x1"++((if fr=[]then []else 46::fr)++qR 112 x))):=by
 unfold qR;have a1:GW "0x1"=[48,120,49]:=by decide+kernel
 have a2:tn (Iz n)=Eh n:=by cases n<;>rfl
 generalize ((if x<0 then [45]else [])++Cq x.natAbs:Rj)=tl;rw [a1,UD (Iz n),a2,Jp,Jp,Jp];congr 1;unfold F_;cases fr with
 |nil=>simp [tn]
 |cons c r=>simp [tn]
def ABw:Df "in_hex" 6 ["a"] UK:=by
 refine(AW 103 rfl).go ["a","number","e","widened","fraction"] ?_;rintro S _ _ _ _ _ _ H _ Q _ hr ⟨a,rfl,ba,q⟩;refine⟨_,(AJ (pS 1 S (pD hr DS (pO 0))) (AJ (Ag (AX L7 (AR (pv 1) rfl) (pG Nq)) (pR (pD hr QU (AB (pD hr jZ (pW 1 (AB Cy AL))) AL))) Ai) (AJ (pS 2 S (pD hr MN (AB (AR (pv 1) rfl) (AB (AR (pv 1) rfl) AL)))) (AJ (pS 3 S (AK DF (AR (pv 1) rfl) (AK BP AE (PM Vq Vr Vs PZ (AR (pv 1) rfl))))) (AJ (pS 4 S (pD hr ABs (AB (AK BP (pv 3) (pG jd)) AL))) (pR (pD hr QU (AB (AK G0 (AK G0 (AK G0 (AK G0 (pD hr Yg (pO 1)) Cy) (pD hr ja (AB Cy (pO 4)))) Cy) (L_ (SR rfl) (by rfl) UG UC (pO 2))) AL)))))))),?_⟩;have HE:sizeLine=16777216:=rfl;refine⟨_,rfl,a,rfl,ba,fun H1 p hp s1=>?_⟩;have qx:QN (AU QUAD a.toNat):=QM.FO _;have q': ∀H' l,MW H' l (tn (Qu.showHexIn QUAD a.toNat))->AQ H1 H'->Q (.ref l) H':=fun H' l h s=>q H' l h (s1.trans s)
 clear q;unfold Qu.showHexIn at q';generalize AU QUAD a.toNat=x at hp qx q';obtain⟨dx,k,s,z,e,Jd,hx⟩:=id hp;have kx: ∀σ:L2.St,σ[1]? =some (some (.ref p))->Ev (BJ K (Aa 1) "kind") σ H1 (.int k):=fun σ h=>Ax (AH h) Jd AN.cl AN.kind C3
 refine Bf (Ac (Mh (kx _ rfl) AI)) (fun c=>?_) (fun c=>?_)
 ·have c:k≠1:=fun w=>by rw [w]at c;cases c
  refine⟨_,rfl,p,x,[48,120,48,112,48],rfl,hp,by decide,?_⟩;rw [ABt];refine⟨_,rfl,?_,?_⟩
  ·rw [Dl];cases x with
   |nan b=>exact(by decide+kernel:(GW "nan").length<=20000)
   |inf n=>cases n<;>decide+kernel
   |fin n m e=>
    show(Iz n++GW "0x0p0").length<=20000;cases n<;>decide+kernel
  ·cases x with
   |nan b=>exact q'
   |inf n=>exact q'
   |fin n m pp=>
    have m0:m=0:=by
     rcases Dq m with w|w
     ·exact w
     ·exact absurd (by rw [hx.1,AD (by lia)]) c
    dsimp only at q';rw [AG m0]at q';exact q'
 ·have c:k=1:=by
   rcases RR k 1 with w|w|w
   ·rw [Bh (by lia)]at c;cases c
   ·exact w
   ·rw [Bh (by lia)]at c;cases c
  cases x with
  |nan b=>rw [hx.1]at c;split at c<;>cases c
  |inf n=>rw [hx.1]at c;cases c
  |fin n m pp=>
   have m0:0<m:=by
    rcases Dq m with w|w
    ·rw [hx.1,AG w]at c;cases c
    ·exact w
   dsimp only at q';rw [AD (by lia)]at q';obtain⟨x1,x2,x3⟩:=ZD qx m0;rw [QM.ABC m0 x3]at q';obtain⟨k1,k2,k3,k4⟩:=hx;subst k2 k3 k4;have zx: ∀σ:L2.St,σ[1]? =some (some (.ref p))->Ev (BJ K (Aa 1) "size") σ H1 (.int m):=fun σ h=>Ax (AH h) Jd AN.cl AN.size EV
   have px: ∀σ:L2.St,σ[1]? =some (some (.ref p))->Ev (BJ K (Aa 1) "power") σ H1 (.int e):=fun σ h=>Ax (AH h) Jd AN.cl AN.power DQ
   have eE:e+(Aq (m:Int):Int)-1=e+(m.log2:Int):=by rw [Dj,QM.Fs m0];lia
   have bm:Aq (m:Int)<=113:=Cg qx.1;have eb:(Aq (m:Int):Int)=(m.log2:Int)+1:=by rw [Dj,QM.Fs m0];lia
   refine BD (Ev.df (r:=.int (e+(m.log2:Int))) (Nw.cons (zx _ rfl) (Nw.cons (px _ rfl) Nw.nil)) fun Q q=>⟨_,_,rfl,by rw [eE];exact q⟩) ?_;have EB: ∀σ:L2.St,σ[1]? =some (some (.ref p))->Ev (dU K "int" eQ (BJ K (Aa 1) "size")) σ H1 (.int ((Aq (m:Int):Nat):Int)):=fun σ h Q q=>(zx σ h) _ ⟨rfl,_,rfl,rfl,q⟩
   have ew:(m:Int)*2^((113:Int)-((Aq (m:Int):Nat):Int)).toNat=((m*2^(112-m.log2):Nat):Int):=by
    rw [show((113:Int)-((Aq (m:Int):Nat):Int)).toNat=112-m.log2 by lia,Ge]
   refine BD ((BS (zx _ rfl) (A1 AI (EB _ rfl)) (⟨by lia,by lia,by lia⟩:MD _ _)).to (congrArg V.int ew)) ?_;have wl:2^112<=m*2^(112-m.log2):=by
    have h1:=QM.IK m0;have h2:2^m.log2*2^(112-m.log2)<=m*2^(112-m.log2):=B2 _ h1;rw [<-Ap,show m.log2+(112-m.log2)=112 by lia]at h2;exact h2
   have ng:2^112=5192296858534827628530496329220096:=by decide
   have ef:((m*2^(112-m.log2):Nat):Int)-5192296858534827628530496329220096=((m*2^(112-m.log2)-2^112:Nat):Int):=by
    generalize m*2^(112-m.log2)=W at *
    lia
   refine BD (Ev.df (r:=.str (AM (tn (Rm (Lu (m*2^(112-m.log2)-2^112) 28))))) (Nw.cons ((A1 (AH rfl) AI).to (congrArg V.int ef)) Nw.nil) fun Q q=>⟨_,rfl,q⟩) ?_;obtain⟨fr,LY,frl⟩: ∃fr,fr=Rm (Lu (m*2^(112-m.log2)-2^112) 28)/\fr.length<=28:=⟨_,rfl,ABu _ 28⟩;rw [<-LY]at q'⊢;have ml:(Eh n).length<=1:=by unfold Eh;split<;>decide
   have pl:(F_ [49] (tn fr)).length<=30:=by
    unfold F_;split
    ·simp
    ·simp only [CD,BU,Cu,Dl];lia
   have gb:(e+(m.log2:Int)).natAbs <10^6:=by
    have e6:10^6=1000000:=by decide
    rw [e6];lia
   have xl:(Cq (e+(m.log2:Int)).natAbs).length<=6:=LJ gb dd;refine(Ev.df (r:=.str (AM (Eh n))) (Nw.cons (AH rfl) Nw.nil) fun Q q=>⟨p,_,rfl,hp,rfl,q⟩:Ev _ _ _ _) _ ?_;have oF:(("0x":String):Str)=AM [48,120]:=by rfl
   have e1:(("1":String):Str)=AM [49]:=by rfl
   have ep:(("p":String):Str)=AM [112]:=by rfl
   refine⟨_,_,rfl,rfl,by rw [oF,BF,BF];simp only [BU,Cu];lia,?_⟩;rw [oF,Gk];refine(Ev.df (r:=.str (AM (F_ [49] (tn fr)))) (Nw.cons AI (Nw.cons (AH rfl) Nw.nil)) fun Q q=>⟨[49],tn fr,rfl,by decide,by rw [Dl];lia,q⟩:Ev _ _ _ _) _ ?_;refine⟨_,_,rfl,rfl,by rw [BF,BF,CD];simp only [BU,Cu];lia,?_⟩;rw [Gk];refine⟨_,_,rfl,rfl,by rw [ep,BF,BF];simp only [CD,BU,Cu];lia,?_⟩;rw [ep,Gk];refine(EX (r:=.str (AM (tn ((if e+(m.log2:Int) <0 then [45]else [])++Cq (e+(m.log2:Int)).natAbs)))) (Nw.cons (AH rfl) Nw.nil) fun Q q=>⟨_,6,rfl,by decide,gb,by rw [str_int];exact q⟩:Ev _ _ _ _) _ ?_;have txl:(tn ((if e+(m.log2:Int) <0 then [45]else [])++Cq (e+(m.log2:Int)).natAbs)).length<=7:=by
    rw [Dl,CD];split<;>simp only [BU,Cu]<;>lia
   refine⟨_,_,rfl,rfl,by rw [BF,BF];simp only [CD,BU,Cu];lia,?_⟩;rw [Gk];refine⟨_,rfl,by simp only [CD,BU,Cu];lia,fun H4 l h4 s4=>q' H4 l ?_ s4⟩;have et:=ABv n fr (e+(m.log2:Int));rw [<-et];exact h4
end
open Qu (Text)
open QM (Ab BE AO Av BV)
noncomputable def LK:List Nat:=[48,49,50,51,52,53,54,55,56,57]
noncomputable def Cm:List Nat:=[43,45,46,48,49,50,51,52,53,54,55,56,57,97,98,99,100,101,102,103,104,105,106,107,108,109,110,111,112,113,114,115,116,117,118,119,120,121,122]
noncomputable def CN(n:Nat):Nat:=if Cm.contains n=true then n else 32
noncomputable def tx(t:Text):List Nat:=t.map fun u=>CN u.toNat
def ABx: ∀n,n<256-> ∀L∈Cm,(CN n=L↔n=L):=by decide+kernel
def ji: ∀n,n<256->(LK.contains (CN n)=(48<=n&&n<=57)):=by decide+kernel
def jj: ∀n,n<256->(MY.contains (CN n)=((48<=n&&n<=57)||(97<=n&&n<=102))):=by decide+kernel
def ABy: ∀n,n<256->(48<=n&&n<=57)=true->(D5 10 (CN n)).getD 0=n-48:=by decide+kernel
def ABz: ∀n,n<256->((48<=n&&n<=57)||(97<=n&&n<=102))=true->(D5 16 (CN n)).getD 0=if n<=57 then n-48 else n-87:=by decide+kernel
def JP(u:UInt8):u.toNat<256:=u.toNat_lt
def JQ(a b:UInt8):(a<=b)↔(a.toNat<=b.toNat):=Iff.rfl
def JR(b:Nat)(dl:List Nat):Prop:=(b=10/\dl=LK)\/(b=16/\dl=MY)
def Yl(u:UInt8):Qu.isDigit u=(decide (48<=u.toNat)&&decide (u.toNat<=57)):=by
 unfold Qu.isDigit;have e1:decide ((48:UInt8)<=u)=decide (48<=u.toNat):=Cd.mpr (JQ 48 u);have e2:decide (u<=(57:UInt8))=decide (u.toNat<=57):=Cd.mpr (JQ u 57);rw [e1,e2]
def UL{b:Nat}{dl:List Nat}(h:JR b dl)(u:UInt8):dl.contains (CN u.toNat)=QM.C4 b u:=by
 unfold QM.C4 Lv;rw [Yl];rcases h with⟨rfl,rfl⟩|⟨rfl,rfl⟩
 ·rw [ji _ (JP u)];by_cases c:(decide (48<=u.toNat)&&decide (u.toNat<=57))=true
  ·rw [AG c,c];rfl
  ·rw [AD c,AD (by simp)];simpa using c
 ·rw [jj _ (JP u)];by_cases c:(decide (48<=u.toNat)&&decide (u.toNat<=57))=true
  ·rw [AG c,c];rfl
  ·rw [AD c];have c':(decide (48<=u.toNat)&&decide (u.toNat<=57))=false:=by simpa using c
   rw [c',Im];by_cases d:(97:UInt8)<=u/\u<=(102:UInt8)
   ·rw [AG ⟨rfl,d⟩];have d1:97<=u.toNat:=(JQ 97 u).mp d.1;have d2:u.toNat<=102:=(JQ u 102).mp d.2;simp [d1,d2]
   ·rw [AD (fun z=>d z.2)];have : ¬(97<=u.toNat/\u.toNat<=102):=fun z=>d ⟨(JQ 97 u).mpr z.1,(JQ u 102).mpr z.2⟩
    simp;lia
def AB0{b:Nat}{dl:List Nat}(h:JR b dl){u:UInt8}(hu:QM.C4 b u=true):(Lv b u).getD 0=(D5 b (CN u.toNat)).getD 0:=by
 have GN:=(UL h u).trans hu;unfold Lv;rw [Yl];rcases h with⟨rfl,rfl⟩|⟨rfl,rfl⟩
 ·rw [ji _ (JP u)]at GN;rw [ABy _ (JP u) GN,AG GN];rfl
 ·rw [jj _ (JP u)]at GN;rw [ABz _ (JP u) GN];by_cases c:(decide (48<=u.toNat)&&decide (u.toNat<=57))=true
  ·rw [AG c];simp only [BK,Bw]at c;rw [AG c.2];rfl
  ·rw [AD c];have c':(decide (48<=u.toNat)&&decide (u.toNat<=57))=false:=by simpa using c
   rw [c',Im]at GN;simp only [BK,Bw]at GN;have d:(97:UInt8)<=u/\u<=(102:UInt8):=⟨(JQ 97 u).mpr GN.1,(JQ u 102).mpr GN.2⟩;rw [AG ⟨rfl,d⟩,AD (by lia)];rfl
def CY(t:Text):(tx t).length=t.length:=A5 ..
def UM(a b:Text):tx (a++b)=tx a++tx b:=Jm ..
def AB1{t:Text}{i:Nat}{u:UInt8}(h:t[i]? =some u):(tx t)[i]? =some (CN u.toNat):=by
 unfold tx;rw [De,h];rfl
def UN(t:Text)(i:Nat):tx (t.drop i)=(tx t).drop i:=List.map_drop ..
def UO(t:Text)(i:Nat):tx (t.take i)=(tx t).take i:=qG ..
def jk: ∀(v w:Text),(∀c∈w,c.toNat∈Cm)->(tx v=tn w↔v=w)
 | [],[],_=>by simp [tx,tn]
 | [],d::w,_=>by simp [tx,tn]
 |c::v,[],_=>by simp [tx,tn]
 |c::v,d::w,h=>by
  have ih:=jk v w fun x hx=>h x (Dn _ hx)
  have hm:=ABx c.toNat (JP c) d.toNat (h d (Eb ..));show(CN c.toNat::tx v=d.toNat::tn w)↔_;rw [AGN,AGN,hm,ih,AGK]
def jl(n i:Nat):NG n (i:Int)=i:=by
 unfold NG;rw [AD (by lia)];lia
def jm{t w:Text}(hw: ∀c∈w,c.toNat∈Cm)(hi:i<=t.length):
 (decide (NG (AM (tx t)).length (i:Int)+(AM (tn w)).length<=(AM (tx t)).length)&&M1 (AM (tx t)) (AM (tn w)) (NG (AM (tx t)).length (i:Int)))=decide ((t.drop i).take w.length=w):=by
 rw [jl,BF,BF,CY,Dl];have e1:M1 (AM (tx t)) (AM (tn w)) i=decide ((t.drop i).take w.length=w):=by
  unfold M1;rw [BF,Dl];show((tx t).toArray.extract i (i+w.length)==(tn w).toArray)=_;rw [WA,cD,Rh,<-UN,<-UO,Hn,GP,V_,<-jk _ _ hw];constructor
  ·intro h;exact congrArg VM h
  ·intro h;rw [h]
 rw [e1];by_cases c:(t.drop i).take w.length=w
 ·have hl:i+w.length<=t.length:=by
   have :=congrArg Ik c;rw [DV,D1]at this;lia
  rw [Bi c,Bi hl];rfl
 ·rw [Bh c,ai]
def QX{s:Text}{c:UInt8}:s.take 1=[c]↔s.head? =some c:=by
 cases s with
 |nil=>simp
 |cons d r=>simp
section
variable{C:Addr}
def OH{ta:TE}{σ:L2.St}{H:Hp}{t v:Text}{i:Nat}{tl:TA}(hv: ∀c∈v,c.toNat∈Cm)(hi:i<=t.length)(ha:Ev ta σ H (.str (AM (tx t))))(hl:Nw tl σ H [.str (AM (tn v)),.int (i:Int)]):
 Ev (Wc K "str" (fun x xs H Q=> ∃a b i,x=.str a/\xs=[.str b,.int i]/\Q (.bl (NG a.length i+b.length<=a.length&&M1 a b (NG a.length i))) H) ta tl) σ H (.bl (decide ((t.drop i).take v.length=v))):=
 fun Q q=>ha _ ⟨rfl,hl _ ⟨_,_,_,rfl,rfl,by rw [jm hv hi];exact q⟩⟩
def AEZ(ha:DK t σ H false):DK (WJ t u) σ H false:=fun Q k=>ha _ (JH k)
def AB2(hj:j<=(Ab b s).length):j< (Ab b s).length↔ ∃u,s[j]? =some u/\QM.C4 b u=true:=by
 have e:Ab b s++BE b s=s:=Ow;constructor
 ·intro h;refine⟨(Ab b s)[j],?_,?_⟩
  ·conv=>lhs;rw [<-e]
   rw [VV h,FY h]
  ·have :=List.getElem_mem h;exact GS.mp (AGO (p:=QM.C4 b) (l:=s)) _ this
 ·rintro⟨u,h1,h2⟩;rcases DW j (Ab b s).length with g|g
  ·exact g
  ·exfalso;have ej:j=(Ab b s).length:=by lia
   subst ej;have e3:s[(Ab b s).length]? =(Ab b s++BE b s)[(Ab b s).length]?:=by rw [e]
   rw [e3,VU (BO _),V9]at h1;have hp:(BE b s).head? =some u:=by
    rw [List.head?_eq_getElem?];exact h1
   unfold BE at hp;have :=List.head?_dropWhile_not (QM.C4 b) s;rw [hp]at this;simp at this;rw [h2]at this;cases this
def AB3:Sp:=fun vs H Q _=> ∃(t:Text)(i b:Nat)(dl:List Nat),vs=[.str (AM (tx t)),.int (i:Int),.str (AM dl)]/\JR b dl/\i<=t.length/\t.length<=1000/\Q (.int ((i+(Ab b (t.drop i)).length:Nat):Int)) H
def Ym:Df "end_of_run" 1 ["text","start","digits"] AB3:=by
 refine(AW 104 rfl).go ["text","start","digits","end"] ?_;rintro S _ _ _ _ _ _ H _ Q _ _ ⟨t,i,b,dl,rfl,hb,hi,ht,q⟩;refine⟨_,(AJ (pS 3 S (pv 1)) (AJ (O7 Gz (PW.pt (JC (AX Fo (pv 3) (Cf MA (by rfl) FR FQ (pO 0))) (Kp (AX rM (AY Wa (pv 0) (pv 3)) (pv 2) rfl)))) (Cj (pS 3 S (AK BX (pv 3) AE)))) (pR (pv 3)))),?_⟩;have HE:sizeLine=16777216:=rfl;have sl:=QM.split_len b (t.drop i);rw [D1]at sl;refine BD (AH rfl) ?_;refine PB (fun σ H'=>H'=H/\ ∃j:Nat,j<=(Ab b (t.drop i)).length/\σ=[some (.str (AM (tx t))),some (.int (i:Int)),some (.str (AM dl)),some (.int ((i+j:Nat):Int))])
  (fun (σ:L2.St) (_:Hp)=>match σ[3]? with
    |some (some (V.int e))=>t.length-e.toNat
    |_=>0) ⟨rfl,0,DM _,rfl⟩ ?_ ?_
 ·rintro σ H' ⟨rfl,j,hj,rfl⟩;have rm:=AB2 hj;rw [bf]at rm;have EL:Ev (G3 (fun xs H Q=> ∃z,xs=[.str z]/\z.length<=sizeLine/\Q (.int z.length) H) (Ba (Aa 0) B3)) [some (.str (AM (tx t))),some (.int (i:Int)),some (.str (AM dl)),some (.int ((i+j:Nat):Int))] H' (.int (t.length:Nat)):=
   EX (Nw.cons (AH rfl) Nw.nil) fun Q q=>⟨_,rfl,by rw [BF,CY];lia,by rw [BF,CY];exact q⟩
  have T1:DK (JF (Br (Dv fun i j=>V.bl (decide (i<j))) (Aa 3) (G3 (fun xs H Q=> ∃z,xs=[.str z]/\z.length<=sizeLine/\Q (.int z.length) H) (Ba (Aa 0) B3)))) [some (.str (AM (tx t))),some (.int (i:Int)),some (.str (AM dl)),some (.int ((i+j:Nat):Int))] H' (decide (i+j<t.length)):=
   (Ac (CO (AH rfl) EL)).to (Cd.mpr (by lia))
  by_cases GN:i+j<t.length
  ·obtain⟨u,hu⟩: ∃u,t[i+j]? =some u:=⟨_,FY GN⟩;have ET:DK (JF (Br (fun x y H Q=> ∃i j,x=.str i/\y=.str j/\Q (.bl (!(oa j i 0 j.length 1).isEmpty)) H) (Br WZ (Aa 0) (Aa 3)) (Aa 2))) [some (.str (AM (tx t))),some (.int (i:Int)),some (.str (AM dl)),some (.int ((i+j:Nat):Int))] H' (QM.C4 b u):=fun Q q=>by
    refine⟨_,rfl,_,rfl,_,_,CN u.toNat,rfl,rfl,by rw [BF,CY];lia,HQ (AB1 hu),_,rfl,_,_,rfl,rfl,_,rfl,?_⟩;rw [PySem.StrLaws.found_one];have e5:decide (CN u.toNat∈(AM dl).cps.toList)=QM.C4 b u:=by
     rw [<-UL hb u,QT,List.contains_eq_mem]
    rw [e5];exact q
   refine(KL T1 ET) _ ?_;rw [Bi GN,GU];refine D6 (fun c=>?_) (fun c=>?_)
   ·have Q8:=rm.mpr ⟨u,hu,c⟩;refine((A1 (AH rfl) AI).to (v':=.int ((i+(j+1):Nat):Int)) (congrArg V.int (by lia)):Ev _ _ _ _) _ ?_;refine⟨⟨rfl,j+1,Q8,rfl⟩,?_⟩;show t.length-((i+(j+1):Nat):Int).toNat <t.length-((i+j:Nat):Int).toNat;rw [Am,Am];lia
   ·have Q8:j=(Ab b (t.drop i)).length:=by
     rcases DW j (Ab b (t.drop i)).length with g|g
     ·obtain⟨u',h1,h2⟩:=rm.mp g;rw [hu]at h1;injection h1 with h1
      rw [<-h1,c]at h2;cases h2
     ·lia
    subst Q8;exact⟨_,rfl,q⟩
  ·rw [Bh GN]at T1;refine(AEZ T1) _ (JH ?_);have Q8:j=(Ab b (t.drop i)).length:=by
    rcases DW j (Ab b (t.drop i)).length with g|g
    ·lia
    ·lia
   subst Q8;exact⟨_,rfl,q⟩
 ·rintro σ H' Q1 Q2 h ⟨v1,r1,v2,r2,z,e1,e2,i',j',e3,e4,b',e5,k⟩;refine⟨v1,r1,v2,r2,z,e1,e2,i',j',e3,e4,b',e5,?_⟩;cases b' with
  |false=>exact JH (h _ _ (by simpa using k))
  |true=>
   have k':=(AG rfl).mp k;obtain⟨a1,a2,a3,a4,a5,a6,a7,a8,a9,a10,a11,a12,a13,a14,a15,a16,a17,a18⟩:=k';exact ID ⟨a1,a2,a3,a4,a5,a6,a7,a8,a9,a10,a11,a12,a13,a14,a15,a16,a17,a18.imp fun _ hk=>⟨hk.1,h _ _ hk.2⟩⟩
noncomputable def JS(b:Nat)(s:Text):Nat:=if(AO b s).d1.length+(AO b s).d2.length=0 then 0 else(AO b s).len
def jn:Sp:=fun vs H Q _=> ∃(t:Text)(i b:Nat)(dl:List Nat),vs=[.str (AM (tx t)),.int (i:Int),.str (AM dl)]/\JR b dl/\i<=t.length/\t.length<=1000/\Q (.int ((i+JS b (t.drop i):Nat):Int)) H
def AB4: ∀c∈([46]:Text),c.toNat∈Cm:=by decide
def AB5(b:Nat)(s:Text):BE b s=s.drop (Ab b s).length:=by
 have e:Ab b s++BE b s=s:=Ow
 conv=>rhs;rw [<-e]
 have e2:Ab b (Ab b s++BE b s)=Ab b s:=by rw [e]
 rw [e2,qT]
def jo:Df "end_of_digits" 2 ["text","start","digits"] jn:=by
 refine(AW 105 rfl).go ["text","start","digits","point","end"] ?_;rintro S _ _ _ _ _ _ H _ Q _ hr ⟨t,i,b,dl,rfl,hb,hi,ht,q⟩;refine⟨_,(AJ (pS 3 S (pD hr Ym (pW 0 (pW 1 (pO 2))))) (AJ (Ag (Ru (Bz (Fp I0 M3 Ox Nf (pv 0) (AB Cy (pO 3))))) (pR (pv 3)) Ai) (AJ (pS 4 S (pD hr Ym (pW 0 (AB (AK BX (pv 3) AE) (pO 2))))) (pR (Bq (AX Ae (pv 4) (AK BX (pv 1) AE)) (pv 1) (pv 4)))))),?_⟩;have sl:=QM.split_len b (t.drop i);rw [D1]at sl;have pd:=AB5 b (t.drop i);rw [HJ]at pd;refine BD (Ev.df (r:=.int ((i+(Ab b (t.drop i)).length:Nat):Int)) (Nw.cons (AH rfl) (Nw.cons (AH rfl) (Nw.cons (AH rfl) Nw.nil))) fun Q q=>⟨t,i,b,dl,rfl,hb,hi,ht,q⟩) ?_;have hp:i+(Ab b (t.drop i)).length<=t.length:=by lia
 have Q9:decide ((t.drop (i+(Ab b (t.drop i)).length)).take ([46]:Text).length=[46])=decide ((BE b (t.drop i)).head? =some 46):=by
  rw [<-pd];exact Cd.mpr QX
 refine Bf ((lr (Ej ((OH (v:=[46]) AB4 hp (AH rfl) (Nw.cons AI (Nw.cons (AH rfl) Nw.nil))).to (congrArg V.bl Q9)))).to (b':= !decide ((BE b (t.drop i)).head? =some 46)) rfl) (fun c=>?_) (fun c=>?_)
 ·have c: ¬(BE b (t.drop i)).head? =some 46:=by simpa using c
  have ed:JS b (t.drop i)=(Ab b (t.drop i)).length:=by
   unfold JS QM.AO;rw [AD c];unfold QM.QQ.len;dsimp only;simp only [Cu,Iq];split<;>lia
  rw [ed]at q;exact⟨_,rfl,q⟩
 ·have c:(BE b (t.drop i)).head? =some 46:=by simpa using c
  have hlen:0< (BE b (t.drop i)).length:=by
   cases h:BE b (t.drop i)with
   |nil=>rw [h]at c;simp at c
   |cons d r=>simp
  have pd2:t.drop (i+(Ab b (t.drop i)).length+1)=(BE b (t.drop i)).drop 1:=by rw [pd,HJ]
  refine BD (Ev.df (r:=.int ((i+(Ab b (t.drop i)).length+1+(Ab b ((BE b (t.drop i)).drop 1)).length:Nat):Int)) (Nw.cons (AH rfl) (Nw.cons ((A1 (AH rfl) AI).to (v':=.int ((i+(Ab b (t.drop i)).length+1:Nat):Int)) (congrArg V.int (by lia))) (Nw.cons (AH rfl) Nw.nil))) fun Q q=>⟨t,_,b,dl,rfl,hb,by lia,ht,by rw [pd2];exact q⟩) ?_;have ed:JS b (t.drop i)=if(Ab b (t.drop i)).length+(Ab b ((BE b (t.drop i)).drop 1)).length=0 then 0 else(Ab b (t.drop i)).length+1+(Ab b ((BE b (t.drop i)).drop 1)).length:=by
   unfold JS QM.AO;rw [AG c];rfl
  rw [ed]at q;refine EU (B5 (Ac (An (AH rfl) (A1 (AH rfl) AI))) (fun e=>?_) (fun e=>?_)) q
  ·have e:=Au e;rw [AG (by lia)];exact AH rfl
  ·have e:=BA e;rw [AD (by lia)];exact(AH rfl).to (congrArg V.int (by lia))
def AB6:Sp:=fun vs H Q _=> ∃(t:Text)(i:Nat),vs=[.str (AM (tx t)),.int (i:Int)]/\i<=t.length/\Q (.int ((i+BV (t.drop i):Nat):Int)) H
def AB7: ∀c∈([43]:Text),c.toNat∈Cm:=by decide
def jq: ∀c∈([45]:Text),c.toNat∈Cm:=by decide
def jr(s:Text):BV s=if s.head? =some 43\/s.head? =some 45 then 1 else 0:=by
 unfold QM.BV;cases s with
 |nil=>simp [BW]
 |cons c r=>
  unfold BW;dsimp only;by_cases h1:c=45
  ·rw [AG h1];simp [h1]
  ·rw [AD h1];by_cases h2:c=43
   ·rw [AG h2];simp [h2]
   ·rw [AD h2];simp [h1,h2]
def js:Df "end_of_sign" 1 ["text","start"] AB6:=by
 refine(AW 106 rfl).go ["text","start"] ?_;rintro _ _ _ _ _ _ _ H _ Q _ _ ⟨t,i,rfl,hi,q⟩;refine⟨_,(pR (Bq (PW.pt (Fb (Bz (Fp I0 M3 Ox Nf (pv 0) (AB Cy (pO 1)))) (Fn (Bz (Fp I0 M3 Ox Nf (pv 0) (AB Cy (pO 1))))))) (AK BX (pv 1) AE) (pv 1))),?_⟩;rw [jr]at q;refine EU (B5 ((GD (Ej (OH (v:=[43]) AB7 hi (AH rfl) (Nw.cons AI (Nw.cons (AH rfl) Nw.nil)))) (Ej (OH (v:=[45]) jq hi (AH rfl) (Nw.cons AI (Nw.cons (AH rfl) Nw.nil))))).to (b':=decide ((t.drop i).head? =some 43\/(t.drop i).head? =some 45)) ?_) (fun e=>?_) (fun e=>?_)) q
 ·rw [<-qK];exact Cd.mpr (or_congr QX QX)
 ·rw [AG (Au e)];exact(A1 (AH rfl) AI).to (congrArg V.int (by lia))
 ·rw [AD (BA e)];exact AH rfl
def AB8:Sp:=fun vs H Q _=> ∃(t:Text)(i:Nat)(mark:UInt8),vs=[.str (AM (tx t)),.int (i:Int),.str (AM [mark.toNat])]/\mark.toNat∈Cm/\i<=t.length/\t.length<=1000/\Q (.int ((i+(Av mark (t.drop i)).1:Nat):Int)) H
def jt:Pf mg "DECIMAL" (AM LK):=XA (by kernel_rfl)
def ju:Df "end_of_exponent" 2 ["text","start","mark"] AB8:=by
 refine(AW 107 rfl).go ["text","start","mark","first","end"] ?_;rintro S _ _ _ _ _ _ H _ Q _ hr ⟨t,i,mark,rfl,hm,hi,ht,q⟩;refine⟨_,(AJ (Ag (Ru (Bz (Fp I0 M3 Ox Nf (pv 0) (pW 2 (pO 1))))) (pR (pv 1)) Ai) (AJ (pS 3 S (pD hr js (pW 0 (AB (AK BX (pv 1) AE) AL)))) (AJ (pS 4 S (pD hr Ym (pW 0 (pW 3 (AB (Pg rfl jt) AL))))) (pR (Bq (AX Ef (pv 4) (pv 3)) (pv 4) (pv 1)))))),?_⟩;have hml: ∀c∈([mark]:Text),c.toNat∈Cm:=fun c hc=>by rw [AGP.mp hc];exact hm
 refine Bf ((lr (Ej (OH (v:=[mark]) hml hi (AH rfl) (Nw.cons (AH rfl) (Nw.cons (AH rfl) Nw.nil))))).to (b':= !decide ((t.drop i).head? =some mark)) (congrArg (!·) (Cd.mpr QX))) (fun c=>?_) (fun c=>?_)
 ·have c: ¬(t.drop i).head? =some mark:=by simpa using c
  have e0:(Av mark (t.drop i)).1=0:=by
   cases h:t.drop i with
   |nil=>rfl
   |cons d r=>
    unfold QM.Av;dsimp only;rw [AD (fun z=>c (by rw [h,z.1];rfl))]
  rw [e0,Iq]at q;exact⟨_,rfl,q⟩
 ·have c:(t.drop i).head? =some mark:=by simpa using c
  obtain⟨r,Dc⟩: ∃r,t.drop i=mark::r:=by
   cases h:t.drop i with
   |nil=>rw [h]at c;simp at c
   |cons d r=>rw [h]at c;simp at c;exact⟨r,by rw [c]⟩
  have Jc:i<t.length:=by
   have :=congrArg Ik Dc;rw [D1,BU]at this;lia
  have er:t.drop (i+1)=r:=by
   rw [<-HJ,Dc];rfl
  have rl:r.length=t.length-(i+1):=by rw [<-er,D1]
  obtain⟨s1,s2,s3⟩:=QM.KG r;refine BD (Ev.df (r:=.int ((i+1+BV r:Nat):Int)) (Nw.cons (AH rfl) (Nw.cons ((A1 (AH rfl) AI).to (v':=.int ((i+1:Nat):Int)) (congrArg V.int (by lia))) Nw.nil)) fun Q q=>⟨t,i+1,rfl,by lia,by rw [er];exact q⟩) ?_;have er2:t.drop (i+1+BV r)=(BW r).2:=by rw [<-HJ,er,<-s2]
  refine BD (Ev.df (r:=.int ((i+1+BV r+(Ab 10 (BW r).2).length:Nat):Int)) (Nw.cons (AH rfl) (Nw.cons (AH rfl) (Nw.cons AI Nw.nil))) fun Q q=>⟨t,i+1+BV r,10,LK,rfl,.inl ⟨rfl,rfl⟩,by lia,ht,by rw [er2];exact q⟩) ?_;rw [Dc]at q;have ee:(Av mark (mark::r)).1=if Ab 10 (BW r).2=[]then 0 else 1+BV r+(Ab 10 (BW r).2).length:=by
   unfold QM.Av;dsimp only;by_cases z:Ab 10 (BW r).2=[]
   ·rw [AD (fun w=>w.2 z),AG z]
   ·rw [AG ⟨rfl,z⟩,AD z]
  rw [ee]at q;have oG:Ab 10 (BW r).2=[]↔(Ab 10 (BW r).2).length=0:=V5.symm;refine EU (B5 (Ac (CO (AH rfl) (AH rfl))) (fun e=>?_) (fun e=>?_)) q
  ·have e:=Au e;rw [AD (fun z=>by have :=oG.mp z;lia)];exact(AH rfl).to (congrArg V.int (by lia))
  ·have e:=BA e;rw [AG (oG.mpr (by lia))];exact AH rfl
end
end Q3
namespace QM
open Qu
noncomputable def Cs(x:Int):Int:=max (-20000) (min 20000 x)
noncomputable def IU(m:Mode)(neg:Bool)(v:Nat)(p:Int):Nat×Nat:=round QUAD m neg (ratio (tens v 1 p).1 (tens v 1 p).2 0)
noncomputable def LM(m:Mode)(neg:Bool)(v:Nat)(p:Int):Nat×Nat:=round QUAD m neg (ratio (twos v p).1 (twos v p).2 0)
def jv(k:Nat):2^(3*k)<=10^k:=by
 rw [Jq];exact Ri (by decide) k
def AB9(k:Nat):10^k<=2^(4*k):=by
 rw [Jq];exact Ri (by decide) k
def qb:QUAD.bias+1=16384:=by decide
def jw:QUAD.unit-1= -16495:=by decide
def qe:2<=QUAD.ebits:=by decide
def jx(hv:0<v)(hp:6000<=p):IU m neg v p=(beyond QUAD m neg,OF+NX):=by
 obtain⟨k,rfl⟩: ∃k:Nat,p=(k:Int):=⟨p.toNat,by lia⟩;have e1:tens v 1 (k:Int)=(v*10^k,1):=by
  unfold tens;rw [Am,show(-(k:Int)).toNat=0 by lia,B7]
 unfold IU;rw [e1];have ha:0<v*10^k:=BN hv (CW k);refine jH qe ha Iy ?_;rw [qb,Ci 0 16384 (by lia),B7,Cc];dsimp only;rw [DN (BN Iy (Al _)),B1,B1];have h1:2^16384<=2^(3*k):=CG (by lia);have h2:1*10^k<=v*10^k:=B2 _ hv;rw [B1]at h2;exact A9 h1 (A9 (jv k) h2)
def jy(hv:0<v)(hl:v<2^2048)(hp:p<= -7000):IU m neg v p=(signed QUAD neg (rounded m neg (0,1)),UF+NX):=by
 obtain⟨k,rfl⟩: ∃k:Nat,p= -(k:Int):=⟨(-p).toNat,by lia⟩;have e1:tens v 1 (-(k:Int))=(v,10^k):=by
  unfold tens;rw [show(-(k:Int)).toNat=0 by lia,show(- -(k:Int)).toNat=k by lia,B7,Cc,B1]
 unfold IU;rw [e1];refine jI qe hv (CW k) ?_;rw [jw,Ci 16495 0 (by lia),B7,Cc];dsimp only;refine FW ?_;have h1:v*2^16495<2^2048*2^16495:=Lq hl (Al _);rw [<-Ap]at h1;exact Bs h1 (A9 (CG (by lia)) (jv k))
def jz(hv:0<v)(hp:16384<=p):LM m neg v p=(beyond QUAD m neg,OF+NX):=by
 obtain⟨k,rfl⟩: ∃k:Nat,p=(k:Int):=⟨p.toNat,by lia⟩;have e1:twos v (k:Int)=(v*2^k,1):=by
  unfold twos;rw [Am,show(-(k:Int)).toNat=0 by lia,B7]
 unfold LM;rw [e1];have ha:0<v*2^k:=BN hv (Al k);refine jH qe ha Iy ?_;rw [qb,Ci 0 16384 (by lia),B7,Cc];dsimp only;rw [DN (BN Iy (Al _)),B1,B1];have h1:2^16384<=2^k:=CG (by lia);have h2:1*2^k<=v*2^k:=B2 _ hv;rw [B1]at h2;exact A9 h1 h2
def j3(hv:0<v)(hl:v<2^2048)(hp:p<= -18600):LM m neg v p=(signed QUAD neg (rounded m neg (0,1)),UF+NX):=by
 obtain⟨k,rfl⟩: ∃k:Nat,p= -(k:Int):=⟨(-p).toNat,by lia⟩;have e1:twos v (-(k:Int))=(v,2^k):=by
  unfold twos;rw [show(-(k:Int)).toNat=0 by lia,show(- -(k:Int)).toNat=k by lia,B7,Cc]
 unfold LM;rw [e1];refine jI qe hv (Al k) ?_;rw [jw,Ci 16495 0 (by lia),B7,Cc];dsimp only;refine FW ?_;have h1:v*2^16495<2^2048*2^16495:=Lq hl (Al _);rw [<-Ap]at h1;exact Bs h1 (CG (by lia))
def j4(h1: -20000<=x)(h2:x<=20000):Cs x=x/\nearer x=x:=by
 unfold Cs nearer FAR;lia
def AB_{m:Mode}{neg:Bool}{v:Nat}{x:Int}{d:Nat}(hv:0<v)(hl:v<2^2048)(hd:d<=512):IU m neg v (Cs x-d)=IU m neg v (nearer x-d):=by
 rcases Gx x (-20000)with h|h
 ·rw [jy hv hl (by unfold Cs;lia),jy hv hl (by unfold nearer FAR;lia)]
 ·rcases Gx 20000 x with g|g
  ·rw [jx hv (by unfold Cs;lia),jx hv (by unfold nearer FAR;lia)]
  ·obtain⟨e1,e2⟩:=j4 h g;rw [e1,e2]
def ACA{m:Mode}{neg:Bool}{v:Nat}{x:Int}{d:Nat}(hv:0<v)(hl:v<2^2048)(hd:d<=512):LM m neg v (Cs x-4*d)=LM m neg v (nearer x-4*d):=by
 rcases Gx x (-20000)with h|h
 ·rw [j3 hv hl (by unfold Cs;lia),j3 hv hl (by unfold nearer FAR;lia)]
 ·rcases Gx 20000 x with g|g
  ·rw [jz hv (by unfold Cs;lia),jz hv (by unfold nearer FAR;lia)]
  ·obtain⟨e1,e2⟩:=j4 h g;rw [e1,e2]
def ACB{m:Mode}{neg:Bool}{v n:Nat}(hv:0<v):round QUAD m neg (ratio (v*5^n) 1 n)=IU m neg v n:=by
 unfold IU;have e1:tens v 1 (n:Int)=(v*10^n,1):=by
  unfold tens;rw [Am,show(-(n:Int)).toNat=0 by lia,B7]
 have h:=Nm (a:=v*5^n) (b:=1) (s:=0) n (BN hv (Iw (by decide))) Iy;rw [bw,A6,<-UB]at h;rw [e1,<-h]
def ACC{m:Mode}{neg:Bool}{v k:Nat}(hv:0<v):round QUAD m neg (ratio v (5^k) (-(k:Int)))=IU m neg v (-(k:Int)):=by
 unfold IU;have e1:tens v 1 (-(k:Int))=(v,10^k):=by
  unfold tens;rw [show(-(k:Int)).toNat=0 by lia,show(- -(k:Int)).toNat=k by lia,B7,Cc,B1]
 have p5:0<5^k:=Iw (by decide);have h:=Nm (a:=v) (b:=5^k*2^k) (s:= -(k:Int)) k hv (BN p5 (Al k));rw [T3 hv p5 (Al k),show -(k:Int)+(k:Int)=0 by lia,<-UB]at h;rw [e1,h]
def ACD(hv:0<v):round QUAD m neg (ratio v 1 p)=LM m neg v p:=by
 unfold LM twos;dsimp only;rcases Gx p 0 with h|h
 ·obtain⟨k,rfl⟩: ∃k:Nat,p= -(k:Int):=⟨(-p).toNat,by lia⟩;rw [show(-(k:Int)).toNat=0 by lia,show(- -(k:Int)).toNat=k by lia,B7,Cc];have h:=Nm (a:=v) (b:=1*2^k) (s:= -(k:Int)) k hv (BN Iy (Al k));rw [T3 hv Iy (Al k),show -(k:Int)+(k:Int)=0 by lia,B1]at h;rw [h]
 ·obtain⟨k,rfl⟩: ∃k:Nat,p=(k:Int):=⟨p.toNat,by lia⟩;rw [Am,show(-(k:Int)).toNat=0 by lia,B7];have h:=Nm (a:=v) (b:=1) (s:=0) k hv Iy;rw [bw]at h;rw [h]
end QM
namespace Q3
open PySem PySem.Spec PyProof.Rows L2
open Qu (Fmt Num restOf ratioAt rounded QUAD Acc Text)
open QM (Bo BI QN Ab BE AO Av BV Cs)
def UP(h:u∈Ab b s):QM.C4 b u=true:=GS.mp (AGO (p:=QM.C4 b) (l:=s)) _ h
def j5{b:Nat}{dl:List Nat}(hb:JR b dl): ∀(D:Text)(n:Nat),(∀u∈D,QM.C4 b u=true)->(tx D).foldl (fun n c=>n*b+(D5 b c).getD 0) n=QM.val b n D
 | [],n,_=>rfl
 |u::D,n,h=>by
  have hu:=h u (Eb ..);have e:n*b+(D5 b (CN u.toNat)).getD 0=b*n+(Lv b u).getD 0:=by rw [AB0 hb hu,Ar]
  show(tx D).foldl _ (n*b+(D5 b (CN u.toNat)).getD 0)=QM.val b (b*n+(Lv b u).getD 0) D;rw [e,j5 hb D _ fun x hx=>h x (Dn _ hx)]
def Yn{b:Nat}{dl:List Nat}(hb:JR b dl){D:Text}(h: ∀u∈D,QM.C4 b u=true):valN b (tx D)=QM.val b 0 D:=j5 hb D 0 h
def UQ(h: ∀u∈D,QM.C4 10 u=true): ∀c∈tx D,48<=c/\c<=57:=fun c hc=>by
 obtain⟨u,hu,rfl⟩:=au.mp hc;have :=(UL (.inl ⟨rfl,rfl⟩) u).trans (h u hu);have key: ∀n,n<256->LK.contains (CN n)=true->48<=CN n/\CN n<=57:=by decide+kernel
 exact key _ (JP u) this
def Yo(h: ∀u∈D,QM.C4 16 u=true): ∀c∈tx D,Gf c:=fun c hc=>by
 obtain⟨u,hu,rfl⟩:=au.mp hc;have :=(UL (.inr ⟨rfl,rfl⟩) u).trans (h u hu);have key: ∀n,n<256->MY.contains (CN n)=true->(48<=CN n/\CN n<=57)\/(97<=CN n/\CN n<=102):=by decide+kernel
 exact key _ (JP u) this
def ACE{b:Nat}{dl:List Nat}(hb:JR b dl){D:Text}(h: ∀u∈D,QM.C4 b u=true):46∉tx D:=fun hc=>by
 rcases hb with⟨rfl,rfl⟩|⟨rfl,rfl⟩
 ·have :=UQ h 46 hc;lia
 ·have :=Yo h 46 hc;unfold Gf at this;lia
def UR:(i+(AM [c]).length<=(AM l).length/\M1 (AM l) (AM [c]) i=true)↔l[i]? =some c:=by
 rw [BF,BF];unfold M1;rw [BF];show(i+1<=l.length/\(l.toArray.extract i (i+1)==[c].toArray)=true)↔_;rw [WA,cD,Rh,GP];have e:((l.drop i).take 1).toArray=[c].toArray↔(l.drop i).take 1=[c]:=⟨fun h=>congrArg VM h,fun h=>by rw [h]⟩;rw [e];constructor
 ·rintro⟨h1,h2⟩;rw [qJ (by lia)]at h2;rw [FY (by lia)];rw [Jn,Ls]at h2;injection h2 with h2
  rw [h2]
 ·intro h;have hi:=(Fi.mp h).1;refine⟨hi,?_⟩;rw [qJ hi];have :=(Fi.mp h).2;simp [this]
def ACF(h:c∉A):Kb (AM A) (AM [c])=(AM A,AM [],AM []):=by
 unfold Kb;rcases AGQ (AM A) (AM [c]) 1 (BO _)with⟨e,_⟩|⟨i,r,e,ha,_⟩
 ·rw [e];rfl
 ·exact absurd (FV (UR.mp ha)) h
def ACG(h:c∉A):Kb (AM (A++c::B)) (AM [c])=(AM A,AM [c],AM B):=by
 unfold Kb;have Oa:(A++c::B)[A.length]? =some c:=by rw [VU (BO _),V9];rfl
 rcases AGQ (AM (A++c::B)) (AM [c]) 1 (BO _)with⟨e,hn⟩|⟨i,r,e,ha,hb⟩
 ·exact absurd (UR.mpr Oa) (hn A.length)
 ·have hi:=UR.mp ha;have ei:i=A.length:=by
   rcases HG i A.length with g|g|g
   ·rw [VV g]at hi;exact absurd (FV hi) h
   ·exact g
   ·exact absurd (UR.mpr Oa) (hb A.length g)
  rw [e,ei];dsimp only;have e1:AGR (AM (A++c::B)) 0 A.length=AM A:=by
   show(⟨(A++c::B).toArray.extract 0 A.length⟩:Str)=_;rw [WA,cD,Rl,Vk,cB];rfl
  have e2:AGR (AM (A++c::B)) (A.length+(AM [c]).length) (AM (A++c::B)).length=AM B:=by
   rw [BF,BF];show(⟨(A++c::B).toArray.extract (A.length+1) (A++c::B).length⟩:Str)=_;rw [WA,cD,<-HJ,qT];show(⟨(B.take ((A++c::B).length-(A.length+1))).toArray⟩:Str)=_;rw [Il (by simp;lia)];rfl
  rw [e1,e2]
def Yp(l:List Nat)(h1:i<=j)(h2:j<=l.length):HR (AM l) (some (i:Int)) (some (j:Int))=AM ((l.drop i).take (j-i)):=by
 unfold HR;rw [HT.NW,HT.NW,QT,BF,Ou h2,Ou (by lia)];rfl
section
variable{C:Addr}
def ACH:Sp:=fun vs H Q _=> ∃(r:Text)(mark:UInt8),vs=[.str (AM (tx (r.take (Av mark r).1)))]/\r.length<=600/\Q (.int (Cs (Av mark r).2)) H
def j6(r:Text):tx (r.take (BV r))=(if r.head? =some 43 then [43]else if r.head? =some 45 then [45]else [])/\(BW r).1=decide (r.head? =some 45):=by
 rw [jr];cases r with
 |nil=>simp [tx,BW]
 |cons c r=>
  unfold BW;dsimp only;have m43:CN 43=43:=by decide
  have m45:CN 45=45:=by decide
  by_cases h1:c=45
  ·subst h1;simp [tx,m45]
  ·by_cases h2:c=43
   ·subst h2;simp [tx,m43]
   ·simp [h1,h2,tx]
def Yq:mg "int"=none:=rat 21 rfl
def j7:B_ mg "FARTHEST" 20000:=CV 34 rfl
def j8:Df "exponent_of" 1 ["text"] ACH:=by
 refine(AW 108 rfl).go ["text"] ?_;rintro _ _ _ _ _ _ _ H _ Q _ _ ⟨r,mark,rfl,hl,q⟩;refine⟨_,(pR (Bq (AX Ae (pv 0) Cy) AE (Cf (R0 rfl) (by rfl) S3 Sw (AB (Eu FG (pG j7)) (AB (Cf (WS rfl) (by rfl) Xi Xg (AB (pG j7) (AB (L_ d5 (by rfl) Yq Yc (AB (Jw MC (pv 0) (F5 AE) WW) AL)) AL))) AL))))),?_⟩;have HE:sizeLine=16777216:=rfl;have hle:=QM.T5 mark r;have e0: ∀l:List Nat,((V.str (AM l))=V.str "")↔l=[]:=fun l=>by
  constructor
  ·intro h;injection h with h;exact N5.mp (h.trans (by rfl:("":Str)=AM []))
  ·intro h;subst h;rfl
 refine EU (v:=.int (Cs (Av mark r).2)) (B5 ((Ac (Qc (AH rfl) AI)).to (b':=decide (tx (r.take (Av mark r).1)=[])) (Cd.mpr (e0 _))) (fun c=>?_) (fun c=>?_)) q
 ·have c:=Au c;have z:(Av mark r).1=0:=by
   have :=congrArg Ik c;rw [CY,DV]at this;simp only [Cu]at this;lia
  rw [QM.i_ mark r z];exact AI
 ·have c:=BA c;have z:(Av mark r).1≠0:=fun w=>c (by rw [w,Ls];rfl)
  cases r with
  |nil=>exact absurd rfl z
  |cons m r'=>
   obtain⟨s1,s2,s3⟩:=QM.KG r';have hd:m=mark/\Ab 10 (BW r').2≠[]:=by
    rcases Classical.em (m=mark/\Ab 10 (BW r').2≠[])with g|g
    ·exact g
    ·exfalso;apply z;unfold QM.Av;dsimp only;rw [AD g]
   have ee:Av mark (m::r')=(1+BV r'+(Ab 10 (BW r').2).length,if(BW r').1=true then -(QM.val 10 0 (Ab 10 (BW r').2):Int)else(QM.val 10 0 (Ab 10 (BW r').2):Int)):=by
    unfold QM.Av;dsimp only;rw [AG hd]
   rw [ee];dsimp only;have et:tx ((m::r').take (1+BV r'+(Ab 10 (BW r').2).length))=CN m.toNat::(tx (r'.take (BV r'))++tx (Ab 10 (BW r').2)):=by
    rw [show 1+BV r'+(Ab 10 (BW r').2).length=(BV r'+(Ab 10 (BW r').2).length)+1 by lia,Jn];show CN m.toNat::tx (r'.take (BV r'+(Ab 10 (BW r').2).length))=_;rw [List.take_add,UM,<-s2];congr 3;have e3:Ab 10 (BW r').2++BE 10 (BW r').2=(BW r').2:=Ow
    conv=>lhs;rw [<-e3]
    have e4:Ab 10 (Ab 10 (BW r').2++BE 10 (BW r').2)=Ab 10 (BW r').2:=by rw [e3]
    rw [e4,cB]
   rw [et];obtain⟨oH,aE⟩:=j6 r';have oI: ∀u∈Ab 10 (BW r').2,QM.C4 10 u=true:=fun u hu=>UP hu
   have hsg:tx (r'.take (BV r'))=[]\/tx (r'.take (BV r'))=[43]\/tx (r'.take (BV r'))=[45]:=by
    rw [oH];split
    ·exact .inr (.inl rfl)
    ·split
     ·exact .inr (.inr rfl)
     ·exact .inl rfl
   have aF:(tx (r'.take (BV r'))=[45])↔(BW r').1=true:=by
    rw [oH,aE,V_];by_cases g1:r'.head? =some 43
    ·rw [AG g1,g1];simp
    ·rw [AD g1];by_cases g2:r'.head? =some 45
     ·rw [AG g2];simp [g2]
     ·rw [AD g2];simp [g2]
   have AGe:(Ab 10 (BW r').2).length<=r'.length:=by
    have :=QM.split_len 10 (BW r').2;lia
   simp only [BU]at hl;have dn:tx (Ab 10 (BW r').2)≠[]:=fun w=>hd.2 (qS.mp w)
   have iv:=eg (s:=tx (r'.take (BV r'))) (l:=tx (Ab 10 (BW r').2)) hsg dn (UQ oI) (by rw [CY];lia);rw [Yn (.inl ⟨rfl,rfl⟩) oI]at iv;have ef:(if tx (r'.take (BV r'))=[45]then -(QM.val 10 0 (Ab 10 (BW r').2):Int)else(QM.val 10 0 (Ab 10 (BW r').2):Int))=(if(BW r').1=true then -(QM.val 10 0 (Ab 10 (BW r').2):Int)else(QM.val 10 0 (Ab 10 (BW r').2):Int)):=by
    by_cases g:(BW r').1=true
    ·rw [AG (aF.mpr g),AG g]
    ·rw [AD (fun w=>g (aF.mp w)),AD g]
   rw [ef]at iv;generalize (if(BW r').1=true then -(QM.val 10 0 (Ab 10 (BW r').2):Int)else(QM.val 10 0 (Ab 10 (BW r').2):Int))=X at *
   have U0:(tx (r'.take (BV r'))++tx (Ab 10 (BW r').2)).length<=601:=by
    rw [CD,CY,CY,DV];lia
   refine EX (Nw.cons (Ev.un AI) (Nw.cons (EX (r:=.int (min 20000 X)) (Nw.cons AI (Nw.cons (EX (r:=.int X) (Nw.cons (fun Q q=>?_) Nw.nil) fun Q q=>⟨AM (tx (r'.take (BV r'))++tx (Ab 10 (BW r').2)),X,rfl,iv,by rw [BF];lia,q⟩) Nw.nil)) fun Q q=>⟨20000,X,rfl,by
    have :(if X<20000 then X else 20000)=min 20000 X:=by split<;>lia
    rw [this];exact q⟩) Nw.nil)) fun Q q=>⟨-20000,min 20000 X,rfl,by
    have :(if min 20000 X> -20000 then min 20000 X else -20000)=Cs X:=by unfold QM.Cs;split<;>lia
    rw [this];exact q⟩
   refine⟨_,rfl,_,rfl,_,rfl,by rw [BF];simp only [BU];lia,?_⟩;have :=jf (CN m.toNat::(tx (r'.take (BV r'))++tx (Ab 10 (BW r').2))) 1;rw [show((1:Nat):Int)=1 from rfl]at this;rw [this];exact q
noncomputable def Gm(s:Bool)(v:Nat)(n:Int):Num:=if 0<=n then .fin s (v*5^n.toNat) n else .fin s (QM.EO (v*2^DA (5^(-n).toNat)) (5^(-n).toNat)) (n-DA (5^(-n).toNat)-1)
def ACI(C:Addr):Sp:=fun vs H Q _=> ∃(s n:Int)(v:Nat),vs=[.int s,.int (v:Int),.int n]/\(s=0\/s=1)/\v<2^2048/\(-21000<=n/\n<=21000)/\ ∀H' a,BY C H' a (Gm (decide (s=1)) v n)->AQ H H'->Q (.ref a) H'
def ACJ:Df "decimal_value" 5 ["sign","size","n"] (ACI CP):=by
 refine(AW 109 rfl).go ["sign","size","n"] ?_;rintro _ _ _ _ _ _ _ H _ Q _ hr ⟨s,n,v,rfl,hs,hv,hn,q⟩;refine⟨_,(AJ (Ag (AX L8 (pv 2) AE) (pR (pD hr Fe (pW 0 (AB (AK FJ (pv 1) (pD hr Ye (pO 2))) (pO 2))))) Ai) (pR (pD hr gZ (pW 0 (pW 1 (AB (pD hr Ye (AB (Eu FG (pv 2)) AL)) (pO 2))))))),?_⟩;unfold Gm at q;have bv:Aq (v:Int)<=2048:=Cg hv;refine Bf (Ac (CO (AH rfl) AI)) (fun c=>?_) (fun c=>?_)
 ·have c:=Au c;rw [AG c]at q;have b5:=IT n.toNat;have c5:Aq ((5^n.toNat:Nat):Int)<=70000:=by rw [Dj];lia
  have en:n=((n.toNat:Nat):Int):=by lia
  refine⟨_,rfl,?_⟩;refine((BS (AH rfl) (Ev.df (r:=.int ((5^n.toNat:Nat):Int)) (Nw.cons (AH rfl) Nw.nil) fun Q q=>⟨n.toNat,by rw [<-en],by lia,q⟩) (⟨by lia,by lia⟩:HW _ _)).to (v':=.int ((v*5^n.toNat:Nat):Int)) (congrArg V.int (Fl _ _).symm):Ev _ _ _ _) _ ?_;refine⟨_,rfl,_,_,_,rfl,hs,CI _,fun H' a ha s1=>q H' a ?_ s1⟩;rw [Am]at ha;exact ha
 ·have c:=BA c;rw [AD c]at q;have b5:=IT (-n).toNat;have en: -n=(((-n).toNat:Nat):Int):=by lia
  refine⟨_,rfl,_,rfl,?_⟩;refine(Ev.df (r:=.int ((5^(-n).toNat:Nat):Int)) (Nw.cons (Ev.un (AH rfl)) Nw.nil) fun Q q=>⟨(-n).toNat,by rw [<-en],by lia,q⟩:Ev _ _ _ _) _ ?_;exact⟨_,rfl,s,n,v,5^(-n).toNat,2048,rfl,hs,⟨by decide,hv⟩,Iw dd,by lia,q⟩
def ACK(hv:v<2^2048)(hn: -21000<=n/\n<=21000):Hc (Gm s v n):=by
 unfold Gm;have bv:QM.A7 v<=2048:=QM.Fd hv;split
 ·next c=>
  have b5:=IT n.toNat;intro hm;have :=MX bv b5;exact⟨by lia,by rw [Dj];lia,by lia,by lia⟩
 ·next c=>
  have b5:=IT (-n).toNat;have p5:0<5^(-n).toNat:=Iw dd;have sl:=(Xm (t:=v) (b:=5^(-n).toNat) (T:=2048) dd p5 hv).2;have wb:DA (5^(-n).toNat)<=63200:=by unfold DA;lia
  intro hm;exact⟨by lia,by lia,by lia,by lia⟩
def ACL:Ds QUAD m (Gm s v n)=if v=0 then(Cv QUAD s 0,0)else QM.IU m s v n:=by
 unfold Gm;by_cases hv:v=0
 ·subst hv;rw [AG rfl];split
  ·rw [Jk];rfl
  ·rw [wt (Iw dd)];rfl
 ·rw [AD hv];split
  ·next c=>
   obtain⟨k,rfl⟩: ∃k:Nat,n=(k:Int):=⟨n.toNat,by lia⟩;rw [Am,IP (Ol (BN (by lia) (Iw dd))),QM.ACB (by lia)]
  ·next c=>
   obtain⟨k,rfl⟩: ∃k:Nat,n= -(k:Int):=⟨(-n).toNat,by lia⟩;rw [show(- -(k:Int)).toNat=k by lia];have p5:0<5^k:=Iw dd;rw [IP (Ol (gX (by lia) p5)),gY (by lia) p5,QM.ACC (by lia)]
end
noncomputable def JT(p:QM.QQ):Text:=if p.pt=1 then 46::p.d2 else []
def US(b:Nat)(s:Text):s=(AO b s).d1++(JT (AO b s)++(AO b s).r2)/\(AO b s).len=((AO b s).d1++JT (AO b s)).length/\(∀u∈(AO b s).d1,QM.C4 b u=true)/\(∀u∈(AO b s).d2,QM.C4 b u=true)/\((AO b s).pt=1\/((AO b s).pt=0/\(AO b s).d2=[])):=by
 have e:Ab b s++BE b s=s:=Ow;unfold QM.AO;by_cases c:(BE b s).head? =some 46
 ·rw [AG c];have e2:Ab b ((BE b s).drop 1)++BE b ((BE b s).drop 1)=(BE b s).drop 1:=Ow;refine⟨?_,?_,fun u hu=>UP hu,fun u hu=>UP hu,.inl rfl⟩
  ·unfold JT;dsimp only;rw [AG rfl];cases h:BE b s with
   |nil=>rw [h]at c;simp at c
   |cons d r=>
    rw [h]at c e2;simp at c;subst c;simp only [AF4,Rl]at e2⊢;rw [ay,e2,<-h,e]
  ·unfold QM.QQ.len JT;dsimp only;rw [AG rfl,CD,BU];lia
 ·rw [AD c];refine⟨?_,?_,fun u hu=>UP hu,fun u hu=>(by cases hu),.inr ⟨rfl,rfl⟩⟩
  ·unfold JT;dsimp only;rw [AD dd,Vi,e]
  ·unfold QM.QQ.len JT;dsimp only;rw [AD dd];simp
def j9(hb:b=10\/b=16): ∀(D:Text)(n k:Nat),(∀u∈D,QM.C4 b u=true)->n<b^k->QM.val b n D<b^(k+D.length)
 | [],n,k,_,h=>by
  show n<b^(k+0);exact h
 |u::D,n,k,h,hn=>by
  have hu:=h u (Eb ..);have hd:(Lv b u).getD 0<b:=by
   unfold QM.C4 at hu;obtain⟨d,hd⟩:=aZ.mp hu;rw [hd];unfold Lv at hd;have ul:=JP u;rw [Yl]at hd;split at hd
   ·next c=>
    injection hd with hd
    simp only [BK,Bw]at c;show d<b;rcases hb with rfl|rfl<;>lia
   ·split at hd
    ·next c=>
     injection hd with hd
     have c1:97<=u.toNat:=(JQ 97 u).mp c.2.1;have c2:u.toNat<=102:=(JQ u 102).mp c.2.2;have c3:=c.1;show d<b;lia
    ·cases hd
  have ih:=j9 hb D (b*n+(Lv b u).getD 0) (k+1) (fun x hx=>h x (Dn _ hx)) (by
   rw [CQ];have :(n+1)*b<=b^k*b:=B2 _ hn;rw [FZ,Ar n b]at this;lia)
  show QM.val b (b*n+(Lv b u).getD 0) D<_;rw [BU,show k+(D.length+1)=k+1+D.length by lia];exact ih
def Yr(b n:Nat)(A B:Text):QM.val b n (A++B)=QM.val b (QM.val b n A) B:=by
 unfold QM.val;rw [List.foldl_append]
noncomputable def Fw(b:Nat)(p:QM.QQ):Nat:=QM.val b (QM.val b 0 p.d1) p.d2
def Ys(hb:b=10\/b=16)(hl:s.length<=512):Fw b (AO b s) <2^2048:=by
 obtain⟨e,e2,h1,h2,_⟩:=US b s;unfold Fw;rw [<-Yr];have :=j9 hb ((AO b s).d1++(AO b s).d2) 0 0 (fun u hu=>by
  rcases Hm.mp hu with q|q
  ·exact h1 u q
  ·exact h2 u q) (by rw [B7];exact Iy)
 rw [Jl]at this;refine Bs this ?_;have hlen:((AO b s).d1++(AO b s).d2).length<=512:=by
  have :=QM.LG b s;unfold QM.QQ.len at this;rw [CD];lia
 rcases hb with rfl|rfl
 ·exact A9 (QM.AB9 _) (QM.CG (by lia))
 ·generalize ((AO 16 s).d1++(AO 16 s).d2).length=L at *
  have e:(16:Nat)^L=2^(4*L):=by rw [Jq]
  rw [e];exact QM.CG (by lia)
section
variable{C:Addr}
def N7(C:Addr)(H:Hp)(l:Addr)(k:Nat)(x:Num):Prop:= ∃a,H l=some (.lst [.int (k:Int),.ref a])/\BY C H a x
def j_{t:Text}{i b:Nat}{dl:List Nat}(hb:JR b dl)(hi:i<=t.length):HR (AM (tx t)) (some (i:Int)) (some ((i+(AO b (t.drop i)).len:Nat):Int))=AM (tx ((AO b (t.drop i)).d1++JT (AO b (t.drop i))))/\
 i+(AO b (t.drop i)).len<=t.length/\t.drop (i+(AO b (t.drop i)).len)=(AO b (t.drop i)).r2/\
 Kb (AM (tx ((AO b (t.drop i)).d1++JT (AO b (t.drop i))))) (AM [46])=(AM (tx (AO b (t.drop i)).d1),AM (if(AO b (t.drop i)).pt=1 then [46]else []),AM (tx (AO b (t.drop i)).d2)):=by
 obtain⟨e1,e2,h1,h2,h3⟩:=US b (t.drop i);have pl:=QM.LG b (t.drop i);rw [D1]at pl;have hl:i+(AO b (t.drop i)).len<=t.length:=by lia
 have et:(t.drop i).take (AO b (t.drop i)).len=(AO b (t.drop i)).d1++JT (AO b (t.drop i)):=by
  generalize AO b (t.drop i)=p at *
  rw [e1,e2,<-Jp,cB]
 have ed:t.drop (i+(AO b (t.drop i)).len)=(AO b (t.drop i)).r2:=by
  rw [<-HJ];generalize hp:AO b (t.drop i)=p at *
  rw [e1,e2,<-Jp,qT]
 refine⟨?_,hl,ed,?_⟩
 ·rw [Yp _ (by lia) (by rw [CY];exact hl),Rh,<-UN,<-UO,et]
 ·have nd:=ACE hb h1;rw [UM];unfold JT;rcases h3 with g|⟨g1,g2⟩
  ·rw [AG g,AG g];have m46:CN 46=46:=by decide
   have :tx (46::(AO b (t.drop i)).d2)=46::tx (AO b (t.drop i)).d2:=by
    show CN (46:UInt8).toNat::_=_;rfl
   rw [this];exact ACG nd
  ·rw [AD (by lia),AD (by lia),g2];show Kb (AM (tx (AO b (t.drop i)).d1++[])) (AM [46])=_;rw [VS];exact ACF nd
def l6(ha:Ev ta σ H (.str (AM a)))(hb:Ev tb σ H (.str (AM b)))(h:a.length+b.length<=16777216):
 Ev (Br (fun x y H Q=> ∃i j,x=.str i/\y=.str j/\i.length+j.length<=sizeLine/\Q (.str (i++j)) H) ta tb) σ H (.str (AM (a++b))):=fun Q q=>ha _ (hb _ ⟨_,_,rfl,rfl,by rw [BF,BF];exact h,by rw [Gk];exact q⟩)
def kC(C:Addr):Sp:=fun vs H Q _=> ∃(t:Text)(s:Int)(i:Nat),vs=[.str (AM (tx t)),.int s,.int (i:Int),.int ((i+(AO 10 (t.drop i)).len:Nat):Int)]/\(s=0\/s=1)/\i<=t.length/\t.length<=512/\(AO 10 (t.drop i)).d1.length+(AO 10 (t.drop i)).d2.length≠0/\
 ∀H' l,N7 C H' l (i+(AO 10 (t.drop i)).len+(Av 101 (AO 10 (t.drop i)).r2).1) (Gm (decide (s=1)) (Fw 10 (AO 10 (t.drop i))) (Cs (Av 101 (AO 10 (t.drop i)).r2).2-(AO 10 (t.drop i)).d2.length))->AQ H H'->Q (.ref l) H'
def Yt(x:Int): -20000<=Cs x/\Cs x<=20000:=by unfold QM.Cs;lia
def ACN:(101:UInt8).toNat∈Cm:=by decide
def ACO:(112:UInt8).toNat∈Cm:=by decide
def ACP:Df "read_decimal" 6 ["text","sign","start","end"] (kC CP):=by
 refine(AW 110 rfl).go ["text","sign","start","end","finish","parts","n"] ?_;rintro S _ _ _ _ _ _ H _ Q _ hr ⟨t,s,i,rfl,hs,hi,ht,hn,q⟩;refine⟨_,(AJ (pS 4 S (pD hr ju (pW 0 (pW 3 (AB Cy AL))))) (AJ (pS 5 S (Fp I0 pJ AGS d4 (Jw MC (pv 0) (F5 (pv 2)) (F5 (pv 3))) (AB Cy AL))) (AJ (pS 6 S (AK BP (pD hr j8 (AB (Jw MC (pv 0) (F5 (pv 3)) (F5 (pv 4))) AL)) (Cf MA (by rfl) FR FQ (AB (AY Dx (pv 5) AE) AL)))) (pR (Ay (pW 4 (AB (pD hr ACJ (pW 1 (AB (L_ d5 (by rfl) Yq Yc (AB (AK G0 (AY Dx (pv 5) AE) (AY Dx (pv 5) AE)) AL)) (pO 6)))) AL))))))),?_⟩;have HE:sizeLine=16777216:=rfl;have hb:JR 10 LK:=.inl ⟨rfl,rfl⟩;obtain⟨c1,c2,c3,c4⟩:=j_ hb hi;obtain⟨pe1,aG,h1,h2,h3⟩:=US 10 (t.drop i);have av:=Ys (b:=10) (.inl rfl) (s:=t.drop i) (by rw [D1];lia);have pl:=QM.LG 10 (t.drop i);rw [D1]at pl;have el:=QM.T5 101 (AO 10 (t.drop i)).r2;generalize AO 10 (t.drop i)=p at *
 have AFD:p.d1.length+p.d2.length<=512:=by unfold QM.QQ.len at pl;lia
 refine BD (Ev.df (r:=.int ((i+p.len+(Av 101 p.r2).1:Nat):Int)) (Nw.cons (AH rfl) (Nw.cons (AH rfl) (Nw.cons AI Nw.nil))) fun Q q=>⟨t,i+p.len,101,rfl,ACN,c2,by lia,by rw [c3];exact q⟩) ?_;refine⟨_,rfl,_,rfl,_,rfl,_,rfl,_,rfl,_,rfl,by rw [BF,CY];lia,rfl,_,_,rfl,rfl,rfl,?_,fun pp aH=>?_⟩
 ·rw [c1,BF,CY,<-aG];lia
 dsimp only;rw [c1];have Q9:((".":String):Str)=AM [46]:=by rfl
 rw [Q9,c4];dsimp only;have Le:AQ H (upd H pp (.tup [.str (AM (tx p.d1)),.str (AM (if p.pt=1 then [46]else [])),.str (AM (tx p.d2))])):=AQ.new aH;generalize Q_:upd H pp (.tup [.str (AM (tx p.d1)),.str (AM (if p.pt=1 then [46]else [])),.str (AM (tx p.d2))])=H1 at *
 have Lg:H1 pp=some (.tup [.str (AM (tx p.d1)),.str (AM (if p.pt=1 then [46]else [])),.str (AM (tx p.d2))]):=by rw [<-Q_];exact AZ
 have X0: ∀σ:L2.St,σ[5]? =some (some (.ref pp))->Ev (Br (Ku K) (Aa 5) (tC (.int 0))) σ H1 (.str (AM (tx p.d1))):=fun σ h=>OE (AH h) AI (JV Lg) rfl
 have X2: ∀σ:L2.St,σ[5]? =some (some (.ref pp))->Ev (Br (Ku K) (Aa 5) (tC (.int 2))) σ H1 (.str (AM (tx p.d2))):=fun σ h=>OE (AH h) AI (JV Lg) rfl
 have cx:HR (AM (tx t)) (some ((i+p.len:Nat):Int)) (some ((i+p.len+(Av 101 p.r2).1:Nat):Int))=AM (tx (p.r2.take (Av 101 p.r2).1)):=by
  rw [Yp _ (by lia) (by rw [CY];lia),Rh,<-UN,<-UO,c3]
 have fb:=Yt (Av 101 p.r2).2;refine BD (v:=.int (Cs (Av 101 p.r2).2-p.d2.length)) (A1 (Ev.df (Nw.cons (fun Q q=>?_) Nw.nil) fun Q q=>⟨p.r2,101,rfl,by lia,q⟩) (EX (r:=.int (p.d2.length:Nat)) (Nw.cons (X2 _ rfl) Nw.nil) fun Q q=>⟨_,rfl,by rw [BF,CY];lia,by rw [BF,CY];exact q⟩)) ?_
 ·refine⟨_,rfl,_,rfl,_,rfl,_,rfl,_,rfl,_,rfl,by rw [BF,CY];lia,?_⟩;rw [cx];exact q
 refine⟨_,rfl,_,rfl,?_⟩;have dn:tx p.d1++tx p.d2≠[]:=fun z=>by
  have :=congrArg Ik z;rw [CD,CY,CY]at this;simp only [Cu]at this;lia
 have iv:=eg (s:=[]) (l:=tx p.d1++tx p.d2) (.inl rfl) dn (fun c hc=>by
  rcases Hm.mp hc with g|g
  ·exact UQ h1 c g
  ·exact UQ h2 c g) (by rw [CD,CY,CY];lia)
 have ev:valN 10 (tx p.d1++tx p.d2)=Fw 10 p:=by
  rw [<-UM,Yn hb (fun u hu=>by
   rcases Hm.mp hu with g|g
   ·exact h1 u g
   ·exact h2 u g),Yr]
  rfl
 rw [AD dd,ev,Vi]at iv;refine(EX (r:=.int (Fw 10 p:Nat)) (Nw.cons (l6 (X0 _ rfl) (X2 _ rfl) (by rw [CY,CY];lia)) Nw.nil) fun Q q=>⟨AM (tx p.d1++tx p.d2),_,rfl,iv,by rw [BF,CD,CY,CY];lia,q⟩:Ev _ _ _ _) _ ?_;refine⟨_,rfl,s,_,_,rfl,hs,av,by lia,fun H2 a ha s2=>⟨dz,fun l hl=>q _ l ⟨a,AZ,ha.same (AQ.new hl)⟩ ((Le.trans s2).trans (AQ.new hl))⟩⟩
def ACQ(C:Addr):Sp:=fun vs H Q _=> ∃(t:Text)(s:Int)(i:Nat),vs=[.str (AM (tx t)),.int s,.int (i:Int),.int ((i+(AO 16 (t.drop i)).len:Nat):Int)]/\(s=0\/s=1)/\i<=t.length/\t.length<=512/\(AO 16 (t.drop i)).d1.length+(AO 16 (t.drop i)).d2.length≠0/\
 ∀H' l,N7 C H' l (i+(AO 16 (t.drop i)).len+(Av 112 (AO 16 (t.drop i)).r2).1) (.fin (decide (s=1)) (Fw 16 (AO 16 (t.drop i))) (Cs (Av 112 (AO 16 (t.drop i)).r2).2-4*((AO 16 (t.drop i)).d2.length:Nat)))->AQ H H'->Q (.ref l) H'
def ACR:Df "read_hexadecimal" 6 ["text","sign","start","end"] (ACQ CP):=by
 refine(AW 111 rfl).go ["text","sign","start","end","finish","parts","power"] ?_;rintro S _ _ _ _ _ _ H _ Q _ hr ⟨t,s,i,rfl,hs,hi,ht,hn,q⟩;refine⟨_,(AJ (pS 4 S (pD hr ju (pW 0 (pW 3 (AB Cy AL))))) (AJ (pS 5 S (Fp I0 pJ AGS d4 (Jw MC (pv 0) (F5 (pv 2)) (F5 (pv 3))) (AB Cy AL))) (AJ (pS 6 S (AK BP (pD hr j8 (AB (Jw MC (pv 0) (F5 (pv 3)) (F5 (pv 4))) AL)) (AK FJ AE (Cf MA (by rfl) FR FQ (AB (AY Dx (pv 5) AE) AL))))) (pR (Ay (pW 4 (AB (pD hr Fe (pW 1 (AB (L_ uh (by rfl) Yq Yc (AB (AK G0 (AY Dx (pv 5) AE) (AY Dx (pv 5) AE)) (AB AE AL))) (pO 6)))) AL))))))),?_⟩;have HE:sizeLine=16777216:=rfl;have hb:JR 16 MY:=.inr ⟨rfl,rfl⟩;obtain⟨c1,c2,c3,c4⟩:=j_ hb hi;obtain⟨pe1,aG,h1,h2,h3⟩:=US 16 (t.drop i);have pl:=QM.LG 16 (t.drop i);rw [D1]at pl;have el:=QM.T5 112 (AO 16 (t.drop i)).r2;generalize AO 16 (t.drop i)=p at *
 have AFD:p.d1.length+p.d2.length<=512:=by unfold QM.QQ.len at pl;lia
 refine BD (Ev.df (r:=.int ((i+p.len+(Av 112 p.r2).1:Nat):Int)) (Nw.cons (AH rfl) (Nw.cons (AH rfl) (Nw.cons AI Nw.nil))) fun Q q=>⟨t,i+p.len,112,rfl,ACO,c2,by lia,by rw [c3];exact q⟩) ?_;refine⟨_,rfl,_,rfl,_,rfl,_,rfl,_,rfl,_,rfl,by rw [BF,CY];lia,rfl,_,_,rfl,rfl,rfl,?_,fun pp aH=>?_⟩
 ·rw [c1,BF,CY,<-aG];lia
 dsimp only;rw [c1];have Q9:((".":String):Str)=AM [46]:=by rfl
 rw [Q9,c4];dsimp only;have Le:AQ H (upd H pp (.tup [.str (AM (tx p.d1)),.str (AM (if p.pt=1 then [46]else [])),.str (AM (tx p.d2))])):=AQ.new aH;generalize Q_:upd H pp (.tup [.str (AM (tx p.d1)),.str (AM (if p.pt=1 then [46]else [])),.str (AM (tx p.d2))])=H1 at *
 have Lg:H1 pp=some (.tup [.str (AM (tx p.d1)),.str (AM (if p.pt=1 then [46]else [])),.str (AM (tx p.d2))]):=by rw [<-Q_];exact AZ
 have X0: ∀σ:L2.St,σ[5]? =some (some (.ref pp))->Ev (Br (Ku K) (Aa 5) (tC (.int 0))) σ H1 (.str (AM (tx p.d1))):=fun σ h=>OE (AH h) AI (JV Lg) rfl
 have X2: ∀σ:L2.St,σ[5]? =some (some (.ref pp))->Ev (Br (Ku K) (Aa 5) (tC (.int 2))) σ H1 (.str (AM (tx p.d2))):=fun σ h=>OE (AH h) AI (JV Lg) rfl
 have cx:HR (AM (tx t)) (some ((i+p.len:Nat):Int)) (some ((i+p.len+(Av 112 p.r2).1:Nat):Int))=AM (tx (p.r2.take (Av 112 p.r2).1)):=by
  rw [Yp _ (by lia) (by rw [CY];lia),Rh,<-UN,<-UO,c3]
 have bd:Aq ((p.d2.length:Nat):Int)<=20:=Cg (by have :2^20=1048576:=dd;lia);refine BD (v:=.int (Cs (Av 112 p.r2).2-4*(p.d2.length:Nat))) (A1 (Ev.df (Nw.cons (fun Q q=>?_) Nw.nil) fun Q q=>⟨p.r2,112,rfl,by lia,q⟩) (BS AI (EX (r:=.int (p.d2.length:Nat)) (Nw.cons (X2 _ rfl) Nw.nil) fun Q q=>⟨_,rfl,by rw [BF,CY];lia,by rw [BF,CY];exact q⟩) (⟨by decide,by lia⟩:HW 4 _))) ?_
 ·refine⟨_,rfl,_,rfl,_,rfl,_,rfl,_,rfl,_,rfl,by rw [BF,CY];lia,?_⟩;rw [cx];exact q
 refine⟨_,rfl,_,rfl,?_⟩;have dn:tx p.d1++tx p.d2≠[]:=fun z=>by
  have :=congrArg Ik z;rw [CD,CY,CY]at this;simp only [Cu]at this;lia
 have hx: ∀c∈tx p.d1++tx p.d2,Gf c:=fun c hc=>by
  rcases Hm.mp hc with g|g
  ·exact Yo h1 c g
  ·exact Yo h2 c g
 have ev:valN 16 (tx p.d1++tx p.d2)=Fw 16 p:=by
  rw [<-UM,Yn hb (fun u hu=>by
   rcases Hm.mp hu with g|g
   ·exact h1 u g
   ·exact h2 u g),Yr]
  rfl
 refine(EX (r:=.int (Fw 16 p:Nat)) (Nw.cons (l6 (X0 _ rfl) (X2 _ rfl) (by rw [CY,CY];lia)) (Nw.cons AI Nw.nil)) fun Q q=>⟨tx p.d1++tx p.d2,rfl,dn,hx,by rw [CD,CY,CY];lia,by rw [ev];exact q⟩:Ev _ _ _ _) _ ?_;refine⟨_,rfl,s,_,_,rfl,hs,CI _,fun H2 a ha s2=>⟨dz,fun l hl=>q _ l ⟨a,AZ,?_⟩ ((Le.trans s2).trans (AQ.new hl))⟩⟩;rw [Am]at ha;exact ha.same (AQ.new hl)
end
noncomputable def Ei(b:Nat)(s:Text):Nat:=(AO b s).d1.length+(AO b s).d2.length
noncomputable def IV(neg:Bool)(r:Text):Option (Nat×Num):=
 if r.take 8=QM.Ez then some (8,.inf neg)
 else if r.take 3=QM.Ey then some (3,.inf neg)
 else if r.take 3=QM.Eg then some (3,.nan false)
 else if r.take 2=QM.DU/\Ei 16 (r.drop 2)≠0 then some (2+(AO 16 (r.drop 2)).len+(Av 112 (AO 16 (r.drop 2)).r2).1,.fin neg (Fw 16 (AO 16 (r.drop 2))) (Cs (Av 112 (AO 16 (r.drop 2)).r2).2-4*((AO 16 (r.drop 2)).d2.length:Nat)))
 else if Ei 10 r≠0 then some ((AO 10 r).len+(Av 101 (AO 10 r).r2).1,Gm neg (Fw 10 (AO 10 r)) (Cs (Av 101 (AO 10 r).r2).2-(AO 10 r).d2.length))
 else none
noncomputable def KH(t:Text):Nat×Num:=match IV (BW t).1 (BW t).2 with
 |some y=>(BV t+y.1,y.2)
 |none=>(0,.fin false 0 0)
def UT(x:Num)(y:Qu.Said):Prop:=Hc x/\ ∀m,Ds QUAD m x=Qu.valueIn QUAD m y
def ACS{neg:Bool}{v:Nat}{x:Int}{d:Nat}(hv:v<2^2048)(hd:d<=512):UT (Gm neg v (Cs x-d)) (.value neg (Qu.tens v 1 (Kj x-d)).1 (Qu.tens v 1 (Kj x-d)).2):=by
 have fb:=Yt x;refine⟨ACK hv (by lia),fun m=>?_⟩;rw [ACL];show _=if(Qu.tens v 1 (Kj x-d)).1=0 then(Cv QUAD neg 0,0)else Es QUAD m neg (F3 _ _ 0)
 have e0:(Qu.tens v 1 (Kj x-d)).1=0↔v=0:=by
  show v*10^_=0↔_;have :=QM.CW (Kj x-d).toNat;constructor
  ·intro h;rcases Vl.mp h with g|g
   ·exact g
   ·lia
  ·intro h;rw [h,Jk]
 by_cases z:v=0
 ·rw [AG z,AG (e0.mpr z)]
 ·rw [AD z,AD (fun w=>z (e0.mp w)),QM.AB_ (by lia) hv hd];rfl
def ACT(hv:v<2^2048)(hd:d<=512):UT (.fin neg v (Cs x-4*(d:Nat))) (.value neg (Dh v (Kj x-4*(d:Nat))).1 (Dh v (Kj x-4*(d:Nat))).2):=by
 have fb:=Yt x;refine⟨fun hm=>⟨by lia,A9 (Cg hv) dd,by lia,by lia⟩,fun m=>?_⟩;show(if v=0 then FX QUAD neg else Es QUAD m neg (F3 v 1 _))=if(Dh v (Kj x-4*(d:Nat))).1=0 then(Cv QUAD neg 0,0)else Es QUAD m neg (F3 _ _ 0)
 have e0:(Dh v (Kj x-4*(d:Nat))).1=0↔v=0:=by
  show v*2^_=0↔_;have :=BR (Kj x-4*(d:Nat)).toNat;constructor
  ·intro h;rcases Vl.mp h with g|g
   ·exact g
   ·lia
  ·intro h;rw [h,Jk]
 by_cases z:v=0
 ·rw [AG z,AG (e0.mpr z)];rfl
 ·rw [AD z,AD (fun w=>z (e0.mp w)),QM.ACD (by lia),QM.ACA (by lia) hv hd];rfl
def kD(h:s.length<=n):(AO b s).d2.length<=n:=by
 have :=QM.LG b s;unfold QM.QQ.len at this;lia
def ACU{neg:Bool}{r:Text}(hl:r.length<=512):match IV neg r with
 |some y=> ∃z,QM.IS neg r=some (y.1,z)/\UT y.2 z
 |none=>QM.IS neg r=none:=by
 unfold IV QM.IS;by_cases c1:r.take 8=QM.Ez
 ·rw [AG c1,AG c1];exact⟨_,rfl,trivial,fun m=>rfl⟩
 ·rw [AD c1,AD c1];by_cases c2:r.take 3=QM.Ey
  ·rw [AG c2,AG c2];exact⟨_,rfl,trivial,fun m=>rfl⟩
  ·rw [AD c2,AD c2];by_cases c3:r.take 3=QM.Eg
   ·rw [AG c3,AG c3];exact⟨_,rfl,trivial,fun m=>rfl⟩
   ·rw [AD c3,AD c3];have dec:(if Ei 10 r≠0 then some ((AO 10 r).len+(Av 101 (AO 10 r).r2).1,Gm neg (Fw 10 (AO 10 r)) (Cs (Av 101 (AO 10 r).r2).2-(AO 10 r).d2.length))else none)=(none:Option (Nat×Num))/\QM.DT 10 101 r=none\/
     ∃y z,(if Ei 10 r≠0 then some ((AO 10 r).len+(Av 101 (AO 10 r).r2).1,Gm neg (Fw 10 (AO 10 r)) (Cs (Av 101 (AO 10 r).r2).2-(AO 10 r).d2.length))else none)=some (y,(Gm neg (Fw 10 (AO 10 r)) (Cs (Av 101 (AO 10 r).r2).2-(AO 10 r).d2.length)))/\QM.DT 10 101 r=some (y,z)/\UT (Gm neg (Fw 10 (AO 10 r)) (Cs (Av 101 (AO 10 r).r2).2-(AO 10 r).d2.length)) (.value neg z.1 z.2):=by
     unfold QM.DT;by_cases n0:Ei 10 r=0
     ·left;rw [AD (fun w=>w n0)];unfold Ei at n0;rw [AG n0];exact⟨rfl,rfl⟩
     ·right;rw [AG n0];unfold Ei at n0;rw [AD n0];exact⟨_,_,rfl,rfl,ACS (Ys (.inl rfl) hl) (kD hl)⟩
    by_cases c4:r.take 2=QM.DU
    ·rw [AG c4];have Bp:(r.drop 2).length<=512:=by rw [D1];lia
     by_cases Lh:Ei 16 (r.drop 2)=0
     ·rw [AD (fun w=>w.2 Lh)];have Nj:QM.DT 16 112 (r.drop 2)=none:=by
       unfold QM.DT;unfold Ei at Lh;rw [AG Lh]
      rw [Nj];dsimp only;rcases dec with⟨d1,d2⟩|⟨y,z,d1,d2,d3⟩
      ·rw [d1,d2];rfl
      ·rw [d1,d2];exact⟨_,rfl,d3⟩
     ·rw [AG ⟨c4,Lh⟩];have Nj:QM.DT 16 112 (r.drop 2)=some ((AO 16 (r.drop 2)).len+(Av 112 (AO 16 (r.drop 2)).r2).1,(AO 16 (r.drop 2)).worth 16 (Av 112 (AO 16 (r.drop 2)).r2).2):=by
       unfold QM.DT;unfold Ei at Lh;rw [AD Lh]
      rw [Nj];refine⟨_,by dsimp only;rw [<-V1],?_⟩;exact ACT (Ys (.inr rfl) Bp) (kD Bp)
    ·rw [AD c4,AD (fun w=>c4 w.1)];dsimp only;rcases dec with⟨d1,d2⟩|⟨y,z,d1,d2,d3⟩
     ·rw [d1,d2];rfl
     ·rw [d1,d2];exact⟨_,rfl,d3⟩
def ACV(hl:t.length<=512)(m:Nat):Hc (KH t).2/\Rn t m=((KH t).1,(Ds QUAD m (KH t).2).1,(Ds QUAD m (KH t).2).2):=by
 have s2:=(QM.KG t).1;have br:=ACU (neg:=(BW t).1) (r:=(BW t).2) (by lia);unfold Rn Qu.readIn KH;rw [QM.AAs];unfold QM.scan;cases hb:IV (BW t).1 (BW t).2 with
 |none=>
  rw [hb]at br;have br:QM.IS (BW t).1 (BW t).2=none:=br;rw [br];exact⟨fun w=>absurd rfl w,rfl⟩
 |some y=>
  rw [hb]at br;obtain⟨z,b1,b2,b3⟩:=br;rw [b1];refine⟨b2,?_⟩;dsimp only [Ka];rw [b3 m];rfl
section
variable{C:Addr}
def ACW(C:Addr):Sp:=fun vs H Q _=> ∃t:Text,vs=[.str (AM (tx t))]/\t.length<=512/\ ∀H' l,N7 C H' l (KH t).1 (KH t).2->AQ H H'->Q (.ref l) H'
def ACX: ∀c∈QM.Ez,c.toNat∈Cm:=by decide
def ACY: ∀c∈QM.Ey,c.toNat∈Cm:=by decide
def ACZ: ∀c∈QM.Eg,c.toNat∈Cm:=by decide
def ACa: ∀c∈QM.DU,c.toNat∈Cm:=by decide
def UU:JS b s=if Ei b s=0 then 0 else(AO b s).len:=rfl
def kE(h:Ei b s≠0):0< (AO b s).len:=by
 unfold Ei at h;unfold QM.QQ.len;lia
def ACb:
 Df "read_number" 7 ["text"] (ACW CP):=by
 refine(AW 112 rfl).go ["text","sign","start","word","end"] ?_;rintro S _ _ _ _ _ _ H _ Q _ hr ⟨t,rfl,ht,q⟩;refine⟨_,(AJ (pS 1 S (Bq (Bz (Fp I0 M3 Ox tV (pv 0) (AB Cy AL))) AE AE)) (AJ (pS 2 S (pD hr js (pW 0 (AB AE AL)))) (AJ (JD Gz rfl (rF (WV (AB Cy (AB Cy (AB Cy AL))))) (FF (i:=3) S rfl (Or.inl rfl)) (Cj (Ag (Bz (Fp I0 M3 Ox Nf (pv 0) (pW 3 (pO 2)))) (pR (Ay (AB (AK BX (pv 2) (Cf MA (by rfl) FR FQ (pO 3))) (AB (pC hr IM (AB (Bq (AX Ae (pv 3) Cy) (pG Nr) (pG D7)) (pW 1 (AB AE (AB AE AL))))) AL)))) Ai))) (AJ (Ag (Bz (Fp I0 M3 Ox Nf (pv 0) (AB Cy (pO 2)))) (AJ (pS 4 S (pD hr jo (pW 0 (AB (AK BX (pv 2) AE) (AB (Pg rfl jh) AL))))) (Cj (Ag (AX Ef (pv 4) (AK BX (pv 2) AE)) (pR (pD hr ACR (pW 0 (pW 1 (AB (AK BX (pv 2) AE) (pO 4)))))) Ai))) Ai) (AJ (pS 4 S (pD hr jo (pW 0 (pW 2 (AB (Pg rfl jt) AL))))) (AJ (Ag (AX Ef (pv 4) (pv 2)) (pR (pD hr ACP (pW 0 (pW 1 (pW 2 (pO 4)))))) Ai) (pR (Ay (AB AE (AB (pD hr Fe (AB AE (AB AE (AB AE AL)))) AL)))))))))),?_⟩;have HE:sizeLine=16777216:=rfl;obtain⟨s1,s2,s3⟩:=QM.KG t;have aE:=(j6 t).2;have e45:pK (AM (tx t)) (AM (tn [45]))=(BW t).1:=by
  rw [aE];have h:=jm (t:=t) (w:=[45]) (i:=0) jq (DM _);rw [jl,Rl]at h;exact h.trans (Cd.mpr QX)
 unfold KH at q;generalize aF:(BW t).1=neg at *
 rw [s2]at q;refine BD (v:=.int (sg neg)) (B5 (Ej (b:=neg) (fun Q q=>⟨_,rfl,rfl,_,_,rfl,rfl,by
  have :(("-":String):Str)=AM (tn [45]):=by rfl
  rw [this,e45];exact q⟩)) (fun e=>by rw [e];exact AI) (fun e=>by rw [e];exact AI)) ?_
 refine BD (Ev.df (r:=.int ((BV t:Nat):Int)) (Nw.cons (AH rfl) (Nw.cons AI Nw.nil)) fun Q q=>⟨t,0,rfl,DM _,by rw [Rl,Jl];exact q⟩) ?_;have VG:BV t<=t.length:=by lia
 generalize El:BV t=k at *
 refine⟨dz,fun pw hpw=>?_⟩;have w1:(("infinity":String):Str)=AM (tn QM.Ez):=by decide+kernel
 have w2:(("inf":String):Str)=AM (tn QM.Ey):=by decide+kernel
 have w3:(("nan":String):Str)=AM (tn QM.Eg):=by decide+kernel
 rw [w1,w2,w3];have Le:AQ H (upd H pw (.tup [.str (AM (tn QM.Ez)),.str (AM (tn QM.Ey)),.str (AM (tn QM.Eg))])):=AQ.new hpw;generalize Q_:upd H pw (.tup [.str (AM (tn QM.Ez)),.str (AM (tn QM.Ey)),.str (AM (tn QM.Eg))])=H1 at *
 have Lg:H1 pw=some (.tup [.str (AM (tn QM.Ez)),.str (AM (tn QM.Ey)),.str (AM (tn QM.Eg))]):=by rw [<-Q_];exact AZ
 refine⟨pw,rfl,⟨_,JV Lg⟩,?_⟩;have aI: ∀(y:Nat×Num),IV neg (t.drop k)=some y-> ∀H' l,N7 CP H' l (k+y.1) y.2->AQ H H'->Q (.ref l) H':=fun y hy H' l hf hs=>by
  rw [hy]at q;exact q H' l hf hs
 have aJ: ∀(kk:Int)(x:Num)(kx:Nat),ML kk (sg neg) 0 0 x->IV neg (t.drop k)=some (kx,x)-> ∀a dx,H1 a=none->H1 dx=none->dx≠a->
  Py CP [.ref a,.int kk,.int (sg neg),.int 0,.int 0] (upd (upd H1 dx (.own a)) a (.ins CP dx [])) (fun v H2=>v=.BZ/\(2<=sizeLine/\ ∀l,H2 l=none->Q (.ref l) (upd H2 l (.lst [.int ((k:Int)+(kx:Int)),.ref a])))) E0:=fun kk x kx hh hb a dx na nd ne=>
  P6 na nd ne fun H2 e1 Zv=>⟨by decide,fun l hl=>aI _ hb _ l ⟨a,by rw [AZ,M8],(BY.same ⟨dx,_,_,_,_,e1,hh⟩ (AQ.new hl))⟩ ((Le.trans Zv).trans (AQ.new hl))⟩
 have EW: ∀(v:Text)(σ:L2.St),(∀c∈v,c.toNat∈Cm)->σ[0]? =some (some (.str (AM (tx t))))->σ[3]? =some (some (.str (AM (tn v))))->σ[2]? =some (some (.int (k:Int)))->DK (tB (Wc K "str" (fun x xs H Q=> ∃a b i,x=.str a/\xs=[.str b,.int i]/\Q (.bl (NG a.length i+b.length<=a.length&&M1 a b (NG a.length i))) H) (Aa 0) (Ba (Aa 3) (Ba (Aa 2) B3)))) σ H1 (decide ((t.drop k).take v.length=v)):=fun v σ hv i1 i2 i3=>
  Ej (OH hv VG (AH i1) (Nw.cons (AH i2) (Nw.cons (AH i3) Nw.nil)))
 have aK: ∀(v:Text)(σ:L2.St),v.length<=8->σ[3]? =some (some (.str (AM (tn v))))->Ev (G3 (fun xs H Q=> ∃z,xs=[.str z]/\z.length<=sizeLine/\Q (.int z.length) H) (Ba (Aa 3) B3)) σ H1 (.int (v.length:Nat)):=fun v σ hv i1=>
  EX (Nw.cons (AH i1) Nw.nil) fun Q q=>⟨_,rfl,by rw [BF,Dl];lia,by rw [BF,Dl];exact q⟩
 have aM: ∀v:Text,(V.str (AM (tn v))=V.str "nan")↔tn v=tn QM.Eg:=fun v=>by
  rw [w3];constructor
  ·intro h;injection h with h;exact N5.mp h
  ·intro h;rw [h]
 refine rJ (xs:=[.str (AM (tn QM.Ez)),.str (AM (tn QM.Ey)),.str (AM (tn QM.Eg))]) (fun i σ H'=>H'=H1/\ ∃z:Option V,σ=[some (.str (AM (tx t))),some (.int (sg neg)),some (.int (k:Int)),z,none]/\(1<=i-> ¬(t.drop k).take 8=QM.Ez)/\(2<=i-> ¬(t.drop k).take 3=QM.Ey)/\(3<=i-> ¬(t.drop k).take 3=QM.Eg)) ⟨rfl,none,rfl,fun h=>by lia,fun h=>by lia,fun h=>by lia⟩ ?_ ?_ ?_
 ·rintro i σ H' _ ⟨rfl,_⟩;exact JV Lg
 ·rintro i x σ H' hx ⟨rfl,z,rfl,n1,n2,n3⟩
  match i,hx,n1,n2,n3 with
  |0,hx,n1,n2,n3=>
   cases (BQ hx);refine IL (EW QM.Ez _ ACX rfl rfl rfl) (fun c=>?_) (fun c=>?_)
   ·have c:(t.drop k).take 8=QM.Ez:=Au c;refine(A1 (AH rfl) (aK QM.Ez _ dd rfl):Ev _ _ _ _) _ ?_;refine(B5 (v:=.int 2) ((Ac (Qc (AH rfl) AI)).to (b':=false) (Bh (fun w=>absurd ((aM _).mp w) dd))) (fun e=>by cases e) (fun e=>AI):Ev _ _ _ _) _ ?_;exact⟨_,rfl,fun a dx na nd ne=>aJ 2 (.inf neg) 8 ⟨rfl,rfl⟩ (by unfold IV;rw [AG c]) a dx na nd ne⟩
   ·have c: ¬(t.drop k).take 8=QM.Ez:=BA c;exact⟨rfl,_,rfl,fun _=>c,fun h=>by lia,fun h=>by lia⟩
  |1,hx,n1,n2,n3=>
   cases (BQ hx);refine IL (EW QM.Ey _ ACY rfl rfl rfl) (fun c=>?_) (fun c=>?_)
   ·have c:(t.drop k).take 3=QM.Ey:=Au c;refine(A1 (AH rfl) (aK QM.Ey _ dd rfl):Ev _ _ _ _) _ ?_;refine(B5 (v:=.int 2) ((Ac (Qc (AH rfl) AI)).to (b':=false) (Bh (fun w=>absurd ((aM _).mp w) dd))) (fun e=>by cases e) (fun e=>AI):Ev _ _ _ _) _ ?_;exact⟨_,rfl,fun a dx na nd ne=>aJ 2 (.inf neg) 3 ⟨rfl,rfl⟩ (by unfold IV;rw [AD (n1 (BO _)),AG c]) a dx na nd ne⟩
   ·have c: ¬(t.drop k).take 3=QM.Ey:=BA c;exact⟨rfl,_,rfl,fun _=>n1 (BO _),fun _=>c,fun h=>by lia⟩
  |2,hx,n1,n2,n3=>
   cases (BQ hx);refine IL (EW QM.Eg _ ACZ rfl rfl rfl) (fun c=>?_) (fun c=>?_)
   ·have c:(t.drop k).take 3=QM.Eg:=Au c;refine(A1 (AH rfl) (aK QM.Eg _ dd rfl):Ev _ _ _ _) _ ?_;refine(B5 (v:=.int 3) ((Ac (Qc (AH rfl) AI)).to (b':=true) (Bi ((aM _).mpr rfl))) (fun e=>AI) (fun e=>by cases e):Ev _ _ _ _) _ ?_;exact⟨_,rfl,fun a dx na nd ne=>aJ 3 (.nan false) 3 ⟨rfl,C7 neg⟩ (by unfold IV;rw [AD (n1 dd),AD (n2 (BO _)),AG c]) a dx na nd ne⟩
   ·have c: ¬(t.drop k).take 3=QM.Eg:=BA c;exact⟨rfl,_,rfl,fun _=>n1 dd,fun _=>n2 (BO _),fun _=>c⟩
  |i+3,hx,_,_,_=>simp at hx
 ·rintro σ H' ⟨rfl,z,rfl,n1,n2,n3⟩;have m1:=n1 (by show 1<=3;decide);have m2:=n2 (by show 2<=3;decide);have m3:=n3 (by show 3<=3;decide);have bd:IV neg (t.drop k)=if(t.drop k).take 2=QM.DU/\Ei 16 ((t.drop k).drop 2)≠0 then some (2+(AO 16 ((t.drop k).drop 2)).len+(Av 112 (AO 16 ((t.drop k).drop 2)).r2).1,.fin neg (Fw 16 (AO 16 ((t.drop k).drop 2))) (Cs (Av 112 (AO 16 ((t.drop k).drop 2)).r2).2-4*((AO 16 ((t.drop k).drop 2)).d2.length:Nat)))
   else if Ei 10 (t.drop k)≠0 then some ((AO 10 (t.drop k)).len+(Av 101 (AO 10 (t.drop k)).r2).1,Gm neg (Fw 10 (AO 10 (t.drop k))) (Cs (Av 101 (AO 10 (t.drop k)).r2).2-(AO 10 (t.drop k)).d2.length))else none:=by
   conv=>lhs;unfold IV
   rw [AD m1,AD m2,AD m3]
  have w4:(("0x":String):Str)=AM (tn QM.DU):=by decide+kernel
  have dec: ¬((t.drop k).take 2=QM.DU/\Ei 16 ((t.drop k).drop 2)≠0)-> ∀z2:Option V,(NM (NO (DE jn [] E0 (Ba (Aa 0) (Ba (Aa 2) (Ba (tC (.str (AM LK))) B3)))) (HN 4)) (NM (O6 (JF (Br (Dv fun i j=>V.bl (decide (j<i))) (Aa 4) (Aa 2))) (Jt (DE (kC CP) [] E0 (Ba (Aa 0) (Ba (Aa 1) (Ba (Aa 2) (Ba (Aa 4) B3)))))) WK)
   (Jt (NT (Ba (tC (.int 0)) (Ba (DE (XR CP) [] E0 (Ba (tC (.int 0)) (Ba (tC (.int 0)) (Ba (tC (.int 0)) B3)))) B3)))))) {nx:=fun x H'=>Q V.BZ H',rt:=Q} [some (.str (AM (tx t))),some (.int (sg neg)),some (.int (k:Int)),z,z2] H':=fun hn z2=>by
   rw [AD hn]at bd;refine BD (Ev.df (r:=.int ((k+JS 10 (t.drop k):Nat):Int)) (Nw.cons (AH rfl) (Nw.cons (AH rfl) (Nw.cons AI Nw.nil))) fun Q q=>⟨t,k,10,LK,rfl,.inl ⟨rfl,rfl⟩,VG,by lia,q⟩) ?_;refine Bf ((Ac (CO (AH rfl) (AH rfl))).to (b':=decide (Ei 10 (t.drop k)≠0)) (Cd.mpr ?_)) (fun c=>?_) (fun c=>?_)
   ·rw [UU];by_cases g:Ei 10 (t.drop k)=0
    ·rw [AG g];exact⟨fun h=>by lia,fun h=>absurd g h⟩
    ·rw [AD g];have :=kE g;exact⟨fun _=>g,fun _=>by lia⟩
   ·have c:=Au c;rw [AG c]at bd;have ed:JS 10 (t.drop k)=(AO 10 (t.drop k)).len:=by rw [UU,AD c]
    rw [ed];refine⟨_,rfl,_,rfl,_,rfl,_,rfl,t,sg neg,k,rfl,C7 neg,VG,ht,c,fun H3 l hf s3=>aI _ bd H3 l ?_ (Le.trans s3)⟩;rw [CL]at hf;show N7 CP H3 l (k+((AO 10 (t.drop k)).len+(Av 101 (AO 10 (t.drop k)).r2).1)) _;rw [<-V1];exact hf
   ·have c:=BA c;rw [AD c]at bd;rw [bd]at q;refine⟨_,_,_,rfl,.inl rfl,Vn _,fun H3 a ha s3=>⟨dz,fun l hl=>q _ l ⟨a,AZ,?_⟩ ((Le.trans s3).trans (AQ.new hl))⟩⟩;exact ha.same (AQ.new hl)
  refine IL ((Ej (OH (v:=QM.DU) ACa VG (AH rfl) (Nw.cons (AI (v:=.str (AM (tn QM.DU)))) (Nw.cons (AH rfl) Nw.nil)))).to (b':=decide ((t.drop k).take 2=QM.DU)) rfl) (fun c=>?_) (fun c=>?_)
  ·have c:=Au c;have k2:k+2<=t.length:=by
    have :=congrArg Ik c;rw [DV,D1]at this;have e2:QM.DU.length=2:=rfl;lia
   have dd:t.drop (k+2)=(t.drop k).drop 2:=by rw [HJ]
   refine BD (Ev.df (r:=.int ((k+2+JS 16 ((t.drop k).drop 2):Nat):Int)) (Nw.cons (AH rfl) (Nw.cons ((A1 (AH rfl) AI).to (v':=.int ((k+2:Nat):Int)) (congrArg V.int (by lia))) (Nw.cons AI Nw.nil))) fun Q q=>⟨t,k+2,16,MY,rfl,.inr ⟨rfl,rfl⟩,k2,by lia,by rw [dd];exact q⟩) ?_;refine IL ((Ac (CO (AH rfl) ((A1 (AH rfl) AI).to (v':=.int ((k+2:Nat):Int)) (congrArg V.int (by lia))))).to (b':=decide (Ei 16 ((t.drop k).drop 2)≠0)) (Cd.mpr ?_)) (fun c2=>?_) (fun c2=>?_)
   ·rw [UU];by_cases g:Ei 16 ((t.drop k).drop 2)=0
    ·rw [AG g];exact⟨fun h=>by lia,fun h=>absurd g h⟩
    ·rw [AD g];have :=kE g;exact⟨fun _=>g,fun _=>by lia⟩
   ·have c2:=Au c2;rw [AG ⟨c,c2⟩]at bd;have ed:JS 16 ((t.drop k).drop 2)=(AO 16 ((t.drop k).drop 2)).len:=by rw [UU,AD c2]
    rw [ed];refine⟨_,rfl,_,rfl,?_⟩;refine((A1 (AH rfl) AI).to (v':=.int ((k+2:Nat):Int)) (congrArg V.int (by lia)):Ev _ _ _ _) _ ?_;refine⟨_,rfl,t,sg neg,k+2,by rw [dd];rfl,C7 neg,k2,ht,by rw [dd];exact c2,fun H3 l hf s3=>aI _ bd H3 l ?_ (Le.trans s3)⟩;rw [CL,dd]at hf;show N7 CP H3 l (k+(2+(AO 16 ((t.drop k).drop 2)).len+(Av 112 (AO 16 ((t.drop k).drop 2)).r2).1)) _;rw [<-V1,<-V1];exact hf
   ·have c2:=BA c2;exact dec (fun w=>c2 w.2) _
  ·have c:=BA c;exact dec (fun w=>c w.1) _
end
def ACc{x:Str}{g:TG}{tb:TS}{D:FE}{σ:L2.St}{H:Hp}(Pv:Nat->L2.St->Hp->Prop)(h0:Pv 0 σ H)
 (hs: ∀i c σ H,x.cps[i]? =some c->Pv i σ H->g (.str ⟨#[c]⟩) σ H fun A_ H2=>tb {D with nx:=Pv (i+1),ct:=Pv (i+1),bk:=D.nx} A_ H2)(hd: ∀σ H,Pv x.cps.size σ H->D.nx σ H):
 ∃W:Nat->Nat->L2.St->Hp->Prop,(∃m,W 0 m σ H)/\ ∀i m σ H,W i m σ H->
  ((Kw x).stop i H/\D.nx σ H)\/((Kw x).go i H/\ ∃N:L2.St->Hp->Prop,(∀Ak H',N Ak H'-> ∃m',m'<m/\W (i+1) m' Ak H')/\ ∀v H',(Kw x).Hi i H v H'->g v σ H' fun A_ H2=>tb {D with nx:=N,ct:=N,bk:=D.nx} A_ H2):=by
 refine⟨fun i m σ H=>m=x.cps.size-i/\i<=x.cps.size/\Pv i σ H,⟨x.cps.size,by simp,DM _,h0⟩,?_⟩;rintro i m σ H ⟨rfl,hi,p⟩;by_cases Bk:i<x.cps.size
 ·refine .inr ⟨Bk,Pv (i+1),fun Ak H' p'=>⟨x.cps.size-(i+1),by lia,rfl,Bk,p'⟩,fun v H' y=>?_⟩;obtain⟨e,c,hc,rfl⟩:=y;subst e;exact hs i c σ _ hc p
 ·have e:i=x.cps.size:=by lia
  subst e;exact .inl ⟨BO _,hd σ H p⟩
def kG(H:Hp)(a:Addr)(l:List Int):Prop:=H a=some (.lst (l.map V.int))/\ ∀z∈l,0<=z/\z<=255
noncomputable def GA(l:List Int):Text:=l.map fun z=>Ki z.toNat
def kH: ∀l:List Int,(l.map fun _=>(1:Nat)).sum=l.length
 | []=>rfl
 |a::r=>by rw [Fj,bj,kH r,BU];lia
def join_ones: ∀l:List Nat,Str.join (AM []) (l.map fun c=>AM [c])=AM l
 | []=>rfl
 | [c]=>rfl
 |c::d::r=>by
  have ih:=join_ones (d::r);show AM [c]++AM []++Str.join (AM []) ((d::r).map fun c=>AM [c])=_;rw [ih,Gk,Gk];rfl
def join_one(l:List Nat):Txt.join (AM []) (l.map fun c=>AM [c])=AM l:=by
 unfold Txt.join;rw [PySem.StrLaws.glued_eq_join];exact join_ones l
def ACd(h: ∀z∈l,0<=z/\z<=255):tx (GA l)=l.map fun z=>CN z.toNat:=by
 unfold tx GA;rw [Ir];refine bA fun z hz=>?_
 have :=h z hz;show CN (Ki z.toNat).toNat=_;have e:(Ki z.toNat).toNat=z.toNat:=qP (show z.toNat<256 by lia);rw [e]
section
variable{C:Addr}
def ACe:Sp:=fun vs H Q _=> ∃(a:Addr)(l:List Int),vs=[.ref a]/\kG H a l/\l.length<=1000/\ ∀H',AQ H H'->Q (.str (AM (tx (GA l)))) H'
def ACf:Pf mg "LETTERS" (AM Cm):=XA (by kernel_rfl)
def ACg:Df "as_text" 1 ["row"] ACe:=by
 refine(AW 113 rfl).go ["row","letters","letter","byte"] ?_;rintro S _ _ _ _ _ _ H _ Q _ hr ⟨a,l,rfl,⟨hl,hq⟩,hz,q⟩;refine⟨_,(AJ (cY (i:=1) S rfl (Or.inr rfl) tI) (AJ (JD Gz rfl (du (Pg rfl ACf)) (FF (i:=2) S rfl (Or.inl rfl)) (Cj (tE (d9 hr) (pv 1) (Cf cz (by rfl) jX jU (pO 2)) (pv 2) rfl))) (pR (Fp I0 PySem.F.slot_str_join PySem.F.type_str_join tU Cy (AB (PR (own:=[("byte",3)]) rfl S (NP (pv 0)) (by show Kv ["row","letters","letter","byte"] (Cw (top 106)) _ _;exact⟨rfl,by decide+kernel,by decide+kernel,by decide+kernel,by decide+kernel⟩) (fun _ _ _ _ _=>FF (i:=3) S rfl (Or.inl rfl)) (fun _ _ _ _ _=>PQ) (fun _ _ _ _ _=>by exact(tN (d9 hr) (pv 1) (pv 3) Cy ⟨rfl,rfl,rfl,rfl⟩))) AL))))),?_⟩;have HE:sizeLine=16777216:=rfl;refine fun pd aO=>?_
 refine⟨AM Cm,rfl,?_⟩;have al:a≠pd:=fun z=>by rw [z,aO]at hl;cases hl
 refine ACc (x:=AM Cm) (fun i σ H'=>(∀b o,H b=some o->H' b=some o)/\ ∃(z1 z2:Option V)(AS:List (A8×V)),σ=[some (.ref a),some (.ref pd),z1,z2]/\H' pd=some (.dK AS)/\AS.length<=i/\ ∀c:Int,Az AS (.inl c)=if c.toNat∈Cm.take i/\0<=c then some (.str (AM [c.toNat]))else none) ⟨AQ.new aO,none,none,[],rfl,AZ,BO _,fun c=>by simp [sj]⟩ ?_ ?_
 ·rintro i c σ H' hc ⟨s1,z1,z2,AS,rfl,hd,hlen,hv⟩;have JY:Cm[i]? =some c:=by
   have e:(AM Cm).cps[i]? =Cm[i]?:=by show Cm.toArray[i]? =_;simp
   rw [<-e];exact hc
  have Jc:=(Fi.mp JY).1;have l39:Cm.length=39:=rfl;refine⟨_,rfl,_,rfl,_,rfl,_,rfl,rfl,?_⟩;refine⟨pd,_,rfl,AEU (k:=.inl (c:Int)) hd (by lia),fun b o e=>?_,_,_,Gb AS (.inl (c:Int)) (.str (AM [c])),rfl,AZ,?_,fun d=>?_⟩
  ·rw [BC (D4 e aO)];exact s1 b o e
  ·refine A9 (Ws _ _ _) (by lia)
  ·rw [sk,hv];have e1:Cm.take (i+1)=Cm.take i++[c]:=by rw [M9,JY];rfl
   rw [e1];by_cases g:d=(c:Int)
   ·subst g;rw [AG rfl,AG (by simp)];simp
   ·rw [AD (fun z=>g (Sum.inl.inj z))];by_cases g2:d.toNat∈Cm.take i/\0<=d
    ·rw [AG g2,AG ⟨aV _ g2.1,g2.2⟩]
    ·rw [AD g2,AD];rintro⟨w1,w2⟩;rcases Hm.mp w1 with w|w
     ·exact g2 ⟨w,w2⟩
     ·rw [AGP]at w;lia
 ·rintro σ H1 ⟨s1,z1,z2,AS,rfl,hd,hlen,hv⟩;have e39:Cm.take (AM Cm).cps.size=Cm:=Il dd;rw [e39]at hv;have Fg:H1 a=some (.lst (l.map V.int)):=s1 _ _ hl;refine⟨rfl,?_⟩;refine⟨_,rfl,a,rfl,⟨_,BL Fg⟩,fun D hD=>?_⟩;have dp:D≠pd:=fun z=>by rw [z,hd]at hD;cases hD
  have da:D≠a:=fun z=>by rw [z,Fg]at hD;cases hD
  refine Wr (xs:=l.map V.int) (fun i H'=>(∀b o,H1 b=some o->H' b=some o)/\H' D=some (.lst ((l.take i).map fun z=>V.str (AM [CN z.toNat])))) ⟨AQ.new hD,AZ⟩ (fun i H' _ p=>BL (p.1 _ _ Fg)) ?_ ?_
  ·rintro i y H' hi ⟨s2,VH⟩;obtain⟨z,Qs,rfl⟩: ∃z,l[i]? =some z/\y=V.int z:=by
    rw [De]at hi;cases e:l[i]? with
    |none=>rw [e]at hi;cases hi
    |some z=>rw [e]at hi;exact⟨z,rfl,(BQ hi).symm⟩
   have bz:=hq z (FV Qs);refine⟨rfl,?_⟩;refine⟨_,rfl,pd,rfl,.inl ⟨AS,.inl (s2 _ _ hd)⟩,_,rfl,_,AET (k:=.inl z) (s2 _ _ hd),?_⟩;have ev:(Az AS (Mw z)).getD (.str " ")=V.str (AM [CN z.toNat]):=by
    rw [hv];unfold CN;by_cases g:z.toNat∈Cm
    ·rw [AG ⟨g,bz.1⟩,AG (AGT.mpr g)];rfl
    ·rw [AD (fun w=>g w.1),AD (fun w=>g (AGT.mp w))];rfl
   rw [ev];refine⟨_,VH,?_,fun b o e=>?_,?_⟩
   ·rw [A5,DV];lia
   ·rw [BC (D4 e hD)];exact s2 b o e
   ·have e1:l.take (i+1)=l.take i++[z]:=by rw [M9,Qs];rfl
    rw [AZ,e1,Jm];rfl
  ·rintro H2 ⟨s2,VH⟩;rw [A5,Ip]at VH;refine⟨_,D,(l.map fun z=>CN z.toNat).map fun c=>AM [c],rfl,rfl,.inl (BL ?_),?_,?_⟩
   ·rw [VH,Ir,Ir];rfl
   ·have e1:(((l.map fun z=>CN z.toNat).map fun c=>AM [c]).map (·.length)).sum=l.length:=by
     rw [Ir,Ir];exact kH l
    rw [e1,A5,A5];show l.length+l.length*0<=16777216;lia
   ·have ej:(("":String):Str)=AM []:=by rfl
    rw [ej,join_one,<-ACd hq];exact q H2 fun b o e=>s2 _ _ (s1 b o e)
def ACh(H:Hp)(l:Addr)(x:Nat×Nat×Nat):Prop:=H l=some (.lst [.int (x.1:Int),.int (x.2.1:Int),.int (x.2.2:Int)])
def UW:Sp:=fun vs H Q _=> ∃(a:Addr)(l:List Int)(m:Int),vs=[.int m,.ref a]/\kG H a l/\l.length<=512/\(0<=m/\m<=4)/\ ∀H' p,ACh H' p (Rn (GA l) m.toNat)->AQ H H'->Q (.ref p) H'
def ACi:Df "read" 8 ["mode","row"] UW:=by
 refine(AW 114 rfl).go ["mode","row","found"] ?_;rintro S _ _ _ _ _ _ H _ Q _ hr ⟨a,l,m,rfl,hl,hz,hm,q⟩;refine⟨_,(AJ (pS 2 S (pD hr ACb (AB (pD hr ACg (pO 1)) AL))) (pR (AK We (Ay (AB (AY Ah (pv 2) AE) AL)) (pD hr G8 (AB (AY Ah (pv 2) AE) (pO 0)))))),?_⟩;have tl:(GA l).length<=512:=by unfold GA;rw [A5];exact hz
 refine⟨_,rfl,a,l,rfl,hl,by lia,fun H1 s1=>?_⟩;refine⟨GA l,rfl,tl,fun H2 f hf s2=>?_⟩;obtain⟨pa,oK,hf2⟩:=hf;obtain⟨r1,r2⟩:=ACV tl m.toNat;rw [r2]at q;generalize KH (GA l)=kx at *
 refine⟨_,rfl,f,_,0,_,rfl,rfl,BL oK,rfl,dz,fun c hc=>?_⟩;have s3:AQ H2 (upd H2 c (.lst [.int (kx.1:Int)])):=AQ.new hc;refine⟨_,rfl,f,_,1,_,rfl,rfl,BL (s3 _ _ oK),rfl,_,rfl,?_⟩;refine⟨pa,kx.2,m,rfl,hf2.same s3,r1,hm,fun H3 l3 h3 s4=>?_⟩;refine⟨c,l3,_,_,rfl,rfl,s4 _ _ AZ,h3,by show 3<=sizeLine;decide,fun p hp=>q _ p AZ ((((s1.trans s2).trans s3).trans s4).trans (AQ.new hp))⟩
end
def CH(sp:Sp)(k:Nat):Sp:=fun vs H Q _=> ∃(a:Addr)(l:List Int),vs=[.ref a]/\H a=some (.lst (l.map V.int))/\l.length=k/\sp (l.map V.int) H Q E0
def HA(sp:Sp)(k m:Nat):Sp:=fun vs H Q _=> ∃(a r:Addr)(l:List Int)(as:List Addr),vs=[.ref a,.ref r]/\H a=some (.lst (l.map V.int))/\H r=some (.lst (as.map V.ref))/\l.length=k/\as.length=m/\sp (l.map V.int++as.map V.ref) H Q E0
def CZ(h:l.length=1): ∃a,l=[a]:=by
 match l,h with
 | [a],_=>exact⟨a,rfl⟩
def DB(h:l.length=2): ∃a b,l=[a,b]:=by
 match l,h with
 | [a,b],_=>exact⟨a,b,rfl⟩
def Cn(h:l.length=3): ∃a b c,l=[a,b,c]:=by
 match l,h with
 | [a,b,c],_=>exact⟨a,b,c,rfl⟩
def len4(h:l.length=4): ∃a b c d,l=[a,b,c,d]:=by
 match l,h with
 | [a,b,c,d],_=>exact⟨a,b,c,d,rfl⟩
def UX(h:l.length=5): ∃a b c d e,l=[a,b,c,d,e]:=by
 match l,h with
 | [a,b,c,d,e],_=>exact⟨a,b,c,d,e,rfl⟩
def FU: ∀vs H Q E,CH sp k vs H Q E->vs.length=1:=by
 rintro vs H Q E ⟨a,l,rfl,_⟩;rfl
def UY: ∀vs H Q E,HA sp k m vs H Q E->vs.length=2:=by
 rintro vs H Q E ⟨a,r,l,as,rfl,_⟩;rfl
section
variable{C:Addr}
def ACj:Df "call_op" 11 ["numbers"] (CH TB 4):=by
 have S:Bj ["numbers"] ["numbers"] (sc 179):=fS;refine(AW 115 rfl).ok S FU (fun _ _ _ _ _ _ H vs Q E hr h=>?_);obtain⟨a,l,rfl,hl,hk,h⟩:=h;obtain⟨x0,x1,x2,x3,rfl⟩:=len4 hk;refine⟨_,(pR (pD hr w9 (AB (AY Ah (pv 0) AE) (AB (AY Ah (pv 0) AE) (AB (AY Ah (pv 0) AE) (AB (AY Ah (pv 0) AE) AL)))))),?_⟩;refine(wA hl) _ ?_;refine(wA hl) _ ?_;refine(wA hl) _ ?_;refine(wA hl) _ ?_;exact h
def ACk:Df "call_root" 9 ["numbers"] (CH TF 2):=by
 have S:Bj ["numbers"] ["numbers"] (sc 180):=fS;refine(AW 116 rfl).ok S FU (fun _ _ _ _ _ _ H vs Q E hr h=>?_);obtain⟨a,l,rfl,hl,hk,h⟩:=h;obtain⟨x0,x1,rfl⟩:=DB hk;refine⟨_,(pR (pD hr xC (AB (AY Ah (pv 0) AE) (AB (AY Ah (pv 0) AE) AL)))),?_⟩;refine(wA hl) _ ?_;refine(wA hl) _ ?_;exact h
def ACl:Df "call_fused" 10 ["numbers"] (CH TH 5):=by
 have S:Bj ["numbers"] ["numbers"] (sc 181):=fS;refine(AW 117 rfl).ok S FU (fun _ _ _ _ _ _ H vs Q E hr h=>?_);obtain⟨a,l,rfl,hl,hk,h⟩:=h;obtain⟨x0,x1,x2,x3,x4,rfl⟩:=UX hk;refine⟨_,(pR (pD hr gd (AB (AY Ah (pv 0) AE) (AB (AY Ah (pv 0) AE) (AB (AY Ah (pv 0) AE) (AB (AY Ah (pv 0) AE) (AB (AY Ah (pv 0) AE) AL))))))),?_⟩;refine(wA hl) _ ?_;refine(wA hl) _ ?_;refine(wA hl) _ ?_;refine(wA hl) _ ?_;refine(wA hl) _ ?_;exact h
def ACm:Df "call_remainder" 10 ["numbers"] (CH TM 3):=by
 have S:Bj ["numbers"] ["numbers"] (sc 182):=fS;refine(AW 118 rfl).ok S FU (fun _ _ _ _ _ _ H vs Q E hr h=>?_);obtain⟨a,l,rfl,hl,hk,h⟩:=h;obtain⟨x0,x1,x2,rfl⟩:=Cn hk;refine⟨_,(pR (pD hr xT (AB (AY Ah (pv 0) AE) (AB (AY Ah (pv 0) AE) (AB (AY Ah (pv 0) AE) AL))))),?_⟩;refine(wA hl) _ ?_;refine(wA hl) _ ?_;refine(wA hl) _ ?_;exact h
def ACn:Df "call_scale" 9 ["numbers"] (CH TN 3):=by
 have S:Bj ["numbers"] ["numbers"] (sc 183):=fS;refine(AW 119 rfl).ok S FU (fun _ _ _ _ _ _ H vs Q E hr h=>?_);obtain⟨a,l,rfl,hl,hk,h⟩:=h;obtain⟨x0,x1,x2,rfl⟩:=Cn hk;refine⟨_,(pR (pD hr xU (AB (AY Ah (pv 0) AE) (AB (AY Ah (pv 0) AE) (AB (AY Ah (pv 0) AE) AL))))),?_⟩;refine(wA hl) _ ?_;refine(wA hl) _ ?_;refine(wA hl) _ ?_;exact h
def ACo:Df "call_whole" 9 ["numbers"] (CH TQ 3):=by
 have S:Bj ["numbers"] ["numbers"] (sc 184):=fS;refine(AW 120 rfl).ok S FU (fun _ _ _ _ _ _ H vs Q E hr h=>?_);obtain⟨a,l,rfl,hl,hk,h⟩:=h;obtain⟨x0,x1,x2,rfl⟩:=Cn hk;refine⟨_,(pR (pD hr xV (AB (AY Ah (pv 0) AE) (AB (AY Ah (pv 0) AE) (AB (AY Ah (pv 0) AE) AL))))),?_⟩;refine(wA hl) _ ?_;refine(wA hl) _ ?_;refine(wA hl) _ ?_;exact h
def ACp:Df "call_next" 8 ["numbers"] (CH TU 2):=by
 have S:Bj ["numbers"] ["numbers"] (sc 185):=fS;refine(AW 121 rfl).ok S FU (fun _ _ _ _ _ _ H vs Q E hr h=>?_);obtain⟨a,l,rfl,hl,hk,h⟩:=h;obtain⟨x0,x1,rfl⟩:=DB hk;refine⟨_,(pR (pD hr xb (AB (AY Ah (pv 0) AE) (AB (AY Ah (pv 0) AE) AL)))),?_⟩;refine(wA hl) _ ?_;refine(wA hl) _ ?_;exact h
def ACq:Df "call_split" 9 ["numbers"] (CH TV 1):=by
 have S:Bj ["numbers"] ["numbers"] (sc 186):=fS;refine(AW 122 rfl).ok S FU (fun _ _ _ _ _ _ H vs Q E hr h=>?_);obtain⟨a,l,rfl,hl,hk,h⟩:=h;obtain⟨x0,rfl⟩:=CZ hk;refine⟨_,(pR (pD hr xf (AB (AY Ah (pv 0) AE) AL))),?_⟩;refine(wA hl) _ ?_;exact h
def ACr:Df "call_pick" 9 ["numbers"] (CH TY 3):=by
 have S:Bj ["numbers"] ["numbers"] (sc 187):=fS;refine(AW 123 rfl).ok S FU (fun _ _ _ _ _ _ H vs Q E hr h=>?_);obtain⟨a,l,rfl,hl,hk,h⟩:=h;obtain⟨x0,x1,x2,rfl⟩:=Cn hk;refine⟨_,(pR (pD hr xo (AB (AY Ah (pv 0) AE) (AB (AY Ah (pv 0) AE) (AB (AY Ah (pv 0) AE) AL))))),?_⟩;refine(wA hl) _ ?_;refine(wA hl) _ ?_;refine(wA hl) _ ?_;exact h
def ACs:Df "call_sign" 3 ["numbers"] (CH TZ 3):=by
 have S:Bj ["numbers"] ["numbers"] (sc 188):=fS;refine(AW 124 rfl).ok S FU (fun _ _ _ _ _ _ H vs Q E hr h=>?_);obtain⟨a,l,rfl,hl,hk,h⟩:=h;obtain⟨x0,x1,x2,rfl⟩:=Cn hk;refine⟨_,(pR (pD hr xt (AB (AY Ah (pv 0) AE) (AB (AY Ah (pv 0) AE) (AB (AY Ah (pv 0) AE) AL))))),?_⟩;refine(wA hl) _ ?_;refine(wA hl) _ ?_;refine(wA hl) _ ?_;exact h
def ACt:Df "call_compare" 8 ["numbers"] (CH Tb 3):=by
 have S:Bj ["numbers"] ["numbers"] (sc 189):=fS;refine(AW 125 rfl).ok S FU (fun _ _ _ _ _ _ H vs Q E hr h=>?_);obtain⟨a,l,rfl,hl,hk,h⟩:=h;obtain⟨x0,x1,x2,rfl⟩:=Cn hk;refine⟨_,(pR (pD hr x6 (AB (AY Ah (pv 0) AE) (AB (AY Ah (pv 0) AE) (AB (AY Ah (pv 0) AE) AL))))),?_⟩;refine(wA hl) _ ?_;refine(wA hl) _ ?_;refine(wA hl) _ ?_;exact h
def ACu:Df "call_order" 4 ["numbers"] (CH Ta 2):=by
 have S:Bj ["numbers"] ["numbers"] (sc 190):=fS;refine(AW 126 rfl).ok S FU (fun _ _ _ _ _ _ H vs Q E hr h=>?_);obtain⟨a,l,rfl,hl,hk,h⟩:=h;obtain⟨x0,x1,rfl⟩:=DB hk;refine⟨_,(pR (pD hr xu (AB (AY Ah (pv 0) AE) (AB (AY Ah (pv 0) AE) AL)))),?_⟩;refine(wA hl) _ ?_;refine(wA hl) _ ?_;exact h
def ACv:Df "call_class" 8 ["numbers"] (CH Tc 1):=by
 have S:Bj ["numbers"] ["numbers"] (sc 191):=fS;refine(AW 127 rfl).ok S FU (fun _ _ _ _ _ _ H vs Q E hr h=>?_);obtain⟨a,l,rfl,hl,hk,h⟩:=h;obtain⟨x0,rfl⟩:=CZ hk;refine⟨_,(pR (pD hr yB (AB (AY Ah (pv 0) AE) AL))),?_⟩;refine(wA hl) _ ?_;exact h
def ACw:Df "call_to" 8 ["numbers"] (CH Td 3):=by
 have S:Bj ["numbers"] ["numbers"] (sc 193):=fS;refine(AW 128 rfl).ok S FU (fun _ _ _ _ _ _ H vs Q E hr h=>?_);obtain⟨a,l,rfl,hl,hk,h⟩:=h;obtain⟨x0,x1,x2,rfl⟩:=Cn hk;refine⟨_,(pR (pD hr yR (AB (AY Ah (pv 0) AE) (AB (AY Ah (pv 0) AE) (AB (AY Ah (pv 0) AE) AL))))),?_⟩;refine(wA hl) _ ?_;refine(wA hl) _ ?_;refine(wA hl) _ ?_;exact h
def ACx:Df "call_ofwhole" 9 ["numbers"] (CH Th 3):=by
 have S:Bj ["numbers"] ["numbers"] (sc 194):=fS;refine(AW 129 rfl).ok S FU (fun _ _ _ _ _ _ H vs Q E hr h=>?_);obtain⟨a,l,rfl,hl,hk,h⟩:=h;obtain⟨x0,x1,x2,rfl⟩:=Cn hk;refine⟨_,(pR (pD hr zK (AB (AY Ah (pv 0) AE) (AB (AY Ah (pv 0) AE) (AB (AY Ah (pv 0) AE) AL))))),?_⟩;refine(wA hl) _ ?_;refine(wA hl) _ ?_;refine(wA hl) _ ?_;exact h
def ACy:Df "call_towhole" 7 ["numbers"] (CH Ti 3):=by
 have S:Bj ["numbers"] ["numbers"] (sc 195):=fS;refine(AW 130 rfl).ok S FU (fun _ _ _ _ _ _ H vs Q E hr h=>?_);obtain⟨a,l,rfl,hl,hk,h⟩:=h;obtain⟨x0,x1,x2,rfl⟩:=Cn hk;refine⟨_,(pR (pD hr zO (AB (AY Ah (pv 0) AE) (AB (AY Ah (pv 0) AE) (AB (AY Ah (pv 0) AE) AL))))),?_⟩;refine(wA hl) _ ?_;refine(wA hl) _ ?_;refine(wA hl) _ ?_;exact h
def ACz:Df "call_show" 7 ["numbers"] (CH UJ 3):=by
 have S:Bj ["numbers"] ["numbers"] (sc 196):=fS;refine(AW 131 rfl).ok S FU (fun _ _ _ _ _ _ H vs Q E hr h=>?_);obtain⟨a,l,rfl,hl,hk,h⟩:=h;obtain⟨x0,x1,x2,rfl⟩:=Cn hk;refine⟨_,(pR (pD hr ABp (AB (AY Ah (pv 0) AE) (AB (AY Ah (pv 0) AE) (AB (AY Ah (pv 0) AE) AL))))),?_⟩;refine(wA hl) _ ?_;refine(wA hl) _ ?_;refine(wA hl) _ ?_;exact h
def AC0:Df "call_hex" 7 ["numbers"] (CH UK 1):=by
 have S:Bj ["numbers"] ["numbers"] (sc 197):=fS;refine(AW 132 rfl).ok S FU (fun _ _ _ _ _ _ H vs Q E hr h=>?_);obtain⟨a,l,rfl,hl,hk,h⟩:=h;obtain⟨x0,rfl⟩:=CZ hk;refine⟨_,(pR (pD hr ABw (AB (AY Ah (pv 0) AE) AL))),?_⟩;refine(wA hl) _ ?_;exact h
def AC1:Df "call_read" 9 ["numbers","rows"] (HA UW 1 1):=by
 have S:Bj ["numbers","rows"] ["numbers","rows"] (sc 198):=fS;refine(AW 133 rfl).ok S UY (fun b0 _ _ _ _ _ H vs Q E hr h=>?_);obtain⟨a,r,l,as,rfl,hl,Dc,hk,hm,h⟩:=h;obtain⟨x0,rfl⟩:=CZ hk;obtain⟨b0,rfl⟩:=CZ hm;refine⟨_,(pR (pD hr ACi (AB (AY Ah (pv 0) AE) (AB (AY Ah (pv 1) AE) AL)))),?_⟩;refine(wA hl) _ ?_;refine(wA Dc) _ ?_;exact h
def AC2:Df "call_sum" 10 ["numbers","rows"] (HA Tq 1 1):=by
 have S:Bj ["numbers","rows"] ["numbers","rows"] (sc 199):=fS;refine(AW 134 rfl).ok S UY (fun b0 _ _ _ _ _ H vs Q E hr h=>?_);obtain⟨a,r,l,as,rfl,hl,Dc,hk,hm,h⟩:=h;obtain⟨x0,rfl⟩:=CZ hk;obtain⟨b0,rfl⟩:=CZ hm;refine⟨_,(pR (pD hr AAB (AB (AY Ah (pv 0) AE) (AB (AY Ah (pv 1) AE) AL)))),?_⟩;refine(wA hl) _ ?_;refine(wA Dc) _ ?_;exact h
def AC3:Df "call_dot" 10 ["numbers","rows"] (HA Tr 1 2):=by
 have S:Bj ["numbers","rows"] ["numbers","rows"] (sc 200):=fS;refine(AW 135 rfl).ok S UY (fun b0 _ _ _ _ _ H vs Q E hr h=>?_);obtain⟨a,r,l,as,rfl,hl,Dc,hk,hm,h⟩:=h;obtain⟨x0,rfl⟩:=CZ hk;obtain⟨b0,b1,rfl⟩:=DB hm;refine⟨_,(pR (pD hr AAD (AB (AY Ah (pv 0) AE) (AB (AY Ah (pv 1) AE) (AB (AY Ah (pv 1) AE) AL))))),?_⟩;refine(wA hl) _ ?_;refine(wA Dc) _ ?_;refine(wA Dc) _ ?_;exact h
def AC4:Df "call_poly" 11 ["numbers","rows"] (HA Ts 2 1):=by
 have S:Bj ["numbers","rows"] ["numbers","rows"] (sc 201):=fS;refine(AW 136 rfl).ok S UY (fun b0 _ _ _ _ _ H vs Q E hr h=>?_);obtain⟨a,r,l,as,rfl,hl,Dc,hk,hm,h⟩:=h;obtain⟨x0,x1,rfl⟩:=DB hk;obtain⟨b0,rfl⟩:=CZ hm;refine⟨_,(pR (pD hr AAJ (AB (AY Ah (pv 0) AE) (AB (AY Ah (pv 0) AE) (AB (AY Ah (pv 1) AE) AL))))),?_⟩;refine(wA hl) _ ?_;refine(wA hl) _ ?_;refine(wA Dc) _ ?_;exact h
end
open QM (Dk)
def UZ(D:Mt CX C m k ps sp)(hx:G2 CX X E)(he:PE X o ta)(c:F4 L2.K C)(hr:CU k X.A)(ha:PA X (e::es) t)
 (El:starEach (e::es) X.env=(false,eval e X.env)::starEach es X.env:=by rfl)(CB:(backTo pos (starEach es X.env)).any (·.1)=false:=by rfl)
 (ht:eval (.Call (.Attribute o m apos) (e::es) [] pos) X.env=(do
   let ov<-eval o X.env
   standAt apos.atName
   let (f,first)<-holding [ov] (getMethod ov m pl)
   callWith pos f first (backTo pos (starEach (e::es) X.env)) (backToKw pos (keywordEach [] X.env))):=by rfl):
 PE X (.Call (.Attribute o m apos) (e::es) [] pos) (c9 C m sp [] E ta t):=by
 obtain⟨f,fd,M,F,hb⟩:=D.ex;exact rj (pl:=pl) he c M F hr hb .nil hx ha El CB ht
def AC5:(AF l).lookup ("empty":Str)=none:=by
 unfold AF;rw [DJ,AD (by decide+kernel)];rfl
def Yu:(AF l).lookup ("put":Str)=none:=by
 unfold AF;rw [DJ,AD (by decide+kernel)];rfl
def EY(h:AQ H H'):SameBut l H H':=fun b o _ e=>h b o e
def SameBut.trans(h:SameBut l H H1)(g:SameBut l H1 H2):SameBut l H H2:=fun b o n e=>g b o n (h b o n e)
section
variable{C:Addr}
def Yv(CR:Addr):Sp:=fun vs H Q E=> ∃a f b,vs=[.ref a]/\H a=some (.lst [.int f,.int b])/\(0<=f/\f<=3)/\A3 b/\(¬b.toNat<2^Ff f.toNat->E (.ref CR) none H)/\
 (b.toNat<2^Ff f.toNat-> ∀H' l,A2 H' l (Ds QUAD 0 (J8 f.toNat b.toNat))->AQ H H'->Q (.ref l) H')
def Yw:Pb L2.K CR Bn HX Ky HY:=⟨by kernel_rfl,AF6⟩
def Yx:mg "Refused"=some (.ref CR):=rat 22 rfl
def AC6:
 IH "call_from" 9 ["numbers"] (Yv CR):=by
 have S:Bj ["numbers"] ["numbers"] (sc 192):=fS;refine OC (AW 137 rfl) S (fun vs H Q E h=>?_) (fun _ _ _ _ _ _ H vs Q E hr h=>?_)
 ·obtain⟨a,f,b,rfl,_⟩:=h;rfl
 ·obtain⟨a,f,b,rfl,hl,hf,hb,qe,q⟩:=h;refine⟨_,(AJ (Ag (Ru (Bz (pD hr yE (AB (AY Ah (pv 0) AE) (AB (AY Ah (pv 0) AE) AL))))) (Cj (W8 Yw Yx rfl)) Ai) (pR (pD hr yM (AB (AY Ah (pv 0) AE) (AB (AY Ah (pv 0) AE) AL))))),?_⟩;refine(wA hl) _ ?_;refine(wA hl) _ ?_;refine⟨f,b,rfl,hf,hb,?_⟩;refine⟨_,rfl,?_⟩;by_cases c:b.toNat<2^Ff f.toNat
  ·rw [Bi c];refine(wA hl) _ ?_;refine(wA hl) _ ?_;exact⟨f,b,rfl,hf,⟨hb.1,c⟩,q c⟩
  ·rw [Bh c];exact qe c
def Yy(CA CS:Addr):Sp:=fun vs H Q _=> ∃(na a l:Addr)(st:List Acc)(k:Nat),vs=[.ref na,.ref a]/\H na=some (.lst [.int (k:Int)])/\Bu CA CS H a l st/\k<4/\
 ∀H' p,H' p=some (.lst [.int 0])->Bu CA CS H' a l (st.set k Et)->SameBut l H H'->Q (.ref p) H'
def AC7:Df "call_clear" 5 ["numbers","accumulators"] (Yy CA CS):=by
 refine(AW 138 rfl).go ["numbers","accumulators"] ?_;rintro _ _ _ _ _ _ _ H _ Q _ hr ⟨na,a,l,st,k,rfl,hl,ha,hk,q⟩;refine⟨_,(AJ (Kr (UZ AAU PY (pv 1) Gj.cl (hr.mono dd) (AB (AY Ah (pv 0) AE) AL))) (pR (Ay (AB AE AL)))),?_⟩;obtain⟨dx,Je,h1,_⟩:=id ha;refine⟨_,rfl,a,dx,_,rfl,h1,AC5,?_⟩;refine(wA hl) _ ?_;refine⟨a,l,st,k,rfl,ha,hk,fun H1 h1 s1=>?_⟩;exact⟨dz,fun p hp=>q _ p AZ (h1.same (AQ.new hp)) (s1.trans (EY (AQ.new hp)))⟩
def Yz(CA CS CT:Addr):Sp:=fun vs H Q E=> ∃(na a l:Addr)(st:List Acc)(k:Nat)(z:Int)(x:Acc),vs=[.ref na,.ref a]/\H na=some (.lst [.int (k:Int),.int z])/\Bu CA CS H a l st/\k<4/\st[k]? =some x/\A3 z/\
 (4294967295<x.terms+1-> ∀H',AQ H H'->E (.ref CT) none H')/\(x.terms+1<=4294967295-> ∀H' p,H' p=some (.lst [.int 0])->Bu CA CS H' a l (st.set k (x.term z.toNat))->SameBut l H H'->Q (.ref p) H')
def AC8:IH "call_term" 7 ["numbers","accumulators"] (Yz CA CS CT):=by
 have S:Bj ["numbers","accumulators"] ["numbers","accumulators"] (sc 203):=fS;refine OC (AW 139 rfl) S (fun vs H Q E h=>?_) (fun _ _ _ _ _ _ H vs Q E hr h=>?_)
 ·obtain⟨na,a,l,st,k,z,x,rfl,_⟩:=h;rfl
 ·obtain⟨na,a,l,st,k,z,x,rfl,hl,ha,hk,hx,hz,qe,q⟩:=h;refine⟨_,(AJ (Kr (UZ YL MF (pv 1) Gj.cl (hr.mono dd) (AB (AY Ah (pv 0) AE) (AB (pD hr iW (AB (AY Ah (pv 0) AE) AL)) AL)))) (pR (Ay (AB AE AL)))),?_⟩;obtain⟨dx,Je,h1,_⟩:=id ha;refine⟨_,rfl,a,dx,_,rfl,h1,Yu,?_⟩;refine(wA hl) _ ?_;refine(wA hl) _ ?_;refine⟨z,rfl,hz,fun H1 m hm s1=>?_⟩;refine⟨a,l,m,st,k,x,_,rfl,ha.same s1,hk,hx,hm,fun c=>qe (by rw [LD]at c;exact c) _ s1,fun c H2 h2 s2=>?_⟩;rw [LD]at c;refine⟨dz,fun p hp=>q c _ p AZ ?_ (((EY s1).trans s2).trans (EY (AQ.new hp)))⟩;show Bu CA CS _ a l (st.set k (x.put (AU QUAD z.toNat)));rw [QM.Tj];exact h2.same (AQ.new hp)
def Y0(CA CS CT:Addr):Sp:=fun vs H Q E=> ∃(na a l:Addr)(st:List Acc)(k:Nat)(z y:Int)(x:Acc),vs=[.ref na,.ref a]/\H na=some (.lst [.int (k:Int),.int z,.int y])/\Bu CA CS H a l st/\k<4/\st[k]? =some x/\A3 z/\A3 y/\
 (4294967295<x.terms+1-> ∀H',AQ H H'->E (.ref CT) none H')/\(x.terms+1<=4294967295-> ∀H' p,H' p=some (.lst [.int 0])->Bu CA CS H' a l (st.set k (x.product z.toNat y.toNat))->SameBut l H H'->Q (.ref p) H')
def AC9:IH "call_product" 7 ["numbers","accumulators"] (Y0 CA CS CT):=by
 have S:Bj ["numbers","accumulators"] ["numbers","accumulators"] (sc 204):=fS;refine OC (AW 140 rfl) S (fun vs H Q E h=>?_) (fun _ _ _ _ _ _ H vs Q E hr h=>?_)
 ·obtain⟨na,a,l,st,k,z,y,x,rfl,_⟩:=h;rfl
 ·obtain⟨na,a,l,st,k,z,y,x,rfl,hl,ha,hk,hx,hz,hy,qe,q⟩:=h;refine⟨_,(AJ (Kr (UZ YL MF (pv 1) Gj.cl (hr.mono dd) (AB (AY Ah (pv 0) AE) (AB (pD hr iX (AB (AY Ah (pv 0) AE) (AB (AY Ah (pv 0) AE) AL))) AL)))) (pR (Ay (AB AE AL)))),?_⟩;obtain⟨dx,Je,h1,_⟩:=id ha;refine⟨_,rfl,a,dx,_,rfl,h1,Yu,?_⟩;refine(wA hl) _ ?_;refine(wA hl) _ ?_;refine(wA hl) _ ?_;refine⟨z,y,rfl,hz,hy,fun H1 m hm s1=>?_⟩;refine⟨a,l,m,st,k,x,_,rfl,ha.same s1,hk,hx,hm,fun c=>qe (by rw [LD]at c;exact c) _ s1,fun c H2 h2 s2=>?_⟩;rw [LD]at c;refine⟨dz,fun p hp=>q c _ p AZ ?_ (((EY s1).trans s2).trans (EY (AQ.new hp)))⟩;show Bu CA CS _ a l (st.set k (x.put (GV (AU QUAD z.toNat) (AU QUAD y.toNat))));rw [QM.Tj];exact h2.same (AQ.new hp)
def kI{H:Hp}{na a l:Addr}{st:List Acc}{xs:List V}{j:Nat}{y:Acc}{i:Int}{σ:L2.St}{Q:VK}(T:ic K CA)(h0:σ[0]? =some (some (.ref na)))(h1:σ[1]? =some (some (.ref a)))(hl:H na=some (.lst xs))(ha:Bu CA CS H a l st)(hi:DX xs i=some (.int (j:Int)))(hy:st[j]? =some y)
 (q: ∀m,Dy CS H m y->Q (.ref m) H):Br (JG K) (BJ K (Aa 1) "sums") (Br (JG K) (Aa 0) (tC (.int i))) σ H Q:=by
 obtain⟨dx,Je,g1,g2,g3,g4,g5⟩:=ha;have hj:j<st.length:=(Fi.mp hy).1;obtain⟨b,hb⟩: ∃b,Je[j]? =some b:=⟨_,FY (by lia)⟩;exact(Ek (Ax (AH h1) g1 T.cl T.sums Tt) (Ek (AH h0) AI (BL hl) hi) (BL g2) (HQ (x:=V.ref b) (by rw [De,hb];rfl)):Ev _ _ _ _) _ (q b (g5 j b y hb hy))
def Y1(CA CS CT:Addr):Sp:=fun vs H Q E=> ∃(na a l:Addr)(st:List Acc)(k j:Nat)(x y:Acc),vs=[.ref na,.ref a]/\H na=some (.lst [.int (k:Int),.int (j:Int)])/\Bu CA CS H a l st/\k<4/\st[k]? =some x/\st[j]? =some y/\
 (4294967295<x.terms+y.terms-> ∀H',AQ H H'->E (.ref CT) none H')/\(x.terms+y.terms<=4294967295-> ∀H' p,H' p=some (.lst [.int 0])->Bu CA CS H' a l (st.set k (x.merge y))->SameBut l H H'->Q (.ref p) H')
def AC_:IH "call_merge" 5 ["numbers","accumulators"] (Y1 CA CS CT):=by
 have S:Bj ["numbers","accumulators"] ["numbers","accumulators"] (sc 205):=fS;refine OC (AW 141 rfl) S (fun vs H Q E h=>?_) (fun _ _ _ _ _ _ H vs Q E hr h=>?_)
 ·obtain⟨na,a,l,st,k,j,x,y,rfl,_⟩:=h;rfl
 ·obtain⟨na,a,l,st,k,j,x,y,rfl,hl,ha,hk,hx,hy,qe,q⟩:=h;refine⟨_,(AJ (Kr (UZ YL MF (pv 1) Gj.cl (hr.mono dd) (AB (AY Ah (pv 0) AE) (AB (AY Ah (AR (pv 1) rfl) (AY Ah (pv 0) AE)) AL)))) (pR (Ay (AB AE AL)))),?_⟩;obtain⟨dx,Je,h1,_⟩:=id ha;refine⟨_,rfl,a,dx,_,rfl,h1,Yu,?_⟩;refine(wA hl) _ ?_;refine kI Gj rfl rfl hl ha rfl hy fun m hm=>?_
  refine⟨a,l,m,st,k,x,y,rfl,ha,hk,hx,hm,fun c=>qe c _ (KN _),fun c H2 h2 s2=>?_⟩;exact⟨dz,fun p hp=>q c _ p AZ (h2.same (AQ.new hp)) (s2.trans (EY (AQ.new hp)))⟩
def Y2(CA CS:Addr):Sp:=fun vs H Q _=> ∃(na a l:Addr)(st:List Acc)(k:Nat)(m:Int)(x:Acc),vs=[.ref na,.ref a]/\H na=some (.lst [.int (k:Int),.int m])/\Bu CA CS H a l st/\st[k]? =some x/\(0<=m/\m<=4)/\
 ∀H' p,A2 H' p (x.get QUAD m.toNat)->AQ H H'->Q (.ref p) H'
def ADA:Df "call_get" 9 ["numbers","accumulators"] (Y2 CA CS):=by
 refine(AW 142 rfl).go ["numbers","accumulators"] ?_;rintro _ _ _ _ _ _ _ H _ Q _ hr ⟨na,a,l,st,k,m,x,rfl,hl,ha,hx,hm,q⟩;refine⟨_,(pR (pD hr YI (AB (AY Ah (AR (pv 1) rfl) (AY Ah (pv 0) AE)) (AB (AY Ah (pv 0) AE) AL)))),?_⟩;refine kI Gj rfl rfl hl ha rfl hx fun p hp=>?_
 refine(wA hl) _ ?_;exact⟨p,x,m,rfl,hp,hm,q⟩
end
def IW(p:Int×Int)(e:Lf x=p:=by decide+kernel):Bv Lf z x=true↔p.1<=z/\z<=p.2:=by
 subst e;unfold Bv;rw [BK,Bw,Bw]
def MZ(z:Int):Bv Lf z "quad"=true↔A3 z:=(IW (0,340282366920938463463374607431768211455)).trans (by unfold A3;dsimp only;lia)
def Y3(z:Int):Bv Lf z "mode"=true↔0<=z/\z<=4:=IW (0,4)
def Ma(z:Int):Bv Lf z "to 3"=true↔0<=z/\z<=3:=IW (0,3)
def Mb(z:Int):Kk z 128=true↔A3 z:=by
 have e:(2:Int)^128=340282366920938463463374607431768211456:=by decide+kernel
 unfold Kk A3;rw [e];simp only [BK,Bw]
def Ua(z:Int):FC z=true↔0<=z/\z<=4294967295:=by
 unfold FC;simp only [BK,Bw]
def LN(n:Nat):Kl n=true↔n<=4:=by
 unfold Kl;simp only [Bw]
def Mc(h:b=true):Km b f=f ():=AG h
def Md(h:b=false):Km b f=cG:=by
 rw [h];rfl
noncomputable def Good(CR CT CA CS a lA:Addr)(st:List Acc)(cc:List (List Int))(H:Hp)(Q:VK)(E:XK):Prop:=
 (Be st cc=(st,[-1])-> ∀H',AQ H H'->E (.ref CR) none H')/\(Be st cc=(st,[-2])-> ∀H',AQ H H'->E (.ref CT) none H')/\
 ∀Em GB,Be st cc=(Em,0::GB)->GB.length<=30000-> ∀H' p,H' p=some (.lst (GB.map V.int))->Bu CA CS H' a lA Em->SameBut lA H H'->Q (.ref p) H'
def GC{st:List Acc}(h:cH cc=some x):Be st cc=((Lw st x).1,Hx (Lw st x).2):=by
 unfold Be;rw [h]
inductive Kd where
 |q
 |m
 |e
 |t1
 |t2
 |t3
 |t4
 |t9
 |tk
noncomputable def Kd.wd:Kd->Str
 |.q=>"quad"
 |.m=>"mode"
 |.e=>"exponent"
 |.t1=>"to 1"
 |.t2=>"to 2"
 |.t3=>"to 3"
 |.t4=>"to 4"
 |.t9=>"to 9"
 |.tk=>"to 1000"
noncomputable def Kd.ask:Kd->Int->Bool
 |.q,z=>Kk z 128
 |.e,z=>decide (-2147483648<=z)&&decide (z<=2147483647)
 |_,z=>FC z
noncomputable def Kd.nn:Kd->Nat
 |.t1=>1
 |.t2=>2
 |.t3=>3
 |.t9=>9
 |.tk=>1000
 |_=>4
noncomputable def Kd.cond:Kd->Int->Bool
 |.q,_=>true
 |.m,z=>Kl z.toNat
 |.e,z=>decide (z.natAbs<=qU)
 |k,z=>decide (z.toNat<=k.nn)
noncomputable def Kd.ii:Kd->Int
 |.t1=>1
 |.t2=>2
 |.t3=>3
 |.t9=>9
 |.tk=>1000
 |_=>4
noncomputable def Kd.bd:Kd->Int->Prop
 |.q,z=>A3 z
 |.e,z=> -40000<=z/\z<=40000
 |k,z=>0<=z/\z<=k.ii
def kJ: ∀k:Kd,Bv Lf z k.wd=true↔k.bd z
 |.q=>MZ z
 |.m=>IW (0,4)
 |.e=>IW (-40000,40000)
 |.t1=>IW (0,1)
 |.t2=>IW (0,2)
 |.t3=>IW (0,3)
 |.t4=>IW (0,4)
 |.t9=>IW (0,9)
 |.tk=>IW (0,1000)
def ADB{k:Kd}{z:Int}(h:k.ask z=true):Bv Lf z k.wd=k.cond z:=by
 rw [Hn,kJ];have e1:qU=40000:=rfl;cases k
 ·exact⟨fun _=>rfl,fun _=>(Mb z).mp h⟩
 ·have h:=(Ua z).mp h;show 0<=z/\z<=4↔Kl z.toNat=true;rw [LN];lia
 ·show -40000<=z/\z<=40000↔decide (z.natAbs<=qU)=true;rw [Bw];lia
 all_goals
  have h:=(Ua z).mp h;refine Iff.trans ?_ V_.symm;unfold Kd.bd Kd.nn Kd.ii;dsimp only;lia
noncomputable def LO:List Kd->List Int->Bool
 | [k],[z]=>k.ask z
 |k::ks,z::zs=>k.ask z&&LO ks zs
 |_,_=>true
noncomputable def KI:List Kd->List Int->Bool
 |k::ks,z::zs=>k.cond z&&KI ks zs
 |_,_=>true
noncomputable def N8:List Kd->List Int->Prop
 | [k],[z]=>k.bd z
 |k::ks,z::zs=>k.bd z/\N8 ks zs
 |_,_=>True
def ADC{k:Kd}{ks:List Kd}{z:Int}{zs:List Int}(h:LO (k::ks) (z::zs)=true):k.ask z=true/\LO ks zs=true:=by
 cases ks with
 |nil=>
  cases zs with
  |nil=>exact⟨h,rfl⟩
  |cons=>exact⟨(bG.mp h).1,rfl⟩
 |cons=>exact bG.mp h
def ADD{k:Kd}{ks:List Kd}{z:Int}{zs:List Int}(h:k.bd z)(h':N8 ks zs):N8 (k::ks) (z::zs):=by
 cases ks with
 |nil=>
  cases zs with
  |nil=>exact h
  |cons=>exact⟨h,h'⟩
 |cons=>exact⟨h,h'⟩
def kK: ∀{ks:List Kd}{l:List Int},LO ks l=true->((l.zip (ks.map Kd.wd)).all fun p=>Bv Lf p.1 p.2)=KI ks l
 | [],l,_=>by rw [RL,AFw];rfl
 |k::ks,[],_=>rfl
 |k::ks,z::zs,h=>by
  obtain⟨h1,h2⟩:=ADC h;show(Bv Lf z k.wd&&_)=(k.cond z&&KI ks zs);rw [ADB h1,<-kK h2];rfl
def kL: ∀{ks:List Kd}{l:List Int},((l.zip (ks.map Kd.wd)).all fun p=>Bv Lf p.1 p.2)=true->N8 ks l
 | [],l,_=>by unfold N8;trivial
 |k::ks,[],_=>by cases ks<;>exact trivial
 |k::ks,z::zs,h=>by
  have h:(Bv Lf z k.wd&&_)=true:=h;rw [BK]at h;exact ADD ((kJ k).mp h.1) (kL h.2)
def Y4(ks:List Kd)(ha:LO ks l=true)(hw:Wf n=ks.map Kd.wd:=by exact rfl):Bx Wf Lf n l=KI ks l:=by
 unfold Bx;rw [hw,kK ha]
def E3(ks:List Kd)(h:Bx Wf Lf n l=true)(hw:Wf n=ks.map Kd.wd:=by exact rfl):N8 ks l:=by
 unfold Bx at h;rw [hw]at h;exact kL h
section
variable{a lA nl:Addr}{st:List Acc}{H:Hp}{Q:VK}{E:XK}{l:List Int}{n:Int}{c:Bool}{x:Wrquad.Call}{f:Unit->cF}{y:cF}
def Ub{z:Int}(h:0<=z/\z<=1):z=0\/z=1:=by lia
def Gn(ks:List Kd)(h:Bx Wf Lf n l=false)(ha:LO ks l=true)(hx:cH [n::l]=some x)(hs:Lw st x=(st,Ce x))(he:Ce x=Km c f:=by unfold Ce;exact rfl)(hc:KI ks l=c:=by first|rfl|exact cI _ _| (simp only [KI,Kd.cond,B8,GU,Kd.nn];first|rfl|exact cI _ _))(hw:Wf n=ks.map Kd.wd:=by exact rfl):Be st [n::l]=(st,[-1]):=by
 rw [GC hx,hs,he,Md (by rw [<-hc,<-Y4 ks ha hw];exact h)];rfl
def Uc(ks:List Kd)(h:Bx Wf Lf n l=false)(ha:LO ks l=true)(hc:KI ks l=true)(hw:Wf n=ks.map Kd.wd:=by exact rfl):Be st [n::l]=(st,[-1]):=by
 rw [Y4 ks ha hw,hc]at h;cases h
def Gp(ks:List Kd)(h:Bx Wf Lf n l=true)(ha:LO ks l=true)(hx:cH [n::l]=some x)(hs:Lw st x=(st,Ce x))(he:Ce x=Km c f:=by unfold Ce;exact rfl)(hc:KI ks l=c:=by first|rfl|exact cI _ _| (simp only [KI,Kd.cond,B8,GU,Kd.nn];first|rfl|exact cI _ _))(hw:Wf n=ks.map Kd.wd:=by exact rfl):Be st [n::l]=(st,Hx (f ())):=by
 rw [GC hx,hs,he,Mc (by rw [<-hc,<-Y4 ks ha hw];exact h)]
def goU(hx:cH [n::l]=some x)(he:Lw st x=(st,y)):Be st [n::l]=(st,Hx y):=by
 rw [GC hx,he]
def Good.fin(g:Good CR CT CA CS a lA st cc H Q E)(hc:Bu CA CS H a lA st)(e:Be st cc=(st,0::GB))(hn:Nat.ble GB.length 30000=true)(H':Hp)(p:Addr)(h:H' p=some (.lst (GB.map V.int)))(s:AQ H H'):Q (.ref p) H':=
 g.2.2 _ _ e (GX hn) H' p h (hc.same s) (EY s)
def Good.E5{cc:List (List Int)}{t:List UInt8}{b:Nat}(g:Good CR CT CA CS a lA st cc H Q E)(hc:Bu CA CS H a lA st)(e:Be st cc=(st,0::(t.length:Int)::t.map fun (c:UInt8)=>(c.toNat:Int)))(hb:b<=29999)(H':Hp)(p:Addr)(h:H' p=some (.lst (V.int t.length::t.map fun c=>V.int (c.toNat:Int))))(hn:t.length<=b)(s:AQ H H'):Q (.ref p) H':=
 g.2.2 _ _ e (by rw [BU,A5];lia) H' p (by rw [Fj,Ir];exact h) (hc.same s) (EY s)
abbrev No(n:Int)(k:Nat):Prop:= ∀{st:List Acc}{l:List Int},l.length=k->EF [n::l]=true->Bx Wf Lf n l=false->Be st [n::l]=(st,[-1])
abbrev Go(n:Int)(k:Nat)(sp:Sp):Prop:= ∀{a lA nl:Addr}{st:List Acc}{H:Hp}{Q:VK}{E:XK}{l:List Int},H nl=some (.lst (l.map V.int))->l.length=k->EF [n::l]=true->Bx Wf Lf n l=true->Bu CA CS H a lA st->Good CR CT CA CS a lA st [n::l] H Q E->CH sp k [.ref nl] H Q E
def no0:No 0 4:=fun hk ha h=>by
 obtain⟨x0,x1,x2,x3,rfl⟩:=len4 hk;exact Gn [.t3,.q,.q,.m] h ha rfl rfl
def go0:Go 0 4 TB:= @fun _ _ _ st _ _ _ _ hl hk ha h hc g=>by
 obtain⟨x0,x1,x2,x3,rfl⟩:=len4 hk;obtain⟨b0,b1,b2,b3⟩:=E3 [.t3,.q,.q,.m] h;have e:=Gp (st:=st) [.t3,.q,.q,.m] h ha rfl rfl;exact⟨_,_,rfl,hl,rfl,x0,x1,x2,x3,rfl,b0,b1,b2,b3,fun H p=>g.fin hc e rfl H p⟩
def no1:No 1 2:=fun hk ha h=>by
 obtain⟨x0,x1,rfl⟩:=DB hk;exact Gn [.q,.m] h ha rfl rfl
def go1:Go 1 2 TF:= @fun _ _ _ st _ _ _ _ hl hk ha h hc g=>by
 obtain⟨x0,x1,rfl⟩:=DB hk;obtain⟨b0,b1⟩:=E3 [.q,.m] h;have e:=Gp (st:=st) [.q,.m] h ha rfl rfl;exact⟨_,_,rfl,hl,rfl,x0,x1,rfl,b0,b1,fun H p=>g.fin hc e rfl H p⟩
def no2:No 2 5:=fun hk ha h=>by
 obtain⟨x0,x1,x2,x3,x4,rfl⟩:=UX hk;exact Gn [.q,.q,.q,.t3,.m] h ha rfl rfl
def go2:Go 2 5 TH:= @fun _ _ _ st _ _ _ _ hl hk ha h hc g=>by
 obtain⟨x0,x1,x2,x3,x4,rfl⟩:=UX hk;obtain⟨b0,b1,b2,b3,b4⟩:=E3 [.q,.q,.q,.t3,.m] h;have e:=Gp (st:=st) [.q,.q,.q,.t3,.m] h ha rfl rfl;exact⟨_,_,rfl,hl,rfl,x0,x1,x2,x3,x4,rfl,b0,b1,b2,b3,b4,fun H p=>g.fin hc e rfl H p⟩
def no3:No 3 3:=fun hk ha h=>by
 obtain⟨x0,x1,x2,rfl⟩:=Cn hk;exact Gn [.q,.q,.t1] h ha rfl rfl
def go3:Go 3 3 TM:= @fun _ _ _ st _ _ _ _ hl hk ha h hc g=>by
 obtain⟨x0,x1,x2,rfl⟩:=Cn hk;obtain⟨b0,b1,b2⟩:=E3 [.q,.q,.t1] h;have e:=Gp (st:=st) [.q,.q,.t1] h ha rfl rfl;exact⟨_,_,rfl,hl,rfl,x0,x1,x2,rfl,b0,b1,(Ub b2),fun H p=>g.fin hc e rfl H p⟩
def no4:No 4 3:=fun hk ha h=>by
 obtain⟨x0,x1,x2,rfl⟩:=Cn hk;exact Gn [.q,.e,.m] h ha rfl rfl
def go4:Go 4 3 TN:= @fun _ _ _ st _ _ _ _ hl hk ha h hc g=>by
 obtain⟨x0,x1,x2,rfl⟩:=Cn hk;obtain⟨b0,b1,b2⟩:=E3 [.q,.e,.m] h;have e:=Gp (st:=st) [.q,.e,.m] h ha rfl rfl;exact⟨_,_,rfl,hl,rfl,x0,x1,x2,rfl,b0,b1,b2,fun H p=>g.fin hc e rfl H p⟩
def no5:No 5 3:=fun hk ha h=>by
 obtain⟨x0,x1,x2,rfl⟩:=Cn hk;exact Gn [.q,.t1,.m] h ha rfl rfl
def go5:Go 5 3 TQ:= @fun _ _ _ st _ _ _ _ hl hk ha h hc g=>by
 obtain⟨x0,x1,x2,rfl⟩:=Cn hk;obtain⟨b0,b1,b2⟩:=E3 [.q,.t1,.m] h;have e:=Gp (st:=st) [.q,.t1,.m] h ha rfl rfl;exact⟨_,_,rfl,hl,rfl,x0,x1,x2,rfl,b0,(Ub b1),b2,fun H p=>g.fin hc e rfl H p⟩
def no6:No 6 2:=fun hk ha h=>by
 obtain⟨x0,x1,rfl⟩:=DB hk;exact Gn [.q,.t1] h ha rfl rfl
def go6:Go 6 2 TU:= @fun _ _ _ st _ _ _ _ hl hk ha h hc g=>by
 obtain⟨x0,x1,rfl⟩:=DB hk;obtain⟨b0,b1⟩:=E3 [.q,.t1] h;have e:=Gp (st:=st) [.q,.t1] h ha rfl rfl;exact⟨_,_,rfl,hl,rfl,x0,x1,rfl,b0,(Ub b1),fun H p=>g.fin hc e rfl H p⟩
def no7:No 7 1:=fun hk ha h=>by
 obtain⟨x0,rfl⟩:=CZ hk;exact Uc [.q] h ha rfl
def go7:Go 7 1 TV:=fun hl hk ha h hc g=>by
 obtain⟨x0,rfl⟩:=CZ hk;have b0:=E3 [.q] h;exact⟨_,_,rfl,hl,rfl,x0,rfl,b0,fun H p h s=>g.2.2 _ _ rfl (GX rfl) H p h (hc.same s) (EY s)⟩
def no8:No 8 3:=fun hk ha h=>by
 obtain⟨x0,x1,x2,rfl⟩:=Cn hk;exact Gn [.q,.q,.t1] h ha rfl rfl
def go8:Go 8 3 TY:= @fun _ _ _ st _ _ _ _ hl hk ha h hc g=>by
 obtain⟨x0,x1,x2,rfl⟩:=Cn hk;obtain⟨b0,b1,b2⟩:=E3 [.q,.q,.t1] h;have e:=Gp (st:=st) [.q,.q,.t1] h ha rfl rfl;exact⟨_,_,rfl,hl,rfl,x0,x1,x2,rfl,b0,b1,(Ub b2),fun H p=>g.fin hc e rfl H p⟩
def no9:No 9 3:=fun hk ha h=>by
 obtain⟨x0,x1,x2,rfl⟩:=Cn hk;exact Gn [.q,.q,.t2] h ha rfl rfl
def go9:Go 9 3 TZ:= @fun _ _ _ st _ _ _ _ hl hk ha h hc g=>by
 obtain⟨x0,x1,x2,rfl⟩:=Cn hk;obtain⟨b0,b1,b2⟩:=E3 [.q,.q,.t2] h;have e:=Gp (st:=st) [.q,.q,.t2] h ha rfl rfl;exact⟨_,_,rfl,hl,rfl,x0,x1,x2,rfl,b0,b1,b2,fun H p=>g.fin hc e rfl H p⟩
def ADE:No 10 3:=fun hk ha h=>by
 obtain⟨x0,x1,x2,rfl⟩:=Cn hk;exact Gn [.q,.q,.t4] h ha rfl rfl
def ADF:Go 10 3 Tb:= @fun _ _ _ st _ _ _ _ hl hk ha h hc g=>by
 obtain⟨x0,x1,x2,rfl⟩:=Cn hk;obtain⟨b0,b1,b2⟩:=E3 [.q,.q,.t4] h;have e:=Gp (st:=st) [.q,.q,.t4] h ha rfl rfl;exact⟨_,_,rfl,hl,rfl,x0,x1,x2,rfl,b0,b1,b2,fun H p=>g.fin hc e rfl H p⟩
def ADG:No 11 2:=fun hk ha h=>by
 obtain⟨x0,x1,rfl⟩:=DB hk;exact Uc [.q,.q] h ha rfl
def ADH:Go 11 2 Ta:=fun hl hk ha h hc g=>by
 obtain⟨x0,x1,rfl⟩:=DB hk;obtain⟨b0,b1⟩:=E3 [.q,.q] h;exact⟨_,_,rfl,hl,rfl,x0,x1,rfl,b0,b1,fun H p h s=>g.2.2 _ _ rfl (GX rfl) H p h (hc.same s) (EY s)⟩
def ADI:No 12 1:=fun hk ha h=>by
 obtain⟨x0,rfl⟩:=CZ hk;exact Uc [.q] h ha rfl
def ADJ:Go 12 1 Tc:=fun hl hk ha h hc g=>by
 obtain⟨x0,rfl⟩:=CZ hk;have b0:=E3 [.q] h;exact⟨_,_,rfl,hl,rfl,x0,rfl,b0,fun H p h s=>g.2.2 _ _ rfl (GX rfl) H p h (hc.same s) (EY s)⟩
def ADK:No 14 3:=fun hk ha h=>by
 obtain⟨x0,x1,x2,rfl⟩:=Cn hk;exact Gn [.t3,.q,.m] h ha rfl rfl
def ADL:Go 14 3 Td:= @fun _ _ _ st _ _ _ _ hl hk ha h hc g=>by
 obtain⟨x0,x1,x2,rfl⟩:=Cn hk;obtain⟨b0,b1,b2⟩:=E3 [.t3,.q,.m] h;have e:Be st [[14,x0,x1,x2]]=(st,[0,((QB x0.toNat x2.toNat (AU QUAD x1.toNat)).1:Int),((QB x0.toNat x2.toNat (AU QUAD x1.toNat)).2:Int)]):=(Gp [.t3,.q,.m] h ha rfl rfl).trans (by
  unfold QB WrquadNeutral.n_;by_cases c:x0.toNat=3
  ·rw [AG c,AG c];rfl
  rw [AD c,AD c];rfl)
 exact⟨_,_,rfl,hl,rfl,x0,x1,x2,rfl,b0,b1,b2,fun H p=>g.fin hc e rfl H p⟩
def ADM:No 15 3:=fun hk ha h=>by
 obtain⟨x0,x1,x2,rfl⟩:=Cn hk;exact Gn [.t9,.q,.m] h ha rfl rfl
def ADN:Go 15 3 Th:= @fun _ _ _ st _ _ _ _ hl hk ha h hc g=>by
 obtain⟨x0,x1,x2,rfl⟩:=Cn hk;obtain⟨b0,b1,b2⟩:=E3 [.t9,.q,.m] h;have e:=Gp (st:=st) [.t9,.q,.m] h ha rfl rfl;exact⟨_,_,rfl,hl,rfl,x0,x1,x2,rfl,b0,b1,b2,fun H p=>g.fin hc e rfl H p⟩
def ADO:No 16 3:=fun hk ha h=>by
 obtain⟨x0,x1,x2,rfl⟩:=Cn hk;exact Gn [.t9,.q,.m] h ha rfl rfl
def ADP:Go 16 3 Ti:= @fun _ _ _ st _ _ _ _ hl hk ha h hc g=>by
 obtain⟨x0,x1,x2,rfl⟩:=Cn hk;obtain⟨b0,b1,b2⟩:=E3 [.t9,.q,.m] h;have e:=Gp (st:=st) [.t9,.q,.m] h ha rfl rfl;exact⟨_,_,rfl,hl,rfl,x0,x1,x2,rfl,b0,b1,b2,fun H p=>g.fin hc e rfl H p⟩
def ADQ:No 17 3:=fun hk ha h=>by
 obtain⟨x0,x1,x2,rfl⟩:=Cn hk;exact Gn [.q,.tk,.m] h ha rfl rfl
def ADR:Go 17 3 UJ:= @fun _ _ _ st _ _ _ _ hl hk ha h hc g=>by
 obtain⟨x0,x1,x2,rfl⟩:=Cn hk;obtain⟨b0,b1,b2⟩:=E3 [.q,.tk,.m] h;have h0:=h;refine⟨_,_,rfl,hl,rfl,x0,x2,x1.toNat,?_,b0,(by have :x1<=1000:=b1.2;lia),b2,fun H' p h s=>?_⟩
 ·rw [FA b1.1];rfl
 unfold MW tn at h;rw [A5,Ir]at h;have e:=Gp (st:=st) [.q,.tk,.m] h0 ha rfl rfl;exact g.E5 hc e dd H' p h.1 h.2 s
def ADS:No 18 1:=fun hk ha h=>by
 obtain⟨x0,rfl⟩:=CZ hk;exact Uc [.q] h ha rfl
def ADT:Go 18 1 UK:=fun hl hk ha h hc g=>by
 obtain⟨x0,rfl⟩:=CZ hk;have b0:=E3 [.q] h;refine⟨_,_,rfl,hl,rfl,x0,rfl,b0,fun H' p h s=>?_⟩;unfold MW tn at h;rw [A5,Ir]at h;exact g.E5 (t:=Qu.showHex x0.toNat) hc rfl dd H' p h.1 h.2 s
def ADU(h:Bx Wf Lf 13 [x0,x1]=true):(0<=x0/\x0<=3)/\A3 x1:=E3 [.t3,.q] h
end
section
variable{a lA nl rl:Addr}{st:List Acc}{H:Hp}{Q:VK}{E:XK}{l:List Int}{xs:List (List Int)}{K:Aj}
def Bu.len4(h:Bu CA CS H a lA st):st.length=4:=by
 obtain⟨_,_,_,_,_,h,_⟩:=h;exact h
def ADV{f b:Nat}(hf:f<=3):Ce (.from_ f b)=Km (decide (b<2^Ff f)) fun _=>WB (Ds QUAD 0 (J8 f b)):=by
 unfold Ce;dsimp only;unfold Ff J8;by_cases c:f=3
 ·rw [AG c,AG c,AG c];rfl
 ·rw [AD c,AD c,AD c,Bi (show f<=2 by lia),GU];rfl
def kM{x0 x1:Int}:Be st [[13,x0,x1]]=(st,Hx (Ce (.from_ x0.toNat x1.toNat))):=by
 rw [GC (x:=.from_ x0.toNat x1.toNat) rfl];rfl
def ADW(hk:l.length=2)(ha:EF [13::l]=true)(h:Bx Wf Lf 13 l=false):Be st [13::l]=(st,[-1]):=by
 obtain⟨x0,x1,rfl⟩:=DB hk;have ha:(FC x0&&Kk x1 128)=true:=ha;have c: ¬x0.toNat<=3:=fun c=>by
  have :(Bv Lf x0 "to 3"&&(Bv Lf x1 "quad"&&true))=true:=by
   (simp only [BK,Bw,MZ,Y3,Ma,Mb,Ua,LN,true_and,Oy,iff_true]at ha⊢)
   exact⟨by lia,ha.2⟩
  rw [show Bx Wf Lf 13 [x0,x1]=(Bv Lf x0 "to 3"&&(Bv Lf x1 "quad"&&true))from rfl,this]at h;cases h
 rw [kM];unfold Ce;dsimp only;rw [AD (by lia),Bh (by lia),RG];rfl
def ADX(hl:H nl=some (.lst (l.map V.int)))(hk:l.length=2)(h:Bx Wf Lf 13 l=true)(hc:Bu CA CS H a lA st)(g:Good CR CT CA CS a lA st [13::l] H Q E):Yv CR [.ref nl] H Q E:=by
 obtain⟨x0,x1,rfl⟩:=DB hk;obtain⟨b0,b1⟩:=ADU h;have e:=kM (st:=st) (x0:=x0) (x1:=x1);rw [ADV (by lia)]at e;refine⟨nl,x0,x1,rfl,hl,b0,b1,fun c=>?_,fun c H' p h s=>?_⟩
 ·rw [Md (Bh c)]at e;exact g.1 e H (KN _)
 ·rw [Mc (Bi c)]at e;exact g.2.2 _ _ e (GX rfl) H' p h (hc.same s) (EY s)
def Y5(h:Gi K H rl [x]): ∃b,H rl=some (.lst [.ref b])/\H b=some (.lst (x.map V.int)):=by
 obtain⟨as,h1,h2,h3⟩:=h;obtain⟨b,rfl⟩:=CZ h2;exact⟨b,h1,h3 0 b x rfl rfl⟩
def ADY(h:Gi K H rl [x,y]): ∃b c,H rl=some (.lst [.ref b,.ref c])/\H b=some (.lst (x.map V.int))/\H c=some (.lst (y.map V.int)):=by
 obtain⟨as,h1,h2,h3⟩:=h;obtain⟨b,c,rfl⟩:=DB h2;exact⟨b,c,h1,h3 0 b x rfl rfl,h3 1 c y rfl rfl⟩
def Ud(h:l.all Lx=true): ∀z∈l,A3 z:=fun z hz=>(Mb z).mp (GS.mp h z hz)
def N9{n m:Int}{x:List Int}(hR:Rf n=[m]):D9 Rf n [x]=decide ((x.length:Int)<=m):=by
 unfold D9;rw [hR];show((decide ((x.length:Int)<=m)&&decide (x.length=x.length))&&true)=_;rw [Bi rfl,B8,B8]
def kO:D9 Rf 21 [x,y]=(decide (x.length<=64)&&decide (x.length=y.length)):=by
 show((decide ((x.length:Int)<=64)&&decide (x.length=x.length))&&((decide ((y.length:Int)<=64)&&decide (y.length=x.length))&&true))=_;rw [Hn];simp only [BK,Bw,Oy];lia
def N_{n:Int}{z:Int}(h:Wf n=[("mode":Str)]):Bx Wf Lf n [z]=(Bv Lf z "mode"&&true):=by
 unfold Bx;rw [h];rfl
def KJ{z:Int}(h:0<=z):(Bv Lf z "mode"&&true)=Kl z.toNat:=by
 rw [Hn];simp only [BK,Y3,LN,Oy];lia
def kP{r:Int}{t:List Int}:Be st [[19,r],t]=(st,Hx (Km (Kl r.toNat&&decide ((GA t).length<=512)) fun _=>.had (Rn (GA t) r.toNat).1 (Rn (GA t) r.toNat).2.1 (Rn (GA t) r.toNat).2.2)):=by
 rw [GC (x:=.read (GA t) r.toNat) rfl];rfl
def kQ{r:Int}{t:List Int}:Be st [[20,r],t]=(st,Hx (Km (Kl r.toNat&&decide ((t.map CK).length<=64)) fun _=>WB (Qu.sumRow r.toNat (t.map CK)))):=by
 rw [GC (x:=.sum (t.map CK) r.toNat) rfl];rfl
def kS{r:Int}{t u:List Int}:Be st [[21,r],t,u]=(st,Hx (Km (Kl r.toNat&&(decide ((t.map CK).length<=64)&&decide ((t.map CK).length=(u.map CK).length))) fun _=>WB (Qu.dotRow r.toNat ((t.map CK).zip (u.map CK))))):=by
 rw [GC (x:=.dot (t.map CK) (u.map CK) r.toNat) rfl];rfl
def kT{x r:Int}{t:List Int}:Be st [[22,x,r],t]=(st,Hx (Km (Kl r.toNat&&decide ((t.map CK).length<=64)) fun _=>WB (Qu.poly r.toNat x.toNat (t.map CK)))):=by
 rw [GC (x:=.poly (t.map CK) x.toNat r.toNat) rfl];rfl
def E4{z:Int}(h:FC z=true):0<=z:=((Ua z).mp h).1
def OA{m:Int}{k:Nat}(t:List Int)(h:m=(k:Int)):decide ((t.length:Int)<=m)=decide (t.length<=k):=by
 rw [Hn,Bw,Bw];lia
def ADZ{t:List Int}(hk:l.length=1)(ha:EF [19::l,t]=true)(h:(Bx Wf Lf 19 l&&D9 Rf 19 [t])=false):Be st [19::l,t]=(st,[-1]):=by
 obtain⟨r,rfl⟩:=CZ hk;have ha:(FC r&&t.all _)=true:=ha;rw [BK]at ha;rw [N_ rfl,KJ (E4 ha.1),N9 (m:=512) rfl,OA (m:=512) (k:=512) _ rfl]at h;have e:(GA t).length=t.length:=A5 _;rw [kP,e,Md h];rfl
def ADa{t:List Int}(hl:H nl=some (.lst (l.map V.int)))(hx:Gi K H rl [t])(hk:l.length=1)(ha:EF [19::l,t]=true)(h:(Bx Wf Lf 19 l&&D9 Rf 19 [t])=true)(hc:Bu CA CS H a lA st)(g:Good CR CT CA CS a lA st [19::l,t] H Q E):HA UW 1 1 [.ref nl,.ref rl] H Q E:=by
 obtain⟨r,rfl⟩:=CZ hk;have ha:(FC r&&t.all (fun (z:Int)=>decide (0<=z)&&decide (z<=255)))=true:=ha;rw [BK]at ha;obtain⟨b,h1,h2⟩:=Y5 hx;rw [N_ rfl,KJ (E4 ha.1),N9 (m:=512) rfl,OA (m:=512) (k:=512) _ rfl]at h;have e:(GA t).length=t.length:=A5 _;have e1:=kP (st:=st) (r:=r) (t:=t);rw [e,Mc h]at e1;rw [BK,LN,Bw]at h;have h0:=E4 ha.1;refine⟨nl,rl,_,[b],rfl,hl,h1,rfl,rfl,b,t,r,rfl,⟨h2,fun z hz=>?_⟩,h.2,by lia,fun H' p h s=>?_⟩
 ·have :=GS.mp ha.2 z hz;rw [BK,Bw,Bw]at this;exact this
 ·exact g.2.2 _ _ e1 (GX rfl) H' p h (hc.same s) (EY s)
def ADb{t:List Int}(hk:l.length=1)(ha:EF [20::l,t]=true)(h:(Bx Wf Lf 20 l&&D9 Rf 20 [t])=false):Be st [20::l,t]=(st,[-1]):=by
 obtain⟨r,rfl⟩:=CZ hk;have ha:(FC r&&t.all Lx)=true:=ha;rw [BK]at ha;rw [N_ rfl,KJ (E4 ha.1),N9 (m:=64) rfl,OA (m:=64) (k:=64) _ rfl]at h;rw [kQ,A5,Md h];rfl
def ADc{t:List Int}(hl:H nl=some (.lst (l.map V.int)))(hx:Gi K H rl [t])(hk:l.length=1)(ha:EF [20::l,t]=true)(h:(Bx Wf Lf 20 l&&D9 Rf 20 [t])=true)(hc:Bu CA CS H a lA st)(g:Good CR CT CA CS a lA st [20::l,t] H Q E):HA Tq 1 1 [.ref nl,.ref rl] H Q E:=by
 obtain⟨r,rfl⟩:=CZ hk;have ha:(FC r&&t.all Lx)=true:=ha;rw [BK]at ha;obtain⟨b,h1,h2⟩:=Y5 hx;rw [N_ rfl,KJ (E4 ha.1),N9 (m:=64) rfl,OA (m:=64) (k:=64) _ rfl]at h;have e1:=kQ (st:=st) (r:=r) (t:=t);rw [A5,Mc h]at e1;rw [BK,LN,Bw]at h;have h0:=E4 ha.1;exact⟨nl,rl,_,[b],rfl,hl,h1,rfl,rfl,b,t,r,rfl,⟨h2,Ud ha.2⟩,h.2,by lia,fun H' p h s=>g.2.2 _ _ e1 (GX rfl) H' p h (hc.same s) (EY s)⟩
def ADd(hk:l.length=1)(ha:EF [21::l,t,u]=true)(h:(Bx Wf Lf 21 l&&D9 Rf 21 [t,u])=false):Be st [21::l,t,u]=(st,[-1]):=by
 obtain⟨r,rfl⟩:=CZ hk;have ha:(FC r&&(t.all Lx&&u.all Lx))=true:=ha;rw [BK]at ha;rw [N_ rfl,KJ (E4 ha.1),kO]at h;rw [kS,A5,A5,Md h];rfl
def ADe(hl:H nl=some (.lst (l.map V.int)))(hx:Gi K H rl [t,u])(hk:l.length=1)(ha:EF [21::l,t,u]=true)(h:(Bx Wf Lf 21 l&&D9 Rf 21 [t,u])=true)(hc:Bu CA CS H a lA st)(g:Good CR CT CA CS a lA st [21::l,t,u] H Q E):HA Tr 1 2 [.ref nl,.ref rl] H Q E:=by
 obtain⟨r,rfl⟩:=CZ hk;have ha:(FC r&&(t.all Lx&&u.all Lx))=true:=ha;rw [BK,BK]at ha;obtain⟨b,c,h1,h2,h3⟩:=ADY hx;rw [N_ rfl,KJ (E4 ha.1),kO]at h;have e1:=kS (st:=st) (r:=r) (t:=t) (u:=u);rw [A5,A5,Mc h]at e1;rw [BK,LN,BK,Bw,Bw]at h;have h0:=E4 ha.1;exact⟨nl,rl,_,[b,c],rfl,hl,h1,rfl,rfl,b,c,t,u,r,rfl,⟨h2,Ud ha.2.1⟩,⟨h3,Ud ha.2.2⟩,h.2.1,h.2.2,by lia,fun H' p h s=>g.2.2 _ _ e1 (GX rfl) H' p h (hc.same s) (EY s)⟩
def kU{x r:Int}:Bx Wf Lf 22 [x,r]=(Bv Lf x "quad"&&(Bv Lf r "mode"&&true)):=rfl
def ADf{t:List Int}(hk:l.length=2)(ha:EF [22::l,t]=true)(h:(Bx Wf Lf 22 l&&D9 Rf 22 [t])=false):Be st [22::l,t]=(st,[-1]):=by
 obtain⟨x,r,rfl⟩:=DB hk;have ha:(Kk x 128&&(FC r&&t.all Lx))=true:=ha;rw [BK,BK]at ha;rw [kU,(MZ x).mpr ((Mb x).mp ha.1),GU,KJ (E4 ha.2.1),N9 (m:=64) rfl,OA (m:=64) (k:=64) _ rfl]at h;rw [kT,A5,Md h];rfl
def ADg{t:List Int}(hl:H nl=some (.lst (l.map V.int)))(hx:Gi K H rl [t])(hk:l.length=2)(ha:EF [22::l,t]=true)(h:(Bx Wf Lf 22 l&&D9 Rf 22 [t])=true)(hc:Bu CA CS H a lA st)(g:Good CR CT CA CS a lA st [22::l,t] H Q E):HA Ts 2 1 [.ref nl,.ref rl] H Q E:=by
 obtain⟨x,r,rfl⟩:=DB hk;have ha:(Kk x 128&&(FC r&&t.all Lx))=true:=ha;rw [BK,BK]at ha;obtain⟨b,h1,h2⟩:=Y5 hx;rw [kU,(MZ x).mpr ((Mb x).mp ha.1),GU,KJ (E4 ha.2.1),N9 (m:=64) rfl,OA (m:=64) (k:=64) _ rfl]at h;have e1:=kT (st:=st) (x:=x) (r:=r) (t:=t);rw [A5,Mc h]at e1;rw [BK,LN,Bw]at h;have h0:=E4 ha.2.1;exact⟨nl,rl,_,[b],rfl,hl,h1,rfl,rfl,b,t,x,r,rfl,⟨h2,Ud ha.2.2⟩,h.2,(Mb x).mp ha.1,by lia,fun H' p h s=>g.2.2 _ _ e1 (GX rfl) H' p h (hc.same s) (EY s)⟩
def Y6{k n:Nat}{f:Acc->Acc}(h:st[k]? =none):I_ st k n f=(st,cG):=by
 unfold I_;rw [h]
def Y7{k n:Nat}{f:Acc->Acc}{x:Acc}(h:st[k]? =some x)(c:4294967295<x.terms+n):I_ st k n f=(st,.refused (-2)):=by
 unfold I_;rw [h];exact AG c
def Y8{k n:Nat}{f:Acc->Acc}{x:Acc}(h:st[k]? =some x)(c:x.terms+n<=4294967295):I_ st k n f=(st.set k (f x),.number 0):=by
 unfold I_;rw [h];exact AD (show ¬4294967295<x.terms+n by lia)
def QY(h4:st.length=4){k:Int}(h:0<=k/\k<=3): ∃x,st[k.toNat]? =some x:=⟨_,FY (show k.toNat<st.length by lia)⟩
def QZ(h4:st.length=4){k:Int}(h: ¬k.toNat<=3):st[k.toNat]? =none:=ao (by lia)
def kW{k:Int}:Be st [[23,k]]=((if st.length<=k.toNat then(st,cG)else(st.set k.toNat Et,.number 0)).1,Hx (if st.length<=k.toNat then(st,cG)else(st.set k.toNat Et,.number 0)).2):=by
 rw [GC (x:=.clear k.toNat) rfl];rfl
def kX{k z:Int}:Be st [[24,k,z]]=((I_ st k.toNat 1 fun (x:Acc)=>x.term z.toNat).1,Hx (I_ st k.toNat 1 fun (x:Acc)=>x.term z.toNat).2):=by
 rw [GC (x:=.term k.toNat z.toNat) rfl];rfl
def kY{k z y:Int}:Be st [[25,k,z,y]]=((I_ st k.toNat 1 fun (x:Acc)=>x.product z.toNat y.toNat).1,Hx (I_ st k.toNat 1 fun (x:Acc)=>x.product z.toNat y.toNat).2):=by
 rw [GC (x:=.product k.toNat z.toNat y.toNat) rfl];rfl
def ADh{k j:Int}(h:st[j.toNat]? =none):Be st [[26,k,j]]=(st,[-1]):=by
 rw [GC (x:=.merge k.toNat j.toNat) rfl];unfold Lw;dsimp only;rw [h];rfl
def kZ{k j:Int}{y:Acc}(h:st[j.toNat]? =some y):Be st [[26,k,j]]=((I_ st k.toNat y.terms fun (x:Acc)=>x.merge y).1,Hx (I_ st k.toNat y.terms fun (x:Acc)=>x.merge y).2):=by
 rw [GC (x:=.merge k.toNat j.toNat) rfl];unfold Lw;dsimp only;rw [h]
def ADi{k r:Int}(h:st[k.toNat]? =none):Be st [[27,k,r]]=(st,[-1]):=by
 rw [GC (x:=.get k.toNat r.toNat) rfl];unfold Lw;dsimp only;rw [h];rfl
def ka{k r:Int}{x:Acc}(h:st[k.toNat]? =some x):Be st [[27,k,r]]=(st,Hx (Km (Kl r.toNat) fun _=>WB (x.get QUAD r.toNat))):=by
 rw [GC (x:=.get k.toNat r.toNat) rfl];unfold Lw;dsimp only;rw [h]
def OB{z:Int}(h:0<=z):Bv Lf z "to 3"=decide (z.toNat<=3):=by
 rw [Hn,Ma,Bw];lia
def Y9{z:Int}(h:Kk z 128=true):Bv Lf z "quad"=true:=(MZ z).mpr ((Mb z).mp h)
def ADj(h4:st.length=4)(hk:l.length=1)(ha:EF [23::l]=true)(h:Bx Wf Lf 23 l=false):Be st [23::l]=(st,[-1]):=by
 obtain⟨k,rfl⟩:=CZ hk;have ha:FC k=true:=ha;have h:(Bv Lf k "to 3"&&true)=false:=h;rw [OB (E4 ha),B8,Iu]at h;rw [kW,AG (by lia)];rfl
def ADk(h4:st.length=4)(hk:l.length=2)(ha:EF [24::l]=true)(h:Bx Wf Lf 24 l=false):Be st [24::l]=(st,[-1]):=by
 obtain⟨k,z,rfl⟩:=DB hk;have ha:(FC k&&Kk z 128)=true:=ha;have h:(Bv Lf k "to 3"&&(Bv Lf z "quad"&&true))=false:=h;rw [BK]at ha;rw [OB (E4 ha.1),Y9 ha.2,B8,B8,Iu]at h;rw [kX,Y6 (QZ h4 h)];rfl
def ADl(h4:st.length=4)(hk:l.length=3)(ha:EF [25::l]=true)(h:Bx Wf Lf 25 l=false):Be st [25::l]=(st,[-1]):=by
 obtain⟨k,z,y,rfl⟩:=Cn hk;have ha:(FC k&&(Kk z 128&&Kk y 128))=true:=ha;have h:(Bv Lf k "to 3"&&(Bv Lf z "quad"&&(Bv Lf y "quad"&&true)))=false:=h;rw [BK,BK]at ha;rw [OB (E4 ha.1),Y9 ha.2.1,Y9 ha.2.2,B8,B8,B8,Iu]at h;rw [kY,Y6 (QZ h4 h)];rfl
def ADm(h4:st.length=4)(hk:l.length=2)(ha:EF [26::l]=true)(h:Bx Wf Lf 26 l=false):Be st [26::l]=(st,[-1]):=by
 obtain⟨k,j,rfl⟩:=DB hk;have ha:(FC k&&FC j)=true:=ha;have h:(Bv Lf k "to 3"&&(Bv Lf j "to 3"&&true))=false:=h;rw [BK]at ha;rw [OB (E4 ha.1),OB (E4 ha.2),B8,Vh,Iu,Iu]at h;by_cases c:j.toNat<=3
 ·obtain⟨y,hy⟩: ∃y,st[j.toNat]? =some y:=⟨_,FY (show j.toNat<st.length by lia)⟩;rw [kZ hy,Y6 (QZ h4 (by lia))];rfl
 ·exact ADh (QZ h4 c)
def ADn(h4:st.length=4)(hk:l.length=2)(ha:EF [27::l]=true)(h:Bx Wf Lf 27 l=false):Be st [27::l]=(st,[-1]):=by
 obtain⟨k,r,rfl⟩:=DB hk;have ha:(FC k&&FC r)=true:=ha;have h:(Bv Lf k "to 3"&&(Bv Lf r "mode"&&true))=false:=h;rw [BK]at ha;rw [OB (E4 ha.1),KJ (E4 ha.2),Vh,Iu]at h;by_cases c:k.toNat<=3
 ·obtain⟨y,hy⟩: ∃y,st[k.toNat]? =some y:=⟨_,FY (show k.toNat<st.length by lia)⟩;rw [ka hy,Md (h.resolve_left fun z=>z c)];rfl
 ·exact ADi (QZ h4 c)
def ADo(hl:H nl=some (.lst (l.map V.int)))(hk:l.length=1)(h:Bx Wf Lf 23 l=true)(hc:Bu CA CS H a lA st)(g:Good CR CT CA CS a lA st [23::l] H Q E):Yy CA CS [.ref nl,.ref a] H Q E:=by
 obtain⟨k,rfl⟩:=CZ hk;have h:(Bv Lf k "to 3"&&true)=true:=h;rw [B8,Ma]at h;have h4:=hc.len4;have e:=kW (st:=st) (k:=k);rw [AD (by lia)]at e;refine⟨nl,a,lA,st,k.toNat,rfl,?_,hc,by lia,fun H' p hp h1 s1=>g.2.2 _ _ e (GX rfl) H' p hp h1 s1⟩;rw [FA h.1];exact hl
def ADp(hl:H nl=some (.lst (l.map V.int)))(hk:l.length=2)(h:Bx Wf Lf 24 l=true)(hc:Bu CA CS H a lA st)(g:Good CR CT CA CS a lA st [24::l] H Q E):Yz CA CS CT [.ref nl,.ref a] H Q E:=by
 obtain⟨k,z,rfl⟩:=DB hk;have h:(Bv Lf k "to 3"&&(Bv Lf z "quad"&&true))=true:=h;simp only [BK,Ma,MZ,Oy]at h;have h4:=hc.len4;obtain⟨x,hx⟩:=QY h4 h.1;have e:=kX (st:=st) (k:=k) (z:=z);refine⟨nl,a,lA,st,k.toNat,z,x,rfl,?_,hc,by lia,hx,h.2,fun c=>?_,fun c H' p hp h1 s1=>?_⟩
 ·rw [FA h.1.1];exact hl
 ·rw [Y7 hx c]at e;exact g.2.1 e
 ·rw [Y8 hx c]at e;exact g.2.2 _ _ e (GX rfl) H' p hp h1 s1
def ADq(hl:H nl=some (.lst (l.map V.int)))(hk:l.length=3)(h:Bx Wf Lf 25 l=true)(hc:Bu CA CS H a lA st)(g:Good CR CT CA CS a lA st [25::l] H Q E):Y0 CA CS CT [.ref nl,.ref a] H Q E:=by
 obtain⟨k,z,y,rfl⟩:=Cn hk;have h:(Bv Lf k "to 3"&&(Bv Lf z "quad"&&(Bv Lf y "quad"&&true)))=true:=h;simp only [BK,Ma,MZ,Oy]at h;have h4:=hc.len4;obtain⟨x,hx⟩:=QY h4 h.1;have e:=kY (st:=st) (k:=k) (z:=z) (y:=y);refine⟨nl,a,lA,st,k.toNat,z,y,x,rfl,?_,hc,by lia,hx,h.2.1,h.2.2,fun c=>?_,fun c H' p hp h1 s1=>?_⟩
 ·rw [FA h.1.1];exact hl
 ·rw [Y7 hx c]at e;exact g.2.1 e
 ·rw [Y8 hx c]at e;exact g.2.2 _ _ e (GX rfl) H' p hp h1 s1
def ADr(hl:H nl=some (.lst (l.map V.int)))(hk:l.length=2)(h:Bx Wf Lf 26 l=true)(hc:Bu CA CS H a lA st)(g:Good CR CT CA CS a lA st [26::l] H Q E):Y1 CA CS CT [.ref nl,.ref a] H Q E:=by
 obtain⟨k,j,rfl⟩:=DB hk;have h:(Bv Lf k "to 3"&&(Bv Lf j "to 3"&&true))=true:=h;simp only [BK,Ma,Oy]at h;have h4:=hc.len4;obtain⟨x,hx⟩:=QY h4 h.1;obtain⟨y,hy⟩:=QY h4 h.2;have e:=kZ (k:=k) hy;refine⟨nl,a,lA,st,k.toNat,j.toNat,x,y,rfl,?_,hc,by lia,hx,hy,fun c=>?_,fun c H' p hp h1 s1=>?_⟩
 ·rw [FA h.1.1,FA h.2.1];exact hl
 ·rw [Y7 hx c]at e;exact g.2.1 e
 ·rw [Y8 hx c]at e;exact g.2.2 _ _ e (GX rfl) H' p hp h1 s1
def ADs(hl:H nl=some (.lst (l.map V.int)))(hk:l.length=2)(h:Bx Wf Lf 27 l=true)(hc:Bu CA CS H a lA st)(g:Good CR CT CA CS a lA st [27::l] H Q E):Y2 CA CS [.ref nl,.ref a] H Q E:=by
 obtain⟨k,r,rfl⟩:=DB hk;have h:(Bv Lf k "to 3"&&(Bv Lf r "mode"&&true))=true:=h;simp only [BK,Ma,Y3,Oy]at h;have h4:=hc.len4;obtain⟨x,hx⟩:=QY h4 h.1;have e:=ka (r:=r) hx;rw [Mc ((LN _).mpr (by lia))]at e;refine⟨nl,a,lA,st,k.toNat,r,x,rfl,?_,hc,hx,h.2,fun H' p hp s1=>g.2.2 _ _ e (GX rfl) H' p hp (hc.same s1) (EY s1)⟩;rw [FA h.1.1];exact hl
end
def Qa(f:Addr)(sp:Sp):Prop:= ∃(k:Nat)(fd:FuncData)(ps:List Str),C_ (FL P w) k f fd ps sp/\k<=11/\Ij K (.ref f)=true/\Binds K fd ps []
def Ct(kv:List (A8×V))(n:Int)(sp:Sp):Prop:= ∃f,Az kv (.inl n)=some (.ref f)/\Qa f sp
def IH.has{x:Str}{k:Nat}{ps:List Str}{sp:Sp}{kv:List (A8×V)}{n:Int}{f:Addr}(D:IH x k ps sp)(hk:k<=11)(h1:Az kv (.inl n)=some (.ref f))(h2:mg x=some (.ref f)):Ct kv n sp:=by
 obtain⟨f',fd,F,hm,hkp,hb⟩:=D.ex;rw [h2]at hm;cases hm;exact⟨f,h1,k,fd,ps,F,hk,hkp,hb⟩
structure Ue(CR CT CA CS:Addr)(kN kR kA:List (A8×V)):Prop where
 n0:Ct kN 0 (CH TB 4)
 n1:Ct kN 1 (CH TF 2)
 n2:Ct kN 2 (CH TH 5)
 n3:Ct kN 3 (CH TM 3)
 n4:Ct kN 4 (CH TN 3)
 n5:Ct kN 5 (CH TQ 3)
 n6:Ct kN 6 (CH TU 2)
 n7:Ct kN 7 (CH TV 1)
 n8:Ct kN 8 (CH TY 3)
 n9:Ct kN 9 (CH TZ 3)
 n10:Ct kN 10 (CH Tb 3)
 n11:Ct kN 11 (CH Ta 2)
 n12:Ct kN 12 (CH Tc 1)
 n13:Ct kN 13 (Yv CR)
 n14:Ct kN 14 (CH Td 3)
 n15:Ct kN 15 (CH Th 3)
 Lh:Ct kN 16 (CH Ti 3)
 n17:Ct kN 17 (CH UJ 3)
 n18:Ct kN 18 (CH UK 1)
 n19:Ct kR 19 (HA UW 1 1)
 n20:Ct kR 20 (HA Tq 1 1)
 n21:Ct kR 21 (HA Tr 1 2)
 n22:Ct kR 22 (HA Ts 2 1)
 n23:Ct kA 23 (Yy CA CS)
 n24:Ct kA 24 (Yz CA CS CT)
 n25:Ct kA 25 (Y0 CA CS CT)
 n26:Ct kA 26 (Y1 CA CS CT)
 n27:Ct kA 27 (Y2 CA CS)
 noN: ∀n:Int,19<=n->n<=27->Az kN (.inl n)=none
 noR: ∀n:Int,23<=n->n<=27->Az kR (.inl n)=none
section
variable{C:Addr}{st:List Acc}{H:Hp}{Q:VK}{E:XK}{n:Int}{l:List Int}{xs:List (List Int)}{a lA nl rl:Addr}
def Bc{α:Type}{l:List α}(h:l.length=0):l=[]:=V5.mp h
def Dm{n:Int}:D9 Rf n []=true:=rfl
def Good.mono{H1:Hp}{cc:List (List Int)}(g:Good CR CT CA CS a lA st cc H Q E)(s:AQ H H1):Good CR CT CA CS a lA st cc H1 Q E:=
 ⟨fun e H' s'=>g.1 e H' (s.trans s'),fun e H' s'=>g.2.1 e H' (s.trans s'),fun Em GB e hz H' p h1 h2 h3=>g.2.2 Em GB e hz H' p h1 h2 ((EY s).trans h3)⟩
def refuse(hn:Hf n)(hk:l.length=(Wf n).length)(hx:xs.length=(Rf n).length)(ha:EF ((n::l)::xs)=true)(h4:st.length=4)(h:(Bx Wf Lf n l&&D9 Rf n xs)=false):Be st ((n::l)::xs)=(st,[-1]):=by
 obtain⟨h0,h1⟩:=hn;have hn:n=0\/n=1\/n=2\/n=3\/n=4\/n=5\/n=6\/n=7\/n=8\/n=9\/n=10\/n=11\/n=12\/n=13\/n=14\/n=15\/n=16\/n=17\/n=18\/n=19\/n=20\/n=21\/n=22\/n=23\/n=24\/n=25\/n=26\/n=27:=by lia
 rcases hn with rfl|rfl|rfl|rfl|rfl|rfl|rfl|rfl|rfl|rfl|rfl|rfl|rfl|rfl|rfl|rfl|rfl|rfl|rfl|rfl|rfl|rfl|rfl|rfl|rfl|rfl|rfl|rfl
 ·obtain rfl:=Bc (show xs.length=0 from hx);rw [Dm,B8]at h;exact no0 hk ha h
 ·obtain rfl:=Bc (show xs.length=0 from hx);rw [Dm,B8]at h;exact no1 hk ha h
 ·obtain rfl:=Bc (show xs.length=0 from hx);rw [Dm,B8]at h;exact no2 hk ha h
 ·obtain rfl:=Bc (show xs.length=0 from hx);rw [Dm,B8]at h;exact no3 hk ha h
 ·obtain rfl:=Bc (show xs.length=0 from hx);rw [Dm,B8]at h;exact no4 hk ha h
 ·obtain rfl:=Bc (show xs.length=0 from hx);rw [Dm,B8]at h;exact no5 hk ha h
 ·obtain rfl:=Bc (show xs.length=0 from hx);rw [Dm,B8]at h;exact no6 hk ha h
 ·obtain rfl:=Bc (show xs.length=0 from hx);rw [Dm,B8]at h;exact no7 hk ha h
 ·obtain rfl:=Bc (show xs.length=0 from hx);rw [Dm,B8]at h;exact no8 hk ha h
 ·obtain rfl:=Bc (show xs.length=0 from hx);rw [Dm,B8]at h;exact no9 hk ha h
 ·obtain rfl:=Bc (show xs.length=0 from hx);rw [Dm,B8]at h;exact ADE hk ha h
 ·obtain rfl:=Bc (show xs.length=0 from hx);rw [Dm,B8]at h;exact ADG hk ha h
 ·obtain rfl:=Bc (show xs.length=0 from hx);rw [Dm,B8]at h;exact ADI hk ha h
 ·obtain rfl:=Bc (show xs.length=0 from hx);rw [Dm,B8]at h;exact ADW hk ha h
 ·obtain rfl:=Bc (show xs.length=0 from hx);rw [Dm,B8]at h;exact ADK hk ha h
 ·obtain rfl:=Bc (show xs.length=0 from hx);rw [Dm,B8]at h;exact ADM hk ha h
 ·obtain rfl:=Bc (show xs.length=0 from hx);rw [Dm,B8]at h;exact ADO hk ha h
 ·obtain rfl:=Bc (show xs.length=0 from hx);rw [Dm,B8]at h;exact ADQ hk ha h
 ·obtain rfl:=Bc (show xs.length=0 from hx);rw [Dm,B8]at h;exact ADS hk ha h
 ·obtain⟨t,rfl⟩:=CZ (show xs.length=1 from hx);exact ADZ hk ha h
 ·obtain⟨t,rfl⟩:=CZ (show xs.length=1 from hx);exact ADb hk ha h
 ·obtain⟨t,u,rfl⟩:=DB (show xs.length=2 from hx);exact ADd hk ha h
 ·obtain⟨t,rfl⟩:=CZ (show xs.length=1 from hx);exact ADf hk ha h
 ·obtain rfl:=Bc (show xs.length=0 from hx);rw [Dm,B8]at h;exact ADj h4 hk ha h
 ·obtain rfl:=Bc (show xs.length=0 from hx);rw [Dm,B8]at h;exact ADk h4 hk ha h
 ·obtain rfl:=Bc (show xs.length=0 from hx);rw [Dm,B8]at h;exact ADl h4 hk ha h
 ·obtain rfl:=Bc (show xs.length=0 from hx);rw [Dm,B8]at h;exact ADm h4 hk ha h
 ·obtain rfl:=Bc (show xs.length=0 from hx);rw [Dm,B8]at h;exact ADn h4 hk ha h
def kc(T:Ue CR CT CA CS kN kR kA)(hn:0<=n/\n<=18)(hk:l.length=(Wf n).length)(hx:xs.length=(Rf n).length)(ha:EF ((n::l)::xs)=true)(h:(Bx Wf Lf n l&&D9 Rf n xs)=true)(hl:H nl=some (.lst (l.map V.int)))(hc:Bu CA CS H a lA st)(g:Good CR CT CA CS a lA st ((n::l)::xs) H Q E):
 ∃sp,Ct kN n sp/\sp [.ref nl] H Q E:=by
 rw [BK]at h;have hn:n=0\/n=1\/n=2\/n=3\/n=4\/n=5\/n=6\/n=7\/n=8\/n=9\/n=10\/n=11\/n=12\/n=13\/n=14\/n=15\/n=16\/n=17\/n=18:=by lia
 rcases hn with rfl|rfl|rfl|rfl|rfl|rfl|rfl|rfl|rfl|rfl|rfl|rfl|rfl|rfl|rfl|rfl|rfl|rfl|rfl
 ·obtain rfl:=Bc (show xs.length=0 from hx);exact⟨_,T.n0,go0 hl hk ha h.1 hc g⟩
 ·obtain rfl:=Bc (show xs.length=0 from hx);exact⟨_,T.n1,go1 hl hk ha h.1 hc g⟩
 ·obtain rfl:=Bc (show xs.length=0 from hx);exact⟨_,T.n2,go2 hl hk ha h.1 hc g⟩
 ·obtain rfl:=Bc (show xs.length=0 from hx);exact⟨_,T.n3,go3 hl hk ha h.1 hc g⟩
 ·obtain rfl:=Bc (show xs.length=0 from hx);exact⟨_,T.n4,go4 hl hk ha h.1 hc g⟩
 ·obtain rfl:=Bc (show xs.length=0 from hx);exact⟨_,T.n5,go5 hl hk ha h.1 hc g⟩
 ·obtain rfl:=Bc (show xs.length=0 from hx);exact⟨_,T.n6,go6 hl hk ha h.1 hc g⟩
 ·obtain rfl:=Bc (show xs.length=0 from hx);exact⟨_,T.n7,go7 hl hk ha h.1 hc g⟩
 ·obtain rfl:=Bc (show xs.length=0 from hx);exact⟨_,T.n8,go8 hl hk ha h.1 hc g⟩
 ·obtain rfl:=Bc (show xs.length=0 from hx);exact⟨_,T.n9,go9 hl hk ha h.1 hc g⟩
 ·obtain rfl:=Bc (show xs.length=0 from hx);exact⟨_,T.n10,ADF hl hk ha h.1 hc g⟩
 ·obtain rfl:=Bc (show xs.length=0 from hx);exact⟨_,T.n11,ADH hl hk ha h.1 hc g⟩
 ·obtain rfl:=Bc (show xs.length=0 from hx);exact⟨_,T.n12,ADJ hl hk ha h.1 hc g⟩
 ·obtain rfl:=Bc (show xs.length=0 from hx);exact⟨_,T.n13,ADX hl hk h.1 hc g⟩
 ·obtain rfl:=Bc (show xs.length=0 from hx);exact⟨_,T.n14,ADL hl hk ha h.1 hc g⟩
 ·obtain rfl:=Bc (show xs.length=0 from hx);exact⟨_,T.n15,ADN hl hk ha h.1 hc g⟩
 ·obtain rfl:=Bc (show xs.length=0 from hx);exact⟨_,T.Lh,ADP hl hk ha h.1 hc g⟩
 ·obtain rfl:=Bc (show xs.length=0 from hx);exact⟨_,T.n17,ADR hl hk ha h.1 hc g⟩
 ·obtain rfl:=Bc (show xs.length=0 from hx);exact⟨_,T.n18,ADT hl hk ha h.1 hc g⟩
def ke(T:Ue CR CT CA CS kN kR kA)(hn:19<=n/\n<=22)(hk:l.length=(Wf n).length)(hx:xs.length=(Rf n).length)(ha:EF ((n::l)::xs)=true)(h:(Bx Wf Lf n l&&D9 Rf n xs)=true)(hl:H nl=some (.lst (l.map V.int)))(hr:Gi K H rl xs)(hc:Bu CA CS H a lA st)(g:Good CR CT CA CS a lA st ((n::l)::xs) H Q E):
 ∃sp,Ct kR n sp/\sp [.ref nl,.ref rl] H Q E:=by
 have hn:n=19\/n=20\/n=21\/n=22:=by lia
 rcases hn with rfl|rfl|rfl|rfl
 ·obtain⟨t,rfl⟩:=CZ (show xs.length=1 from hx);exact⟨_,T.n19,ADa hl hr hk ha h hc g⟩
 ·obtain⟨t,rfl⟩:=CZ (show xs.length=1 from hx);exact⟨_,T.n20,ADc hl hr hk ha h hc g⟩
 ·obtain⟨t,u,rfl⟩:=DB (show xs.length=2 from hx);exact⟨_,T.n21,ADe hl hr hk ha h hc g⟩
 ·obtain⟨t,rfl⟩:=CZ (show xs.length=1 from hx);exact⟨_,T.n22,ADg hl hr hk ha h hc g⟩
def ADt(T:Ue CR CT CA CS kN kR kA)(hn:23<=n/\n<=27)(hk:l.length=(Wf n).length)(hx:xs.length=(Rf n).length)(h:(Bx Wf Lf n l&&D9 Rf n xs)=true)(hl:H nl=some (.lst (l.map V.int)))(hc:Bu CA CS H a lA st)(g:Good CR CT CA CS a lA st ((n::l)::xs) H Q E):
 ∃sp,Ct kA n sp/\sp [.ref nl,.ref a] H Q E:=by
 rw [BK]at h;have hn:n=23\/n=24\/n=25\/n=26\/n=27:=by lia
 rcases hn with rfl|rfl|rfl|rfl|rfl
 ·obtain rfl:=Bc (show xs.length=0 from hx);exact⟨_,T.n23,ADo hl hk h.1 hc g⟩
 ·obtain rfl:=Bc (show xs.length=0 from hx);exact⟨_,T.n24,ADp hl hk h.1 hc g⟩
 ·obtain rfl:=Bc (show xs.length=0 from hx);exact⟨_,T.n25,ADq hl hk h.1 hc g⟩
 ·obtain rfl:=Bc (show xs.length=0 from hx);exact⟨_,T.n26,ADr hl hk h.1 hc g⟩
 ·obtain rfl:=Bc (show xs.length=0 from hx);exact⟨_,T.n27,ADs hl hk h.1 hc g⟩
def ADu(C:Addr)(K:Aj)(CR CT CA CS:Addr):Sp:=fun vs H Q E=> ∃(c a lA:Addr)(n:Int)(l:List Int)(xs:List (List Int))(st:List Acc),vs=[.ref c,.ref a]/\LC C K H c n l xs/\Hf n/\l.length=(Wf n).length/\xs.length=(Rf n).length/\
 EF ((n::l)::xs)=true/\Bu CA CS H a lA st/\Good CR CT CA CS a lA st ((n::l)::xs) H Q E
def kf:mg "BY_NUMBERS"=some (.ref Nh):=rat 23 rfl
def kg:mg "BY_ROWS"=some (.ref Ni):=rat 24 rfl
def ADv:mg "BY_ACCUMULATORS"=some (.ref Pk):=rat 25 rfl
def kh:IG L2.P L2.w L2.K Nh kN:=Ng rfl (by kernel_rfl)
def ki:IG L2.P L2.w L2.K Ni kR:=Ng rfl (by kernel_rfl)
def ADw:IG L2.P L2.w L2.K Pk kA:=Ng rfl (by kernel_rfl)
def kj:Az kN (.inl 0)=some (.ref e0)/\mg "call_op"=some (.ref e0):=⟨by kernel_rfl,by kernel_rfl⟩
def km:Az kN (.inl 1)=some (.ref e1)/\mg "call_root"=some (.ref e1):=⟨by kernel_rfl,by kernel_rfl⟩
def kn:Az kN (.inl 2)=some (.ref e2)/\mg "call_fused"=some (.ref e2):=⟨by kernel_rfl,by kernel_rfl⟩
def kq:Az kN (.inl 3)=some (.ref e3)/\mg "call_remainder"=some (.ref e3):=⟨by kernel_rfl,by kernel_rfl⟩
def ku:Az kN (.inl 4)=some (.ref e4)/\mg "call_scale"=some (.ref e4):=⟨by kernel_rfl,by kernel_rfl⟩
def kz:Az kN (.inl 5)=some (.ref e5)/\mg "call_whole"=some (.ref e5):=⟨by kernel_rfl,by kernel_rfl⟩
def k6:Az kN (.inl 6)=some (.ref e6)/\mg "call_next"=some (.ref e6):=⟨by kernel_rfl,by kernel_rfl⟩
def k7:Az kN (.inl 7)=some (.ref e7)/\mg "call_split"=some (.ref e7):=⟨by kernel_rfl,by kernel_rfl⟩
def k8:Az kN (.inl 8)=some (.ref e8)/\mg "call_pick"=some (.ref e8):=⟨by kernel_rfl,by kernel_rfl⟩
def k9:Az kN (.inl 9)=some (.ref e9)/\mg "call_sign"=some (.ref e9):=⟨by kernel_rfl,by kernel_rfl⟩
def k_:Az kN (.inl 10)=some (.ref SY)/\mg "call_compare"=some (.ref SY):=⟨by kernel_rfl,by kernel_rfl⟩
def lB:Az kN (.inl 11)=some (.ref fJ)/\mg "call_order"=some (.ref fJ):=⟨by kernel_rfl,by kernel_rfl⟩
def lC:Az kN (.inl 12)=some (.ref fK)/\mg "call_class"=some (.ref fK):=⟨by kernel_rfl,by kernel_rfl⟩
def lD:Az kN (.inl 13)=some (.ref fL)/\mg "call_from"=some (.ref fL):=⟨by kernel_rfl,by kernel_rfl⟩
def lF:Az kN (.inl 14)=some (.ref fM)/\mg "call_to"=some (.ref fM):=⟨by kernel_rfl,by kernel_rfl⟩
def lG:Az kN (.inl 15)=some (.ref XE)/\mg "call_ofwhole"=some (.ref XE):=⟨by kernel_rfl,by kernel_rfl⟩
def lH:Az kN (.inl 16)=some (.ref Nj)/\mg "call_towhole"=some (.ref Nj):=⟨by kernel_rfl,by kernel_rfl⟩
def lI:Az kN (.inl 17)=some (.ref fN)/\mg "call_show"=some (.ref fN):=⟨by kernel_rfl,by kernel_rfl⟩
def lJ:Az kN (.inl 18)=some (.ref fO)/\mg "call_hex"=some (.ref fO):=⟨by kernel_rfl,by kernel_rfl⟩
def lK:Az kR (.inl 19)=some (.ref fP)/\mg "call_read"=some (.ref fP):=⟨by kernel_rfl,by kernel_rfl⟩
def lL:Az kR (.inl 20)=some (.ref fQ)/\mg "call_sum"=some (.ref fQ):=⟨by kernel_rfl,by kernel_rfl⟩
def lM:Az kR (.inl 21)=some (.ref fR)/\mg "call_dot"=some (.ref fR):=⟨by kernel_rfl,by kernel_rfl⟩
def lN:Az kR (.inl 22)=some (.ref fT)/\mg "call_poly"=some (.ref fT):=⟨by kernel_rfl,by kernel_rfl⟩
def lO:Az kA (.inl 23)=some (.ref fU)/\mg "call_clear"=some (.ref fU):=⟨by kernel_rfl,by kernel_rfl⟩
def lP:Az kA (.inl 24)=some (.ref fV)/\mg "call_term"=some (.ref fV):=⟨by kernel_rfl,by kernel_rfl⟩
def lQ:Az kA (.inl 25)=some (.ref fW)/\mg "call_product"=some (.ref fW):=⟨by kernel_rfl,by kernel_rfl⟩
def lR:Az kA (.inl 26)=some (.ref fX)/\mg "call_merge"=some (.ref fX):=⟨by kernel_rfl,by kernel_rfl⟩
def lS:Az kA (.inl 27)=some (.ref fY)/\mg "call_get"=some (.ref fY):=⟨by kernel_rfl,by kernel_rfl⟩
def noN: ∀n:Int,19<=n->n<=27->Az kN (.inl n)=none:=fun n h1 h2=>fG (l:=[19,20,21,22,23,24,25,26,27]) (by kernel_rfl) (by simp only [DL,Vj];lia)
def noR: ∀n:Int,23<=n->n<=27->Az kR (.inl n)=none:=fun n h1 h2=>fG (l:=[23,24,25,26,27]) (by kernel_rfl) (by simp only [DL,Vj];lia)
def Me:Ue CR CT CA CS kN kR kA:=⟨(ACj.x).has dd kj.1 kj.2,(ACk.x).has dd km.1 km.2,(ACl.x).has dd kn.1 kn.2,(ACm.x).has dd kq.1 kq.2,(ACn.x).has dd ku.1 ku.2,(ACo.x).has dd kz.1 kz.2,(ACp.x).has dd k6.1 k6.2,(ACq.x).has dd k7.1 k7.2,(ACr.x).has dd k8.1 k8.2,(ACs.x).has dd k9.1 k9.2,(ACt.x).has dd k_.1 k_.2,(ACu.x).has dd lB.1 lB.2,(ACv.x).has dd lC.1 lC.2,(AC6).has dd lD.1 lD.2,(ACw.x).has dd lF.1 lF.2,(ACx.x).has dd lG.1 lG.2,(ACy.x).has dd lH.1 lH.2,(ACz.x).has dd lI.1 lI.2,(AC0.x).has dd lJ.1 lJ.2,(AC1.x).has dd lK.1 lK.2,(AC2.x).has dd lL.1 lL.2,(AC3.x).has dd lM.1 lM.2,(AC4.x).has dd lN.1 lN.2,(AC7.x).has dd lO.1 lO.2,(AC8).has dd lP.1 lP.2,(AC9).has dd lQ.1 lQ.2,(AC_).has dd lR.1 lR.2,(ADA.x).has dd lS.1 lS.2,noN,noR⟩
def ADx:
 IH "told" 12 ["call","accumulators"] (ADu CC K CR CT CA CS):=by
 have S:Bj ["call","accumulators","called"] ["call","accumulators"] (sc 210):=fS;refine OC (AW 143 rfl) S (fun vs H Q E h=>?_) (fun _ f0 By A _ s H vs Q E hr h=>?_)
 ·obtain⟨c,a,lA,n,l,xs,st,rfl,_⟩:=h;rfl
 ·obtain⟨c,a,lA,n,l,xs,st,rfl,hc,hn,hk,hx,ha,hA,g⟩:=h;have hF: ∀f sp,Qa f sp-> ∃k fd ps,C_ (FL P w) k f fd ps sp/\CU k (A.deeper (envOfC "told" (sc 210) s.heap.objs.size f0 By))/\Ij K (.ref f)=true/\Binds K fd ps []:=by
   rintro f sp ⟨k,fd,ps,zt,hk,h1,h2⟩;exact⟨k,fd,ps,zt,hr.mono hk,h1,h2⟩
  refine⟨_,(AJ (Ag (Ru (Bz (pD hr yr (pO 0)))) (Cj (W8 Yw Yx rfl)) Ai)
   (AJ (Ag (AX (e_ kh) (AR (pv 0) rfl) (F6 rfl kf) rfl)
    (AJ (pS 2 S.nd (Nc kh (F6 rfl kf) (AR (pv 0) rfl) (fun _ _=>rfl))) (pR (W6 (i:=2) (sps:=Qa) rfl (Or.inl rfl) hF MF (AB (AR (pv 0) rfl) AL)))) Ai)
   (AJ (Ag (AX (e_ ki) (AR (pv 0) rfl) (F6 rfl kg) rfl)
    (AJ (pS 2 S.nd (Nc ki (F6 rfl kg) (AR (pv 0) rfl) (fun _ _=>rfl))) (pR (W6 (i:=2) (sps:=Qa) rfl (Or.inl rfl) hF MF (AB (AR (pv 0) rfl) (AB (AR (pv 0) rfl) AL))))) Ai)
   (AJ (pS 2 S.nd (Nc ADw (F6 rfl ADv) (AR (pv 0) rfl) (fun _ _=>rfl))) (pR (W6 (i:=2) (sps:=Qa) rfl (Or.inl rfl) hF MF (AB (AR (pv 0) rfl) (pO 1)))))))),?_⟩
  refine⟨_,rfl,c,n,l,xs,rfl,hc,hn,hk,hx,fun H1 s1=>⟨_,rfl,?_⟩⟩;have Mv:=hA.same s1;have g1:=g.mono s1;obtain⟨dx,nl,rl,h1,h2,h3⟩:=hc.same s1;have EN: ∀z:Option V,Ev (BJ K (Aa 0) "number") [some (.ref c),some (.ref a),z] H1 (.int n):=fun z=>Ax (AH rfl) h1 D8.cl D8.number Xx
  have EM: ∀z:Option V,Ev (BJ K (Aa 0) "numbers") [some (.ref c),some (.ref a),z] H1 (.ref nl):=fun z=>Ax (AH rfl) h1 D8.cl D8.Zs g6
  have ER: ∀z:Option V,Ev (BJ K (Aa 0) "rows") [some (.ref c),some (.ref a),z] H1 (.ref rl):=fun z=>Ax (AH rfl) h1 D8.cl D8.rows Xy
  have IN: ∀(aD:Addr)(kv:List (A8×V))(z:Option V),Ev (Br (fun x y H Q=> ∃k,x=kV k/\y=V.ref aD/\Q (.bl (Az kv k).isSome) H) (BJ K (Aa 0) "number") (tC (.ref aD))) [some (.ref c),some (.ref a),z] H1 (.bl (Az kv (.inl n)).isSome):=fun aD kv z Q q=>EN z _ ⟨.inl n,rfl,rfl,q⟩
  have GT: ∀(aD:Addr)(kv:List (A8×V))(z:Option V)(v:V),Az kv (.inl n)=some v->Ev (W5 aD kv (tC (.ref aD)) (BJ K (Aa 0) "number")) [some (.ref c),some (.ref a),z] H1 v:=fun aD kv z v h Q q=>by
   unfold W5 tC;exact EN z _ ⟨.inl n,v,rfl,rfl,h,q⟩
  cases hb:(Bx Wf Lf n l&&D9 Rf n xs)with
  |false=>exact g.1 (refuse hn hk hx ha hA.len4 hb) _ s1
  |true=>
   dsimp only;rw [AD dd];refine Bf (Ac (IN Nh kN none)) (fun c1=>?_) (fun c1=>?_)
   ·have h18:n<=18:=RU fun z=>by
     rw [Me.noN n (by lia) hn.2]at c1;cases c1
    obtain⟨sp,⟨f,hv,hf⟩,FI⟩:=kc Me ⟨hn.1,h18⟩ hk hx ha hb h2 Mv g1;refine BD (GT Nh kN none _ hv) ?_;exact⟨f,sp,rfl,hf,EM (some (.ref f)) _ FI⟩
   ·have oM:19<=n:=RU fun z=>by
     obtain⟨sp,⟨f,hv,hf⟩,FI⟩:=kc Me ⟨hn.1,by lia⟩ hk hx ha hb h2 Mv g1;rw [hv]at c1;cases c1
    refine Bf (Ac (IN Ni kR none)) (fun c2=>?_) (fun c2=>?_)
    ·have h22:n<=22:=RU fun z=>by
      rw [Me.noR n (by lia) hn.2]at c2;cases c2
     obtain⟨sp,⟨f,hv,hf⟩,FI⟩:=ke Me ⟨oM,h22⟩ hk hx ha hb h2 h3 Mv g1;refine BD (GT Ni kR none _ hv) ?_;exact⟨f,sp,rfl,hf,EM (some (.ref f)) _ (ER (some (.ref f)) _ FI)⟩
    ·have h23:23<=n:=RU fun z=>by
      obtain⟨sp,⟨f,hv,hf⟩,FI⟩:=ke Me ⟨oM,by lia⟩ hk hx ha hb h2 h3 Mv g1;rw [hv]at c2;cases c2
     obtain⟨sp,⟨f,hv,hf⟩,FI⟩:=ADt Me ⟨h23,hn.2⟩ hk hx hb h2 Mv g1;refine BD (GT Pk kA none _ hv) ?_;exact⟨f,sp,rfl,hf,EM (some (.ref f)) _ ⟨_,rfl,FI⟩⟩
end
def ADy{X:Cx}{x:Str}{C:Addr}{k:Nat}{ps:List Str}{sp:Sp}{p pos:Pos}(D:Cl x C k ps sp)(hr:CU (k+1) X.A)(hg:Gl X x)
 (Co:(x==("__debug__":Str))=false:=by decide):PE X (.Call (.Name x p) [] [] pos) (PL C sp [] E0 B3):=by
 obtain⟨f,fd,M,F,hb⟩:=D.ex;exact rn M F hr hg D.nm hb .nil PY Co
abbrev Hh:Type:=List (List Int)
noncomputable def JU:List Acc->List Hh->List Acc
 |s,[]=>s
 |s,c::r=>JU (Be s c).1 r
def lT: ∀(cs:List Hh)(s:List Acc)(c:Hh),JU s (cs++[c])=(Be (JU s cs) c).1
 | [],s,c=>rfl
 |d::r,s,c=>lT r _ c
def lU: ∀(cs:List Hh)(s:List Acc)(c:Hh),Ro Be s (cs++[c])=Ro Be s cs++[(Be (JU s cs) c).2]
 | [],s,c=>rfl
 |d::r,s,c=>by
  show(Be s d).2::Ro Be (Be s d).1 (r++[c])=_;rw [lU r];rfl
def ADz(l:List (List Int))(a:List Int):Rp (l++[a])=Rp l++((a.length:Int)::a):=by
 unfold Rp;rw [List.flatMap_append];simp
def lV{sh:Int->Option (Nat×Nat)}: ∀{f:Nat}{s:List Int}{cs:List Hh},Hv sh f s=some cs-> ∀c∈cs,∃n nn kk l xs,c=(n::l)::xs/\sh n=some (nn,kk)/\l.length=nn/\xs.length=kk:=by
 intro f
 induction f with
 |zero=>
  intro s cs h c hc;cases s with
  |nil=>cases h;cases hc
  |cons p r=>cases h
 |succ f ih=>
  intro s cs h c hc;cases s with
  |nil=>cases h;cases hc
  |cons p r=>
   unfold Hv at h;cases h1:V3 sh (p::r)with
   |none=>rw [h1]at h;cases h
   |some y=>
    obtain⟨c1,t⟩:=y;rw [h1]at h;dsimp only at h;cases h2:Hv sh f t with
    |none=>rw [h2]at h;cases h
    |some ds=>
     rw [h2]at h;injection h with h
     subst h;rcases DL.mp hc with rfl|hc
     ·obtain⟨p',r',n,k,xs,e1,Lb,hl,KS,e2⟩:=iJ h1;exact⟨p',n,k,r'.take n,xs,e2,Lb,by rw [DV];lia,Te KS⟩
     ·exact ih h2 c hc
section
variable{C:Addr}
def Bu.oN{H:Hp}{a l r:Addr}{st:List Acc}{xs ys:List V}(h:Bu CA CS H a l st)(hr:H r=some (.lst xs))(n:r≠l):Bu CA CS (upd H r (.lst ys)) a l st:=by
 obtain⟨dx,as,h1,h2,h3,h4,h5⟩:=h;have na:a≠r:=fun z=>by rw [z,hr]at h1;cases h1
 refine⟨dx,as,by rw [BC na];exact h1,by rw [BC (Ne.symm n)];exact h2,h3,h4,fun i b s x y=>(h5 i b s x y).upd fun z=>?_⟩;obtain⟨Od,sn,h,_⟩:=h5 i b s x y;rw [z,hr]at h;cases h
def SameBut.fresh{l p:Addr}{H H':Hp}{o:HO}(h:SameBut l H H')(hl:H' l=some o)(hp:H' p=none):H p=none:=by
 cases e:H p with
 |none=>rfl
 |some u=>
  have :p≠l:=fun z=>by rw [z,hl]at hp;cases hp
  rw [h p u this e]at hp;cases hp
def Bu.lst{H:Hp}{a l:Addr}{st:List Acc}(h:Bu CA CS H a l st): ∃xs,H l=some (.lst xs):=by
 obtain⟨dx,as,_,h2,_⟩:=h;exact⟨_,h2⟩
def AD0(C:Addr)(K:Aj)(CA CS:Addr):Sp:=fun vs H Q _=> ∃(c a lA:Addr)(n:Int)(l:List Int)(xs:List (List Int))(st:List Acc),vs=[.ref c,.ref a]/\LC C K H c n l xs/\Hf n/\l.length=(Wf n).length/\xs.length=(Rf n).length/\
 EF ((n::l)::xs)=true/\Bu CA CS H a lA st/\ ∀H' p,H' p=some (.lst ((Be st ((n::l)::xs)).2.map V.int))->(Be st ((n::l)::xs)).2.length<=30001->H p=none->
  Bu CA CS H' a lA (Be st ((n::l)::xs)).1->SameBut lA H H'->Q (.ref p) H'
def MB:AFq L2.K (.ref CT) (.ref CR)=some false:=by kernel_rfl
def AD1:Df "answer" 13 ["call","accumulators"] (AD0 CC K CA CS):=by
 refine(AW 144 rfl).go ["call","accumulators","said"] ?_;rintro S _ _ _ A _ _ H _ Q E hr ⟨c,a,lA,n,l,xs,st,rfl,hc,hn,hk,hx,ha,hA,q⟩;refine⟨_,(AJ (uj Yw iY MB Yx iZ rfl rfl rfl rfl rfl
  (fun E pn xe hx=>Cj (pS 2 S (eT ADx hx (hr.mono dd) rfl (pW 0 (pO 1)))))
  (fun A pn=>pR (Ay (AB (Eu FG AE) AL))) (fun A pn=>pR (Ay (AB (Eu FG AE) AL))))
  (pR (AK We (Ay (AB AE AL)) (pv 2)))),?_⟩
 obtain⟨ys,aP⟩:=hA.lst;refine⟨_,rfl,_,rfl,c,a,lA,n,l,xs,st,rfl,hc,hn,hk,hx,ha,hA,fun e H' s1=>?_,fun e H' s1=>?_,fun Em GB e hz H' p hp h1 s1=>?_⟩
 ·refine .inl ⟨rfl,fun Ak=>?_⟩;refine⟨_,rfl,dz,fun p hp=>?_⟩;rw [e]at q;exact q _ p AZ (GX rfl) (s1.free hp) ((hA.same s1).same (AQ.new hp)) (EY (s1.trans (AQ.new hp)))
 ·refine .inr ⟨rfl,fun Ak=>?_⟩;refine⟨_,rfl,dz,fun p hp=>?_⟩;rw [e]at q;exact q _ p AZ (GX rfl) (s1.free hp) ((hA.same s1).same (AQ.new hp)) (EY (s1.trans (AQ.new hp)))
 ·refine⟨dz,fun b hb=>?_⟩;have s2:AQ H' (upd H' b (.lst [.int 0])):=AQ.new hb;have HE:sizeLine=16777216:=rfl;refine⟨_,rfl,b,p,_,_,rfl,rfl,AZ,s2 _ _ hp,?_,fun p2 E7=>?_⟩
  ·rw [A5];show 1+GB.length<=sizeLine;lia
  ·rw [e]at q;have s3:AQ H' (upd (upd H' b (.lst [.int 0])) p2 (.lst ([.int 0]++GB.map V.int))):=s2.trans (AQ.new E7);obtain⟨zs,Qs⟩:=h1.lst;exact q _ p2 AZ (M7 hz) (s1.fresh Qs (s2.free E7)) (h1.same s3) (s1.trans (EY s3))
end
section
variable{C:Addr}
noncomputable def Mf(cs:List Hh)(i:Nat):List Int:=Rp (Ro Be Ly (cs.take i))
def AD2{cs:List Hh}{i:Nat}{c:Hh}(h:cs[i]? =some c):Mf cs (i+1)=Mf cs i++((((Be (JU Ly (cs.take i)) c).2.length:Nat):Int)::(Be (JU Ly (cs.take i)) c).2):=by
 have e1:cs.take (i+1)=cs.take i++[c]:=by rw [M9,h];rfl
 unfold Mf;rw [e1,lU,ADz]
def AD3{cs:List Hh}{i:Nat}{c:Hh}(h:cs[i]? =some c):JU Ly (cs.take (i+1))=(Be (JU Ly (cs.take i)) c).1:=by
 have e1:cs.take (i+1)=cs.take i++[c]:=by rw [M9,h];rfl
 rw [e1,lT]
def lW(K:Aj):Sp:=fun vs H Q _=> ∃(a:Addr)(l:List Int)(f:Nat)(cs:List Hh),vs=[.ref a]/\QC K H a l/\l.length<=8000/\Hv Fm f l=some cs/\cs.length<=400/\(∀c∈cs,EF c=true)/\
 ∀H' p,H' p=some (.lst ((Rp (Ro Be Ly cs)).map V.int))->AQ H H'->Q (.ref p) H'
def AD4:IC L2.K "answers" "answers" (top 212) MH fZ:=K2 (by kernel_rfl)
def AD5:
 C_ Fq 14 MH fZ ["calls"] (lW K):=by
 have S:Bj ["calls","accumulators","result","call","said"] ["calls"] (sc 212):=fS;refine AD4.ok S (by rintro _ _ _ _ ⟨_,_,_,_,rfl,_⟩;rfl) (fun _ _ _ _ _ H vs Q E hr h=>?_);obtain⟨a,l,f,cs,rfl,hl,hz,OS,AGg,AFE,q⟩:=h;refine⟨_,(AJ (pS 1 S.nd (ADy AAP (hr.mono dd) rfl)) (AJ (pS 2 S.nd (Ay AL)) (AJ (JD Gz rfl (NP (pD hr y9 (pO 0))) (FF (i:=3) S.nd rfl (Or.inl rfl)) (AJ (pS 4 S.nd (pD hr AD1 (pW 3 (pO 1)))) (AJ (Kr (Fp bZ ah qH Wd (pv 2) (AB (Cf H_ (by rfl) FR FQ (pO 4)) AL))) (Cj (Kr (Fp bZ AFX PySem.F.type_list_extend sN (pv 2) (pO 4))))))) (pR (pv 2))))),?_⟩;refine fun x dx nx nd ne=>⟨x,dx,rfl,AZ,fun H1 lA oO nl kp=>⟨rfl,?_⟩⟩
 have s1:AQ H H1:=Qb nx nd kp;refine⟨by decide,fun r EE=>?_⟩;have s2:AQ H1 (upd H1 r (.lst [])):=AQ.new EE;have Mv:=oO.same s2;obtain⟨ys,aP⟩:=oO.lst;have rl:r≠lA:=fun z=>by rw [z,aP]at EE;cases EE
 have nlA:H lA=none:=by
  have z1:lA≠x:=fun z=>by rw [z,AZ]at nl;cases nl
  rw [BC z1]at nl;have z2:lA≠dx:=fun z=>by rw [z,AZ]at nl;cases nl
  rw [BC z2]at nl;exact nl
 refine⟨_,rfl,a,l,f,cs,rfl,(hl.same s1).same s2,hz,OS,by lia,fun H3 p hp s3=>?_⟩;obtain⟨as,En,E7,hp3⟩:=hp;refine⟨p,rfl,⟨_,BL (Xu _ _ En)⟩,?_⟩;have kA:nw (upd H1 r (.lst [])) H3 lA=none:=Xv (s2 _ _ aP);have kr:nw (upd H1 r (.lst [])) H3 r=none:=Xv AZ;refine cg (xs:=as.map V.ref) (fun i σ H'=>AQ H H'/\AQ (nw (upd H1 r (.lst [])) H3) H'/\Bu CA CS H' x lA (JU Ly (cs.take i))/\H' r=some (.lst ((Mf cs i).map V.int))/\(Mf cs i).length<=i*30002/\ ∃z1 z2:Option V,σ=[some (.ref a),some (.ref x),some (.ref r),z1,z2])
  ⟨(s1.trans s2).trans s3,Xu,Mv.same s3,s3 _ _ AZ,DM _,_,_,rfl⟩ ?_ ?_ ?_
 ·rintro i σ H' _ ⟨_,k1,_⟩;exact BL (k1 _ _ En)
 ·rintro i y σ H' hy ⟨k0,k1,k2,k3,k4,z1,z2,rfl⟩;obtain⟨cc,GI,rfl⟩: ∃b,as[i]? =some b/\y=V.ref b:=by
   rw [De]at hy;cases e:as[i]? with
   |none=>rw [e]at hy;cases hy
   |some z=>rw [e]at hy;exact⟨z,rfl,(BQ hy).symm⟩
  have hi:i<cs.length:=by have :=(Fi.mp GI).1;lia
  obtain⟨c,hc⟩: ∃c,cs[i]? =some c:=⟨_,FY hi⟩;have hm:=FV hc;obtain⟨n,l1,xs,ec,hca⟩:=hp3 i cc c GI hc;obtain⟨n',nn,kk,l2,xs2,oP,Lb,e1,e2⟩:=lV OS c hm;rw [ec]at oP;injection oP with MH f2
  injection MH with f3 f4
  subst f2 f3 f4;obtain⟨VA,w1,w2,w3⟩:=X4 n nn kk Lb;have hak:=AFE c hm;rw [AD2 hc,AD3 hc];subst ec;generalize JU Ly (cs.take i)=st at k2⊢;generalize Mf cs i=sd at k3 k4⊢;refine⟨_,rfl,_,rfl,cc,x,lA,n,l1,xs,st,rfl,hca.same k1,VA,by lia,by lia,hak,k2,fun H4 p4 h4 z4 n4 a4 b4=>?_⟩;generalize Be st ((n::l1)::xs)=sp at h4 z4 a4⊢;have p4r:p4≠r:=fun z=>by rw [z,k3]at n4;cases n4
  have aQ:H4 r=some (.lst (sd.map V.int)):=b4 _ _ rl k3;have HE:sizeLine=16777216:=rfl;have big:sd.length+1+sp.2.length<=(i+1)*30002:=by
   rw [D3];lia
  have AGh:(i+1)*30002<=400*30002:=B2 _ (by lia);refine⟨_,rfl,.inl ⟨rfl,_,BL aQ⟩,_,rfl,p4,_,rfl,.inl (BL h4),?_⟩;refine⟨r,_,_,rfl,rfl,aQ,by rw [A5];lia,?_⟩;rw [A5];refine⟨_,rfl,.inl ⟨rfl,_,BL AZ⟩,_,rfl,r,p4,_,_,rfl,rfl,AZ,(BC p4r).trans h4,?_,?_⟩
  ·rw [CD,A5,A5,AFW];lia
  have ur: ∀(b:Addr)(o:HO)(o1 o2:HO),b≠r->H4 b=some o->upd (upd H4 r o1) r o2 b=some o:=fun b o o1 o2 hb e=>by rw [BC hb,BC hb];exact e
  have ne1: ∀b o,H b=some o->b≠r:=fun b o e z=>by rw [z,s1.free EE]at e;cases e
  have ne2: ∀b o,H b=some o->b≠lA:=fun b o e z=>by rw [z,nlA]at e;cases e
  refine⟨fun b o e=>ur b o _ _ (ne1 b o e) (b4 b o (ne2 b o e) (k0 b o e)),fun b o e=>ur b o _ _ (fun z=>by rw [z,kr]at e;cases e) (b4 b o (fun z=>by rw [z,kA]at e;cases e) (k1 b o e)),(a4.oN aQ rl).oN AZ rl,?_,?_,_,_,rfl⟩
  ·rw [AZ,Jm,Fj,Jp];rfl
  ·rw [CD,BU];lia
 ·rintro σ H' ⟨k0,k1,k2,k3,k4,z1,z2,rfl⟩;refine⟨_,rfl,q H' r ?_ k0⟩;rw [k3];unfold Mf;rw [A5,E7,Ip]
end
abbrev Wi(p:Int):Prop:= ∀{nn kk:Nat}{l:List Int}{xs:List (List Int)},Fm p=some (nn,kk)->l.length=nn->xs.length=kk->JA ((p::l)::xs)=(p::l)::xs
def Ug{p:Int}(hs:Fm p=some (1,0))(hw: ∀x0,JA [[p,x0]]=[[p,x0]]):Wi p:=fun h h1 h2=>by
 rw [hs]at h;cases h;obtain⟨_,rfl⟩:=CZ h1;obtain rfl:=Bc h2;exact hw _
def lX{p:Int}(hs:Fm p=some (1,1))(hw: ∀x0 y0,JA [[p,x0],y0]=[[p,x0],y0]):Wi p:=fun h h1 h2=>by
 rw [hs]at h;cases h;obtain⟨_,rfl⟩:=CZ h1;obtain⟨_,rfl⟩:=CZ h2;exact hw _ _
def AD6{p:Int}(hs:Fm p=some (1,2))(hw: ∀x0 y0 y1,JA [[p,x0],y0,y1]=[[p,x0],y0,y1]):Wi p:=fun h h1 h2=>by
 rw [hs]at h;cases h;obtain⟨_,rfl⟩:=CZ h1;obtain⟨_,_,rfl⟩:=DB h2;exact hw _ _ _
def Mg{p:Int}(hs:Fm p=some (2,0))(hw: ∀x0 x1,JA [[p,x0,x1]]=[[p,x0,x1]]):Wi p:=fun h h1 h2=>by
 rw [hs]at h;cases h;obtain⟨_,_,rfl⟩:=DB h1;obtain rfl:=Bc h2;exact hw _ _
def AD7{p:Int}(hs:Fm p=some (2,1))(hw: ∀x0 x1 y0,JA [[p,x0,x1],y0]=[[p,x0,x1],y0]):Wi p:=fun h h1 h2=>by
 rw [hs]at h;cases h;obtain⟨_,_,rfl⟩:=DB h1;obtain⟨_,rfl⟩:=CZ h2;exact hw _ _ _
def IX{p:Int}(hs:Fm p=some (3,0))(hw: ∀x0 x1 x2,JA [[p,x0,x1,x2]]=[[p,x0,x1,x2]]):Wi p:=fun h h1 h2=>by
 rw [hs]at h;cases h;obtain⟨_,_,_,rfl⟩:=Cn h1;obtain rfl:=Bc h2;exact hw _ _ _
def AD8{p:Int}(hs:Fm p=some (4,0))(hw: ∀x0 x1 x2 x3,JA [[p,x0,x1,x2,x3]]=[[p,x0,x1,x2,x3]]):Wi p:=fun h h1 h2=>by
 rw [hs]at h;cases h;obtain⟨_,_,_,_,rfl⟩:=len4 h1;obtain rfl:=Bc h2;exact hw _ _ _ _
def AD9{p:Int}(hs:Fm p=some (5,0))(hw: ∀x0 x1 x2 x3 x4,JA [[p,x0,x1,x2,x3,x4]]=[[p,x0,x1,x2,x3,x4]]):Wi p:=fun h h1 h2=>by
 rw [hs]at h;cases h;obtain⟨_,_,_,_,_,rfl⟩:=UX h1;obtain rfl:=Bc h2;exact hw _ _ _ _ _
def DG{p:Int}{l:List Int}(h:Wi p)(t: ∀q∈l,Wi q): ∀q∈p::l,Wi q:=fun q hq=>by
 rcases DL.mp hq with e|e
 ·subst e;exact h
 ·exact t q e
def AD_: ∀q∈([0,1,2,3,4,5,6,7,8,9,10,11,12,13,14,15,16,17,18,19,20,21,22,23,24,25,26,27]:List Int),Wi q:=
 DG (AD8 rfl fun _ _ _ _=>rfl) (DG (Mg rfl fun _ _=>rfl) (DG (AD9 rfl fun _ _ _ _ _=>rfl) (DG (IX rfl fun _ _ _=>rfl) (DG (IX rfl fun _ _ _=>rfl) (DG (IX rfl fun _ _ _=>rfl) (DG (Mg rfl fun _ _=>rfl) (DG (Ug rfl fun _=>rfl) (DG (IX rfl fun _ _ _=>rfl) (DG (IX rfl fun _ _ _=>rfl) (DG (IX rfl fun _ _ _=>rfl) (DG (Mg rfl fun _ _=>rfl) (DG (Ug rfl fun _=>rfl) (DG (Mg rfl fun _ _=>rfl) (DG (IX rfl fun _ _ _=>rfl) (DG (IX rfl fun _ _ _=>rfl) (DG (IX rfl fun _ _ _=>rfl) (DG (IX rfl fun _ _ _=>rfl) (DG (Ug rfl fun _=>rfl) (DG (lX rfl fun _ _=>rfl) (DG (lX rfl fun _ _=>rfl) (DG (AD6 rfl fun _ _ _=>rfl) (DG (AD7 rfl fun _ _ _=>rfl) (DG (Ug rfl fun _=>rfl) (DG (Mg rfl fun _ _=>rfl) (DG (IX rfl fun _ _ _=>rfl) (DG (Mg rfl fun _ _=>rfl) (DG (Mg rfl fun _ _=>rfl) (fun q hq=>(Vj hq).elim))))))))))))))))))))))))))))
def AEA{n:Int}{nn kk:Nat}{l:List Int}{xs:List (List Int)}(h:Fm n=some (nn,kk))(h1:l.length=nn)(h2:xs.length=kk):JA ((n::l)::xs)=(n::l)::xs:=
 AD_ n (by
  obtain⟨⟨a,b⟩,_⟩:=X4 n nn kk h;simp only [DL,Vj];lia) h h1 h2
def AEB{l:List Int}(h:qV l=true): ∃cs,Hv Fm l.length l=some cs/\cs.length<=400/\(∀c∈cs,EF c=true)/\qW l=Rp (Ro Be Ly cs):=by
 unfold qV at h;unfold qW;unfold PyWrquad.calls at *
 cases e:Hv Fm l.length l with
 |none=>rw [e]at h;cases h
 |some cs=>
  rw [e]at h;have ew:cs.map JA=cs:=by
   have : ∀c∈cs,JA c=id c:=fun c hc=>by
    obtain⟨n,nn,kk,l,xs,rfl,h1,h2,h3⟩:=lV e c hc;exact AEA h1 h2 h3
   rw [bA this,List.map_id]
  dsimp only at h⊢;rw [ew]at h⊢;unfold PyFlat.atMost WrquadNeutral.asked at h;rw [BK,BK,Bw]at h;exact⟨cs,rfl,h.1,GS.mp h.2.1,rfl⟩
end Q3
namespace Hd
open PySem PySem.W L2
noncomputable def ev:List Obj->List Obj
 |a::_::r=>a::ev r
 |l=>l
noncomputable def od:List Obj->List Obj
 |_::b::r=>b::od r
 |_=>[]
noncomputable def bt:Nat->List Obj->BT
 |n+1,v::r=>.node v (bt n (ev r)) (bt n (od r))
 |_,_=>.nil
def tb(k:Nat):Nat×Nat:=tab.getD k (0,0)
noncomputable def St(k:Nat)(w:World)(os:OsState):SharedT:=⟨bt 12 (objs k w.params),(tb k).1,{}, #[],{},(tb k).2,os⟩
noncomputable def env:Env:={scope:=pr.main.scope,locals:=mainNs,globals:=mainNs,cells:=[],code:=.ref 13,frame:=some 14}
def cE:Code:=.body (behindTheImports pr) env
noncomputable def pos(k:Nat):Pos:=match k with
 |0=>⟨0,0,0,0⟩
 |k+1=>ps (pr.main.body.getD k (.Pass ⟨0,0,0,0⟩))
theorem tw{w:World}
 (h:Fast.tw10110043849684766642 Fast.tw14364793385576792824 pr w 11 (some (.ref 6)) 1 n s ⟨(Fast.tw12563942051412417395 l env).wrap doneF deadEnd id id,c,p,[topFrame q]⟩=r):
 segRunT treeTable pr w 11 (some (.ref 6)) 1 n s (piecesOf l env c p [topFrame q])=r:=by
 show segRunT treeTable pr w 11 (some (.ref 6)) 1 n s ⟨(execs l env).wrap doneF deadEnd id id,c,p,[topFrame q]⟩=r;rw [Fast.te10110043849684766642,qX,Fast.te12563942051412417395];exact h
abbrev Pc(k m:Nat)(w:World):Prop:= ∀os:OsState,segRunT treeTable pr w 11 (some (.ref 6)) 1 2000 (St k w os) (piecesOf (sl k m) env cE (pos k) [topFrame ⟨0,0,0,0⟩])=some (.next,St (k+m) w os,cE,pos (k+m))
theorem p0(w:World):Pc 0 8 w:=fun os=>tw (by kernel_rfl)
theorem p8(w:World):Pc 8 32 w:=fun os=>tw (by kernel_rfl)
theorem p40(w:World):Pc 40 39 w:=fun os=>tw (by kernel_rfl)
theorem Xt: ∀w:World,Pc 79 4 w:=byRow2 "special-get-raises" (fun w os=>tw (by kernel_rfl)) (fun w os=>tw (by kernel_rfl))
theorem p83(w:World):Pc 83 37 w:=fun os=>tw (by kernel_rfl)
theorem AEC(w:World):Pc 120 29 w:=fun os=>tw (by kernel_rfl)
theorem AED(w:World):Pc 149 31 w:=fun os=>tw (by kernel_rfl)
theorem AEE(w:World):Pc 180 27 w:=fun os=>tw (by kernel_rfl)
theorem AEF: ∀w:World,Pc 207 6 w:=byRow2 "special-get-raises" (fun w os=>tw (by kernel_rfl)) (fun w os=>tw (by kernel_rfl))
abbrev q0:Pos:=⟨0,0,0,0⟩
abbrev an:Option Value:=some (.ref 6)
theorem pre(w:World)(os:OsState):topGo treeTable pr w 11 an 12 ⟨Oz w.params, #[],boot_drawn,boot_toks,os⟩ (topStub pr)=some ((St 0 w os).abs,⟨denote treeTable cE,cE,q0,[topFrame q0]⟩):=by
 rw [Fast.te15667345088766844465,qX,Fast.te11892475500146522536];kernel_rfl
theorem blk(w:World)(os:OsState):segRun treeTable pr w 11 an 1 10 (St 0 w os).abs (blockOf (behindTheImports pr) env cE q0 [topFrame q0])=some (.next,(St 0 w os).abs,cE,q0):=by
 show segRun treeTable pr w 11 an 1 10 (St 0 w os).abs ⟨(blockStart (behindTheImports pr) env).wrap (fun _=>doneF .next) deadEnd id id,cE,q0,[topFrame q0]⟩=_;rw [Fast.te14374325043358763698,qX,Fast.te1066825118222455980];kernel_rfl
theorem body:behindTheImports pr=sl 0 8++(sl 8 32++(sl 40 39++(sl 79 4++(sl 83 37++(sl 120 29++(sl 149 31++(sl 180 27++(sl 207 6++[])))))))):=by kernel_rfl
theorem fin(w:World)(s:Shared)(c:Code)(p:Pos):topRun treeTable pr w 11 an 9 s ⟨doneF .next,c,p,[topFrame q0]⟩=some s:=by
 obtain⟨h,g,d,t,o⟩:=s;kernel_rfl
def H1(P:Params):Heap:=absHeap (bt 12 (objs 213 P)) 1207 {}
theorem run(w:World)(os:OsState):topRun treeTable pr w 11 an (12+(10+(2000+(2000+(2000+(2000+(2000+(2000+(2000+(2000+(2000+9))))))))))) ⟨Oz w.params, #[],boot_drawn,boot_toks,os⟩ (topStub pr)=some ⟨H1 w.params, #[],{},2027,os⟩:=by
 refine go_top (pre w os) (piece_block (blk w os) ?_);rw [body];exact Lz (L0 (p0 w os)) (Lz (L0 (p8 w os)) (Lz (L0 (p40 w os)) (Lz (L0 (Xt w os)) (Lz (L0 (p83 w os)) (Lz (L0 (AEC w os)) (Lz (L0 (AED w os)) (Lz (L0 (AEE w os)) (Lz (L0 (AEF w os)) (piece_nil (fin w _ _ _))))))))))
theorem size(w:World):((Oz w.params).isNs mainGlobals&&(#[]:Array GenState).size==0,(Oz w.params).objs.size,(Oz w.params).nsMap mainGlobals "__annotations__")=(true,11,an):=by
 kernel_rfl
theorem AEG(w:World)(os:OsState):(staticsOk (importedModules pr.main.body) (Oz w.params) (H1 w.params))=true:=by kernel_rfl
theorem AEH(w:World)(os:OsState):(namesBound pr (H1 w.params))=true:=by kernel_rfl
theorem AEI(w:World)(os:OsState):(gensDone ⟨H1 w.params, #[],{},2027,os⟩)=true:=by kernel_rfl
theorem AEJ(w:World)(os:OsState):(laidKept (Oz w.params) (H1 w.params))=true:=by kernel_rfl
theorem AEK(w:World)(os:OsState):openSeen qr loose (importedModules pr.main.body) (fun _=>true) true ⟨H1 w.params, #[],{},2027,os⟩=openGood qr loose:=by
 rw [Fast.te4187177175401517315,Fast.te5923862056798008813];kernel_rfl
open PyProof.Rows
theorem AEL: ∀(l:List Obj)(i:Nat),(O3 i l).lookup a=some o-> ∃j,a=i+j/\l[j]? =some o:=by
 intro l
 induction l with
 |nil=>intro i h;exact absurd h (by simp [O3])
 |cons x r ih=>
  intro i h;have h:((i,x)::O3 (i+1) r).lookup a=some o:=h;rw [Jg]at h;split at h
  ·rename_i e;exact⟨0,GP.mp e,h⟩
  ·obtain⟨j,e1,e2⟩:=ih (i+1) h;exact⟨j+1,by lia,e2⟩
theorem laid(P:Params):((bt 12 (objs 213 P)).list 1207,(objs 213 P).all fun o=>match o with |⟨_,_,.freed,_⟩=>false|_=>true)=(objs 213 P,true):=by kernel_rfl
theorem kin(P:Params):(KK P).In (H1 P):=fun a o h=>by
 obtain⟨j,e1,e2⟩:=AEL _ _ h;rw [Jl]at e1;subst e1;obtain⟨l1,l2⟩:=bP (laid P);have e3:(H1 P).objs[a]? =some o:=by
  show((bt 12 (objs 213 P)).list 1207).toArray[a]? =some o;rw [l1,List.getElem?_toArray];exact e2
 have e4:=GS.mp l2 o (FV e2);unfold Heap.get?;rw [e3];split
 ·rename_i e;cases e;cases e4
 ·rfl
theorem left:LeftO pr qr loose (fun _=>true) pY (fun w=>H1 w.params) 20000:=
 LeftO.of_pieces (boot_open (by kernel_rfl) rfl fun s=>rfl) size run rfl fun w=>by
  funext os;rw [AEG w os,AEH w os,AEI w os,AEJ w os,AEK w os];rfl
end Hd
set_option tactic.hygienic true
namespace Q3
open PySem PySem.W PyProof.Rows L2
theorem AEM:(match L2.K.lookup 3 with |some ⟨_,_,.dict es _,_⟩=> !es.toList.any (·.refKey)|_=>false)=true:=by kernel_rfl
theorem AEN(X:L2.K.In h)(G:h.Ns mainGlobals m):m=L2.mg:=by
 funext x;show m x=(nsIn L2.K 3 x).getD none;cases e:nsIn L2.K 3 x with
 |some v=>
  cases v with
  |none=>exact mg_none_of X G e
  |some v=>exact mg_of X G e
 |none=>
  exfalso;have hh:=AEM;unfold nsIn at e;split at e
  ·rename_i e';rw [e']at hh;dsimp only at hh;split at e
   ·cases e
   ·split at e
    ·rename_i e3;rw [e3]at hh;cases hh
    ·cases e
  ·rename_i ZS;split at hh
   ·rename_i e';exact ZS _ _ _ _ _ e'
   ·cases hh
theorem AEO:L2.mg "answers"=some (.ref MH):=by kernel_rfl
abbrev row:OpenSpec:=PySem.Challenge.rw_quadnumbers_s01_answers
theorem GB:row.wellSaid=true:=Hd.Rw
theorem FI(H:Hp)(xs:List V)(a:pM row.args)(hO:SE H)(hi:Codec.withinAll row.args a=true)(ha:qY row.args row.asked a=true)(hD:HS L2.K H xs (Vb row.args a)):
 lW L2.K xs H (fun v H'=>Dw L2.K H' v (row.ret.enc (qY row.args row.f a))) fun _ _ _=>False:=by
 obtain⟨l,u⟩:=a;have hD:HS L2.K H xs [.list (l.map bD)]:=hD;have ha:qV l=true:=ha;have hi:((Codec.inNat 0 8000 l.length&&l.all (Codec.within (.int (Int.negSucc 2147483647) (Int.ofNat 340282366920938463463374607431768211455))))&&true)=true:=hi;simp only [BK,Codec.inNat,Bw]at hi;obtain⟨cs,h1,h2,h3,h4⟩:=AEB ha;cases hD with
 |cons d1 d2=>
  cases d2;cases d1 with
  |lst hs hd=>
   have e:=eB l _ hd;subst e;refine⟨_,l,l.length,cs,rfl,hs,hi.1.1.2,h1,h2,h3,fun H' p hp hS=>?_⟩;show Dw L2.K H' (.ref p) (.list ((qW l).map bD));rw [h4];exact .lst (BL hp) (d_ _)
theorem walk:Hd.Bd L2.w:=by
 intro w' EA Bl mg' mb G Y fa o pm cd doc dV kV ho hd Fx hDf VI hg args vals as AFF AFG mn Mr HD;obtain⟨KX,rfl⟩:=Y;have KX:L2.K.In Bl.heap:=KX;obtain rfl:=AEN KX G.T.g;obtain⟨a,e1,e2⟩:=os_pre_some AFF;obtain⟨e3,oQ⟩:=Codec.encAll_of_decAll row.args args a e1;subst e3;have VI:L2.mg "answers"=some (.ref fa):=VI;obtain rfl:MH=fa:=by rw [AEO]at VI;cases VI;rfl
 refine enter_call (RI (uB (R:=[]) (cl:=classAt EA.heap) (d0:=row.ret.enc (qY row.args row.f a)) KX G.T.g G.T.b G.T.builtins G.T.nolimit G.T.nodigits hg Mr (eG _ _) (uC AFG) (ps:=["calls"]) ⟨rfl,by decide,by decide⟩ AD5
  (fun s us hl=>.of_eq (fB (by kernel_rfl) rfl hl)) (by rw [eP];rfl)
  (fun H xs hO hS=>FI H xs a hO oQ e2 hS) fun H e s' z=>z) fun r' s' hq=>?_)
 obtain⟨u,Je,rfl,h1,h2,h3,h4⟩:=hq;exact⟨.inl ⟨u,_,Je,rfl,fun _=>rfl,h1,(OpenSpec.post_iff GB oQ _ _).mpr rfl,fun z=>E9 (show false=true from z)⟩,h2,h3,h4⟩
theorem AEP(w:World):Hd.Bd w:=SX fun h=>Classical.epsilon_spec (p:=fun v=> ¬Hd.Bd v) ⟨w,h⟩ walk
end Q3
open PySem PySem.W in
theorem PySem.Challenge.cw_quadnumbers_s01_answers_holds : PySem.Challenge.rw_quadnumbers_s01_answers.Holds := by
 refine holds_os (q:=Hd.qr) (loose:=Hd.loose) (XP:=fun _ _=>True) (YP:=fun w h=>(Hd.KK w.params).In h) (d:=Hd.dr) (kwd:=[]) Hd.left (fun w s e=>e▸Hd.kin _) (fun w h h' x k=>x.keeps k) (fun _ _=>trivial) (fun _ _ _ _ _=>trivial) (by kernel_rfl) (by kernel_rfl) (by kernel_rfl) (fun s _=>recFacts_of rfl) os_shapes Q3.GB (by decide+kernel) Hd.R9 ?_ ?_
 ·exact⟨[.list []],by decide+kernel,by decide+kernel⟩
 ·exact fun w AFH Bl mg mb G Y=>Q3.AEP w w AFH Bl mg mb G ⟨Y,rfl⟩
set_option tactic.hygienic false
