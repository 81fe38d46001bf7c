import PyProof.Rows.All
import Wide.All
import OpenK.AllK
import Wide.FinOn
import PyProof.EqAt
import PyProof.EqKinds
import PyProof.TupleCall
import KE.BitLaws
import KE.IntTextLaws
import Open.SpecLaws
import KE.OsHead
import KE.OsGo
import PyFlatLaws
import PyWqgarh
import PySem.Challenge.RW_pallethallfare_s01_answers
set_option Elab.async false
set_option linter.all false
set_option maxRecDepth 100000
set_option maxHeartbeats 4000000
namespace PySem.W.Fast
def tw10714919952297545597:=True
def tw11342975874743171643:=True
def tw12854313391490555946:=True
def tw8922062969024849915:=True
def tw16376461258909554047:=True
def tw17200793910676739594:=True
def tw17385637570373037508:=True
def tw17516492188577885018:=True
def tw94219621424896521:=True
def tw6832981484764173792:=True
def tw14404301522480239291:=True
def tw2706163084195509604:=True
def tw859114879617873294:=True
def tw14722881446244783294:=True
def tw1567346779657780290:=True
def tw18417219363873386082:=True
def tw3817530270796410359:=True
def tw10317409992291576956:=True
def tw5020518712709193120:=True
def tw6648572095531705098:=True
def tw17758108747541234473:=True
def tw5540079570874830876:=True
def tw6116719715660365436:=True
def tw6177605046756470219:=True
def tw4214333738650198155:=True
def tw16609486977625030941:=True
def tw1615173112744314328:=True
def tw17799578251359262353:=True
def tw8050216262058904412:=True
def tw997609202001879300:=True
def tw7392482818270342897:=True
def tw683757073941676737:=True
def tw9151385909578519498:=True
def tw4400792074470158144:=True
def tw5664019198572280744:=True
def tw7502686969031605737:=True
def tw2787825780855774818:=True
def tw1008395623142832950:=True
def tw4644461764658815295:=True
def tw5248845041940603915:=True
def tw15719526913621504166:=True
def tw206483032743999265:=True
def tw2305247218930859629:=True
def tw1404044003736675039:=True
def tw15902295461493891036:=True
def tw15307852467011457540:=True
def tw12276871035497414318:=True
def tw10067679309566148184:=True
def tw15588581576574131491:=True
def tw7240767480494247416:=True
def tw5600399516243848185:=True
def tw10376228504370015872:=True
def tw9439408005323647585:=True
def tw10752769568294317824:=True
def tw2562065729149335143:=True
def tw14525494399640650734:=True
def tw7437452469406960494:=True
def tw17584638686097354661:=True
def tw3860961135507928560:=True
def tw2465441626556477377:=True
def tw9314685583406669911:=True
def tw10044797195959759218:=True
def tw5245572824302493395:=True
def tw15226562686493537574:=True
def tw4964564060452375705:=True
def tw15012690729108132440:=True
def tw3009316740095392648:=True
def tw10385702395290114183:=True
def tw3980100759498837212:=True
def tw11922772052153524510:=True
def tw8000501951349555988:=True
def tw9596160227870638006:=True
def tw9645406244582818091:=True
def tw3269633819176849080:=True
def tw5812123480218970260:=True
def tw16298886855183259502:=True
def tw10249861076659117167:=True
def tw8821002916756241489:=True
def tw13862555702940846461:=True
def tw2438552029717337187:=True
def tw11508508560019422112:=True
def tw16967989288188080285:=True
def tw2208718284195979683:=True
def tw6479314366853635215:=True
def tw16733013680201857186:=True
def tw12665001005372141672:=True
def tw3315082284601764449:=True
def tw4626739689311980599:=True
def tw7154406416268853475:=True
def tw10623605922768863995:=True
def tw7512128563807534264:=True
def tw15595214643369471676:=True
def tw472040866647872148:=True
def tw13757767175450893060:=True
def tw16464778239340926311:=True
def tw7083979762763994659:=True
def tw9196347754465522473:=True
def tw5421057994916827205:=True
def tw8142005535101810135:=True
def tw10733977857321821540:=True
def tw12486617579619771855:=True
def tw5977926034587512879:=True
def tw7353078155847092886:=True
def tw5225127954520713680:=True
def tw5979000723431286927:=True
def tw16925577516393440534:=True
def tw11914014067713444537:=True
def tw17651915657458549705:=True
def tw3345636681675701706:=True
def tw8193639518684057978:=True
def tw15631291093735768851:=True
def tw1149097073741866404:=True
def tw17966937221323248702:=True
def tw15518547098110406159:=True
def tw2453161198575090882:=True
def tw13743626611209448962:=True
def tw9940749009775500879:=True
def tw14326299931452052131:=True
def tw1454353459888820845:=True
def tw8043307324012583478:=True
def tw8132589982253745979:=True
def tw11667014351991645051:=True
def tw1771591715344047839:=True
def tw15369051777312151754:=True
def tw6665473001505795136:=True
def tw17122401278663785060:=True
def tw1992890231460342100:=True
def tw8831099623995936578:=True
def tw15451109975542453303:=True
def tw7925136349983595098:=True
def tw15339141902295741458:=True
def tw2831101524170580250:=True
def tw9636986215706415577:=True
def tw10375175037506054344:=True
def tw12374434743205326907:=True
def tw757569581049303169:=True
def tw14638957956876404168:=True
def tw70460622950205768:=True
def tw4986620148749252028:=True
def tw880727388517638937:=True
def tw14791889839482340058:=True
def tw1206475260399799271:=True
def tw17033675449567751685:=True
def tw16187350817993409925:=True
def tw3061222788263036383:=True
def tw14334726395456161683:=True
def tw10641208506579552825:=True
def tw15754618625337447112:=True
def tw8697069391005784647:=True
def tw9819167140307733962:=True
def tw6812741563520528738:=True
def tw1465668634320914452:=True
def tw16930783815524570539:=True
def tw3620865077708180142:=True
def tw17378521772535844322:=True
def tw9226451855251634291:=True
def tw2160858473915243542:=True
def tw9137410888516433177:=True
def tw9614356070652549225:=True
def tw496436185241377322:=True
def tw1812457332083025097:=True
def tw5202839583121469135:=True
def tw16152657489327188223:=True
def tw12691379228589623978:=True
def tw8883477574776283719:=True
def tw12207351912348707590:=True
def tw12417862848201872745:=True
def tw9848504154533129411:=True
def tw57616691639837246:=True
def tw13957222393311630459:=True
def tw16358876743418664704:=True
def tw2274094220517959234:=True
def tw14188171816745793409:=True
def tw10624151703447715856:=True
def tw9012864051212621693:=True
def tw16367165825330730041:=True
def tw2847499394358740905:=True
def tw18315104382196194580:=True
def tw7633652566615627427:=True
def tw16059400000766398433:=True
def tw3914222903931499022:=True
def tw16932350872054669085:=True
def tw13197011735521260282:=True
def tw5233171745216313011:=True
def tw6516217682349010286:=True
def tw15131355932300541054:=True
def tw2843728939153933159:=True
def tw10147244706827696143:=True
def tw16070594756080856675:=True
def tw5736128895259022510:=True
def tw3346648993222005743:=True
def tw15776521348987681270:=True
def tw4847362040827226148:=True
def tw13280951327027767887:=True
def tw15358801096805666682:=True
def tw11025613829416246202:=True
def tw3870434887026283248:=True
def tw11072227050869865460:=True
def tw12759210066310799629:=True
def tw14706093610030814045:=True
def tw15474290543826381120:=True
def tw11743527873616014075:=True
def tw10221588656094964212:=True
def tw5596382699244940192:=True
def tw1860295337967913696:=True
def tw6308013581541978845:=True
def tw12358608854770696746:=True
def tw1057339618678328551:=True
def tw18441570562914796206:=True
def tw15670885258481884433:=True
def tw14710476211461339779:=True
def tw12308293788519732496:=True
def tw14891380926125436250:=True
def tw7066383021707832534:=True
def tw5129402916308250182:=True
def tw12425407201219474223:=True
def tw13983261502638344987:=True
def tw12162577068917896367:=True
def tw2175591506356367961:=True
def tw8649345023090045843:=True
def tw18272358424128573246:=True
def tw14822834232456021383:=True
def tw2762477859917488726:=True
def tw6349191364764910388:=True
def tw11485486125123969274:=True
def tw12344423402164068205:=True
def tw2480580927440889788:=True
def tw2441600766769025520:=True
def tw10151950439596860970:=True
def tw5687876809318067857:=True
def tw15100868189376634726:=True
def tw3897207440974006944:=True
def tw11138782449160127782:=True
def tw10690129298166592955:=True
def tw11407621619436299806:=True
def tw18088521875044159624:=True
def tw3541072982644892738:=True
def tw5302588373024942567:=True
def tw9265664082157508213:=True
def tw12638978908280864046:=True
def tw113862143957567389:=True
def tw8679199886615961695:=True
def tw6830893270737034494:=True
def tw13271324087803911768:=True
def tw12706771692850708974:=True
def tw9510454231636205431:=True
def tw15130437864734457690:=True
def tw273249653608831265:=True
def tw8783656698947199013:=True
def tw17716730898125365066:=True
def tw16519998152694740639:=True
def tw16974164801832243155:=True
def tw8109558154448081345:=True
def tw13125888594155545318:=True
def tw4333040590165383943:=True
def tw2937902903491496715:=True
def tw15049307550907926819:=True
def tw10867079898153200913:=True
def tw14470348493019638731:=True
def tw10755500784736480327:=True
def tw10824096118070561336:=True
def tw14098039009810214453:=True
def tw10472460808630697112:=True
def tw7581594126489906740:=True
def tw14614930540003447604:=True
def tw16861500060839989801:=True
def tw7146321056408774774:=True
def tw4984286461934967193:=True
def tw685438818239474164:=True
def tw9646331457200772337:=True
def tw15869689036015435542:=True
def tw8501647064316985343:=True
def tw10896096138253760264:=True
def tw12079201661244420953:=True
def tw2060769335418387371:=True
def tw3702662187181635749:=True
def tw8940021045842830905:=True
def tw15259107621563767432:=True
def tw4085263287238925275:=True
def tw3270284292543415650:=True
def tw11453273024683697800:=True
def tw4111562461779870186:=True
def tw17948362752212507786:=True
def tw15359517212485765816:=True
def tw14288029973414484152:=True
def tw13617747184303544972:=True
def tw6689855383909230616:=True
def tw2920096475315919829:=True
def tw8571984094578317073:=True
def tw10170406766783573022:=True
def tw234487160436876525:=True
def tw17724015255880719582:=True
end PySem.W.Fast
section
open PySem PySem.W
local macro_rules|`(tactic|k_head)=>`(tactic|k_headS)
local macro_rules|`(tactic|w_witness2)=>`(tactic|exact ⟨[.list [.int 2]], by decide +kernel, by decide +kernel⟩)
set_option maxHeartbeats 0 in
open_top Fare.hd for PySem.Challenge.rw_pallethallfare_s01_answers
end
namespace FM
end FM
namespace FL
end FL
namespace L2
end L2
open List FM FL
open Bool renaming and_eq_false_iff->Sy,and_eq_true->NW,and_eq_true_iff->O9,and_false->RN,and_true->R6,eq_false_iff->Pf,eq_iff_iff->QU,false_and->OQ,false_eq_true->RP,false_ne_true->N2,false_or->Rr,not_eq_true'->Rh,or_eq_false_iff->SM,or_eq_true->Pa,or_false->U9,true_and->Op
open FareNeutral renaming callOf->VH,nats->OP,start->O5,step->Ot,text->OI
open FareSpec renaming Call->OY,State->OS,no->Ov,step->PK
open FrCoins renaming KINDS->PJ,change->Qq,least->Vb
open FrCover renaming Bought->RU,Who->Ob,covered->Sx,endOf->OZ,leastOf->Pb,row->SU,rowFrom->Sv,shelf->Vc,timeOf->SQ,weights->QX
open FrTariff renaming CENTS->UZ,CLASSES->Sc,DAY->Rl,Holds->Rg,Product->N1,Tariff->N9,readTariff->Tb
open FrTicket renaming Ticket->OF,base->Qy,best->ON,owes->O1,price->Rj
open GarText renaming Bytes->OB,isName->SS,lines->Pc,words->PH
open Int renaming mul_one->Vu,natCast_add->Uy,natCast_ediv->Sb,natCast_mul->Qx,ofNat->OW,ofNat_le->RG,toNat_natCast->QB
open List renaming all_cons->Qc,all_eq_true->OM,all_map->SX,any_cons->QQ,any_eq_true->SH,any_map->RY,append_assoc->Oz,append_nil->OC,cons->PB,cons_append->QG,count_cons->UW,dropLast_concat_getLast->R_,dropLast_eq_take->Sa,dropLast_sublist->Uk,drop_drop->SZ,drop_eq_getElem_cons->Pk,drop_eq_nil_of_le->O0,drop_left'->U3,drop_succ_cons->UX,drop_zero->RJ,eq_nil_of_length_eq_zero->Qk,ext_getElem->SL,ext_getElem?->RF,filterMap_cons->Ql,filter_append->Rt,filter_cons->Qh,filter_eq_self->OR,filter_map->RT,find?_append->RH,find?_cons->Pi,find?_eq_none->Rs,find?_some->UT,findSome?_cons->PM,flatMap_append->QH,flatMap_cons->PV,flatMap_def->Uu,flatMap_nil->Uq,flatten_cons->QJ,foldl->UJ,foldl_append->PU,foldl_cons->UK,forIn_cons->Tn,forIn_nil->Ub,forall_mem_cons->RC,fst_mem_of_mem_zipIdx->Pw,getD->Q7,getD_eq_getElem?_getD->OO,getElem?_append_left->O7,getElem?_append_right->OJ,getElem?_cons_succ->Ts,getElem?_cons_zero->Tr,getElem?_eq_getElem->PQ,getElem?_eq_none->Qn,getElem?_eq_none_iff->Pu,getElem?_eq_some_iff->N4,getElem?_map->NZ,getElem?_range->Qa,getElem?_replicate->RM,getElem?_reverse->Ug,getElem?_set->TR,getElem?_set_ne->Sr,getElem?_set_self->RW,getElem?_zipIdx->Su,getElem?_zip_eq_some->O_,getElem_append->US,getElem_mem->Ps,getElem_replicate->TN,getLast?_eq_getElem?->Rx,getLast?_map->QK,getLastD_eq_getLast?->PN,length->Os,length_append->Of,length_cons->Ol,length_drop->Q5,length_dropLast->QW,length_eq_zero_iff->Tq,length_filterMap_le->Ta,length_filter_le->QL,length_map->NV,length_nil->P6,length_pos_iff->RR,length_range->Re,length_replicate->Pj,length_reverse->UV,length_set->UH,length_take->QE,length_zip->Qv,length_zipIdx->QT,lookup->OV,lookup_cons->Qs,map->OX,map_append->Oj,map_congr_left->Om,map_cons->Oo,map_drop->Rk,map_eq_nil_iff->UY,map_filterMap->Vd,map_fst_zip->Ut,map_id->VG,map_map->On,map_nil->QC,map_replicate->QS,map_set->TU,map_snd_zip->Us,map_take->VC,mem_append->OK,mem_append_left->Uv,mem_append_right->Py,mem_cons->Og,mem_cons_of_mem->N5,mem_cons_self->Oi,mem_filter->Qj,mem_filterMap->Rq,mem_iff_getElem?->QM,mem_map->Oq,mem_of_find?_eq_some->Rw,mem_of_getElem?->Oe,mem_of_mem_drop->Sw,mem_of_mem_take->Ss,mem_or_eq_of_mem_set->Ry,mem_range->Px,mem_reverse->Ur,mem_singleton->OT,mem_zipIdx_iff_getElem?->R9,nil_append->Pd,nodup_append->RI,nodup_cons->Pq,nodup_iff_pairwise_ne->Sz,nodup_nil->SY,not_mem_nil->Oy,of_mem_zip->RL,range->N0,range_succ->P_,range_succ_eq_map->Qe,replicate->N7,replicate_succ->QF,reverse_append->UU,reverse_cons->TQ,reverse_reverse->Ux,set->Pl,size_toArray->Ow,sum_cons->QR,take_add_one->Pg,take_append_drop->Ui,take_length->Qg,take_of_length_le->OD,take_succ_cons->RQ,toList_toArray->UN,zipIdx_cons->R3
open Nat renaming add_comm->Sk,add_le_add_right->SR,add_sub_cancel->Tt,div_mul_le_self->Tc,le_add_right->P0,le_of_eq->Ra,le_of_lt->Sd,le_of_succ_le->Rb,le_refl->NX,le_succ->PY,le_succ_of_le->TV,le_trans->Od,lt_irrefl->Pn,lt_of_le_of_lt->O8,lt_of_lt_of_le->Ou,lt_or_ge->Vs,lt_succ_of_lt->RZ,lt_succ_self->Rm,lt_trans->Vq,min_eq_left->Ph,min_eq_right->Qp,min_le_left->Qw,min_le_right->QI,mul_comm->TF,mul_le_mul_left->PR,mul_le_mul_right->Qi,ne_of_gt->Q9,ne_of_lt->OL,one_pos->VB,reduceSub->Tj,strongRecOn->RB,sub_self->Ri,sub_zero->Sn,succ_le_succ->Uj,succ_pos->So,toDigitsCore->Uh,zero_add->RE,zero_le->OA
open Option renaming bind->R4,bind_some->Uf,getD_none->Ua,isSome_iff_exists->QP,isSome_map->Rc,isSome_some->RO,map->Qu,map_eq_some_iff->Oc,map_some->QV,ne_none_iff_exists'->Qb,none->R1,some->N6
open PyFlat renaming put->Pe
open PyInside renaming within->N8
open PyProof.Rows renaming AllBare->SW,Call_->UC,IntsAre->TH,IsTup->Td,IsTupIter->P5,MethAt->Vr,RelV->O6,Subscript_->UG,all_range->Vj,any_range->Vi,args_tupleiter_next->S_,boot_range->Sg,entry_tupleiter_next->SK,envOfC->Si,foldl_rep->Vh,slot_tupleiter_next->QO,subscriptTail->Th,subscriptTail_builtinR->Sj,vals1->Vv
open PySem renaming Args->Uw,Around->OG,BindsTo->Tz,Builtin->Ox,Callee->U4,CmpOp->R7,Code->U7,DictEntry->Q4,Env->Tk,Expr->OH,FuncData->Qm,IsPair->P7,IsPart->T_,IsRangeIter->SB,IsZip->RD,Keyword->Vp,Model->Vf,NameKind->O4,Operator->Tw,Paired->Q8,Params->SJ,PassesOwn->OU,Pos->Q2,Program->N3,PyData->Qz,Reads->R8,ReadsAll->Vy,Result->VF,Runs->Vt,Scope->QA,Sem->VD,Shared->NY,Stmt->OE,Str->N_,Tok->Ve,TupAt->Vm,Value->NU,World->Oh,ZipApart->SG,assign->TY,assignEach->QY,atKey->Uo,attributeBase->PD,backToKw->SD,behindInMarks->PX,binaryOp->RK,bindArgs->Vw,bindC->UF,bindL->UE,bootBuiltins->Pp,builtinsNs->Uz,cLine->SE,callWith->Tx,call_meets->Q0,callerA->TM,codeAny_mono->Sh,compPost->Vz,compareOp->O2,comprehension->U_,evalPart_none->U8,field->UO,firstArgMember->UR,foldedSetIterable->Q_,getItem->TB,getMethod->T9,holding->Tv,inplaceOp->Vg,intBits_le_64->U6,intItems->Vx,isTrue->Vn,keywordEach->Ru,letOwnedTupleGo->Rz,mainGlobals->Oa,newFunctionEnv->UM,notedBy->TJ,numAt_eq->UL,nums_intItems->Ti,pushCells_keeps->RA,pyIter->VE,pyNext->TZ,rangeSize_one->U5,rawInt->UB,recursionLimit->UD,seqIndex_neg->TC,seqIndex_of->Um,sizeLine_eq->Ul,sliceBounds->Q6,slot_list_getitem->TD,standAt->Vo,strValues->Vk,subscripted->SF,swapsWith->Q3,sysModules->Po,tupleKind->SV,tupleKind_room_in1->Q1,typeIs_int->UI,typeIs_str->QZ,valueAt->Sl,wpAny_Call_Name_kw->Qt,wpAny_Dict_empty->Ue,wpAny_Name->UA,wpAny_attempt->Va,wpAny_callSpecial?_slot->Qo,wpAny_call_entry->Ro,wpAny_execs_cons->TW,wpAny_field->PL,wpAny_getItem_of->Ud,wpAny_holding->Te,wpAny_letGo->Up,wpAny_letOwnedTupleGo_zip->RV,wpAny_loadName_cell->S0,wpAny_loadName_local->SA,wpAny_mono->PP,wpAny_newObj_type->R0,wpAny_onRaise->R5,wpAny_pyIter_enum->TK,wpAny_pyIter_list->RX,wpAny_pyIter_range->Tl,wpAny_pyIter_rangeiter->Sf,wpAny_pyIter_zip->Rn,wpAny_pyNext_range_end->Se,wpAny_rule->UQ,wpAny_seqItems->P8,wpAny_setField->UP,wpAny_setField_rec->P9,wpAny_standAt->Tg,wpAny_truthy_bool->O3,wpAny_updateSeq_pair->Rv
open PySem.W renaming Codec->QD,Frag->Tp,OpenSpec->VA,ReadsAllW->Vl,ReadsW->SI,WData->PZ,WellAll->Sm,fld->Tu,keepIn->VI,mem_lookup->To,mg_of->Qr,nsIn->QN,putN->U2
open PyWqgarh renaming answers->Rp,answers_asked->Sq,bound->SO,shape->SN,whole->RS
noncomputable section
namespace L2
open PySem PySem.Spec PyProof.Rows
abbrev fu:=Sum Int N_
def uW:fu->NU->Bool
 |.inl k,v=>NU.isInt k v
 |.inr x,v=>NU.isStrOf x v
def JK(w:Oh):fu->Int
 |.inl k=>hashInt k
 |.inr x=>hashStr w x
theorem fb:∀{k:fu}{v:NU},uW k v=true->(∃i t,k=Sum.inl i/\v=NU.int i t)\/(∃x t,k=Sum.inr x/\v=NU.str x t)
 |.inl i,v,h=>by
  obtain⟨t,e⟩:=NU.isInt_shape (k:=i) (v:=v) h;exact .inl ⟨i,t,rfl,e⟩
 |.inr x,v,h=>by
  obtain⟨t,e⟩:=NU.isStrOf_shape (x:=x) (v:=v) h;exact .inr ⟨x,t,rfl,e⟩
theorem o9(i:Int)(t:Ve):uW (.inl i) (.int i t)=true:=by simp[uW,NU.isInt]
theorem Bs(x:N_)(t:Ve):uW (.inr x) (.str x t)=true:=by simp[uW,NU.isStrOf]
theorem GB(a b:Int):decide ((Sum.inl a:fu)=Sum.inl b)=(a==b):=by
 by_cases e:a=b
 ·subst e;simp
 ·have h:¬(Sum.inl a:fu)=Sum.inl b:=fun q=>e (Sum.inl.inj q);rw[decide_eq_false h];exact(beq_eq_false_iff_ne.mpr e).symm
theorem GC(a b:N_):decide ((Sum.inr a:fu)=Sum.inr b)=decide (a=b):=by
 by_cases e:a=b
 ·subst e;simp
 ·have h:¬(Sum.inr a:fu)=Sum.inr b:=fun q=>e (Sum.inr.inj q);rw[decide_eq_false h,decide_eq_false e]
theorem GD(a:Int)(b:N_):decide ((Sum.inl a:fu)=Sum.inr b)=false:=decide_eq_false (fun q=>nomatch q)
theorem GE(a:N_)(b:Int):decide ((Sum.inr a:fu)=Sum.inl b)=false:=decide_eq_false (fun q=>nomatch q)
def ff(prog:N3)(w:Oh):PySem.KeyKind prog w fu where
 is:=uW
 hash:=JK w
 inj:=fun v a b ha hb=>by
  rcases fb ha with⟨i,t,rfl,rfl⟩|⟨x,t,rfl,rfl⟩
  ·rcases fb hb with⟨j,u,rfl,e⟩|⟨y,u,rfl,e⟩
   ·injection e with z _;rw[z]
   ·exact nomatch e
  ·rcases fb hb with⟨j,u,rfl,e⟩|⟨y,u,rfl,e⟩
   ·exact nomatch e
   ·injection e with z _;rw[z]
 byValue:=fun k v h=>by
  rcases fb h with⟨i,t,rfl,rfl⟩|⟨x,t,rfl,rfl⟩<;>rfl
 pyHash:=fun hv h=>by
  rcases fb hv with⟨i,t,rfl,rfl⟩|⟨x,t,rfl,rfl⟩
  ·exact wpAny_pyHash_int h
  ·exact wpAny_pyHash_str h
 eqBool:=fun F hv h=>by
  rcases fb F with⟨i,t,rfl,rfl⟩|⟨x,t,rfl,rfl⟩
  ·rcases fb hv with⟨j,u,rfl,rfl⟩|⟨y,u,rfl,rfl⟩
   ·rw[GB] at h;exact wpAny_eqBool_int h
   ·rw[GD] at h;exact SeqAt.EqAt.int_str i t y u _ _ _ _ h
  ·rcases fb hv with⟨j,u,rfl,rfl⟩|⟨y,u,rfl,rfl⟩
   ·rw[GE] at h;exact SeqAt.EqAt.str_int x t j u _ _ _ _ h
   ·rw[GC] at h;exact wpAny_eqBool_str h
 «strs»:=fun k x t v h=>by
  rcases fb h with⟨i,u,rfl,e⟩|⟨y,u,rfl,e⟩
  ·exact nomatch e
  ·injection e with z _;subst z;cases v<;>rfl
theorem xu(prog:N3)(w:Oh)(i:Int)(t:Ve):(ff prog w).is (.inl i) (.int i t)=true:=o9 i t
theorem xw(prog:N3)(w:Oh)(x:N_)(t:Ve):(ff prog w).is (.inr x) (.str x t)=true:=Bs x t
end L2
namespace L2
open PySem PySem.Spec PyProof.Rows
inductive V where
 |non|bl (b:Bool)|int (i:Int)|str (x:N_)|byt (b:Array UInt8)|flt (b:UInt64)|ref (a:Addr)|ty (n:String)
 deriving DecidableEq
def O6:V->NU->Prop
 |.non,u=>u=NU.none
 |.bl b,u=>u=NU.bool b
 |.int i,u=>∃t,u=NU.int i t
 |.str x,u=>∃t,u=NU.str x t
 |.byt b,u=>∃t,u=NU.bytes b t
 |.flt b,u=>∃t,u=NU.float b t
 |.ref a,u=>u=NU.ref a
 |.ty n,u=>u=NU.type n
abbrev bT:List V->List NU->Prop:=Q8 O6
theorem bT.length{xs:List V}{us:List NU}(r:bT xs us):xs.length=us.length:=Q8.length r
theorem bT.get:∀{xs:List V}{us:List NU}{i:Nat}{x:V},bT xs us->xs[i]?=some x->∃u,us[i]?=some u/\O6 x u
 |_,_,_,_,.nil,e=>by simp at e
 |_,_,0,_,.cons r _,e=>by simp at e;subst e;exact⟨_,rfl,r⟩
 |_,_,i+1,x,.cons _ t,e=>by
  obtain⟨u,h1,h2⟩:=bT.get (i:=i) (x:=x) t (by simpa using e);exact⟨u,by simpa using h1,h2⟩
theorem bT.set{x:V}{u:NU}(r:O6 x u):∀{xs:List V}{us:List NU}(i:Nat),bT xs us->bT (xs.set i x) (us.set i u)
 |_,_,_,.nil=>.nil
 |_,_,0,.cons _ t=>.cons r t
 |_,_,i+1,.cons q t=>.cons q (bT.set r i t)
theorem bT.append:∀{xs ys:List V}{us z:List NU},bT xs us->bT ys z->bT (xs++ys) (us++z)
 |_,_,_,_,.nil,s=>s
 |_,_,_,_,.cons r t,s=>.cons r (bT.append t s)
theorem bT.take:∀{xs:List V}{us:List NU}(n:Nat),bT xs us->bT (xs.take n) (us.take n)
 |_,_,0,_=>.nil
 |_,_,_+1,.nil=>.nil
 |_,_,n+1,.cons r t=>.cons r (bT.take n t)
theorem bT.drop:∀{xs:List V}{us:List NU}(n:Nat),bT xs us->bT (xs.drop n) (us.drop n)
 |_,_,0,r=>r
 |_,_,_+1,.nil=>.nil
 |_,_,n+1,.cons _ t=>bT.drop n t
def kK:Option V->Option NU->Prop
 |some v,some u=>O6 v u
 |none,none=>True
 |_,_=>False
def KV{κ:Type}:List (κ×V)->List (κ×NU)->Prop:=Q8 fun(p:κ×V)(q:κ×NU)=>p.1=q.1/\O6 p.2 q.2
def kV:fu->V
 |.inl i=>.int i
 |.inr x=>.str x
inductive HO where
 |lst (xs:List V)
 |tup (xs:List V)
 |dK (kvs:List (fu×V))|dT (kvs:List (List fu×V))
 |set (S:Int->Bool) (n:Nat)
 |ins (C dx:Addr) (fs:List (N_×V))
 |own (x:Addr)
 |xd (fs:List (N_×V))
 |met (f x:Addr)
 |rng (lo hi:Int)
 |frz (o:Obj) (u:HO)
 |tbl (ps:Array NU)
 |ext (φ:Heap->Prop)
abbrev Hp:=Addr->Option HO
def upd(H:Hp)(a:Addr)(o:HO):Hp:=fun b=>if b=a then some o else H b
theorem ac{H:Hp}{a:Addr}{o:HO}:upd H a o a=some o:=by unfold upd;rw[if_pos rfl]
theorem aj{H:Hp}{a b:Addr}{o:HO}(h:b≠a):upd H a o b=H b:=by unfold upd;rw[if_neg h]
theorem EI{H:Hp}{a:Addr}{o u:HO}:upd (upd H a o) a u=upd H a u:=by
 funext b;unfold upd;split<;>rfl
theorem b8{H:Hp}{a b:Addr}{o u:HO}(h:H a=some o)(h':H b=some u)(d:o≠u):a≠b:=by
 intro e;subst e;rw[h] at h';exact d (N6.inj h')
theorem aw{H:Hp}{a b:Addr}{o:HO}(h:H a=some o)(h':H b=none):a≠b:=by
 intro e;subst e;rw[h] at h';cases h'
section
variable(P:N3)(w:Oh)
def eY(H:Hp)(h:Heap)(a:Addr):HO->Prop
 |.lst xs=>xs.length<=sizeLine/\∃(its:List NU)(n:Nat),bT xs its/\h.get? a=some {cls:=.type "list",data:=.seq its.toArray n}
 |.tup xs=>xs.length<=sizeLine/\∃its:List NU,bT xs its/\Td h a its.toArray
 |.dK kvs=>kvs.length<=sizeLine/\(a==Po)=false/\∃vs,KV kvs vs/\h.DictOf (ff P w) a vs
 |.dT kvs=>kvs.length<=sizeLine/\(a==Po)=false/\∃xs:List (List fu×Addr×NU),
   Q8 (fun(p:List fu×V)(q:List fu×Addr×NU)=>p.1=q.1/\H q.2.1=some (.tup (p.1.map kV))/\O6 p.2 q.2.2) kvs xs/\
   ∃o es ep,h.get? a=some o/\o.ExactDict/\o.data=.dict es ep/\es.toList=xs.map (entryOfKey (SV (ff P w)))/\(xs.map (·.1)).Nodup
 |.set S n=>h.SetOf (intKind P w) a S n
 |.ins C dx fs=>H dx=some (.own a)/\fs.length<=1000/\dx≠a/\h.get? a=some (PySem.W.instObj C dx)/\
   ∃mA,h.Ns1 dx mA/\(∀f,kK (fs.lookup f) (mA f))/\PySem.Within mA (fs.map (·.1))
 |.own _=>∃o,h.get? a=some o
 |.xd fs=>∃mA,h.Ns1 a mA/\∀f,kK (fs.lookup f) (mA f)
 |.rng lo hi=>∃t u v,h.get? a=some {cls:=.type "range",data:=.fields #[.int lo t,.int hi u,.int 1 v]}
 |.frz o u=>h.get? a=some o/\eY H h a u
 |.tbl ps=>h.get? a=some {cls:=.none,data:=.fields ps}
 |.met f x=>h.get? a=some (PySem.W.methodObj (.ref f) (.ref x))
 |.ext φ=>φ h/\(∃o,h.get? a=some o)/\∀h1 h2:Heap,φ h1->(∀o,h1.get? a=some o->h2.get? a=some o)->φ h2
def kL(H:Hp)(h:Heap):Prop:=∀a o,H a=some o->eY P w H h a o
end
section
variable{P:N3}{w:Oh}{H H':Hp}{h h':Heap}{a:Addr}{o:HO}
theorem eY.lt(x:eY P w H h a o):a<h.objs.size:=by
 cases o with
 |lst xs=>obtain⟨_,_,_,_,e⟩:=x;exact Heap.lt_size e
 |tup xs=>obtain⟨_,_,_,p⟩:=x;exact p.lt
 |dK kvs=>obtain⟨_,_,_,_,o,_,_,e,_⟩:=x;exact Heap.lt_size e
 |dT kvs=>obtain⟨_,_,_,_,o,_,_,e,_⟩:=x;exact Heap.lt_size e
 |set S n=>obtain⟨o,_,_,_,e,_⟩:=x;exact Heap.lt_size e
 |ins C dx fs=>obtain⟨_,_,_,e,_⟩:=x;exact Heap.lt_size e
 |own y=>obtain⟨_,e⟩:=x;exact Heap.lt_size e
 |xd fs=>obtain⟨_,⟨_,_,_,e,_⟩,_⟩:=x;exact Heap.lt_size e
 |rng lo hi=>obtain⟨_,_,_,e⟩:=x;exact Heap.lt_size e
 |frz z u=>obtain⟨e,_⟩:=x;exact Heap.lt_size e
 |tbl ps=>exact Heap.lt_size (show h.get? a=some _ from x)
 |met f y=>exact Heap.lt_size (show h.get? a=some _ from x)
 |ext φ=>obtain⟨_,⟨_,e⟩,_⟩:=x;exact Heap.lt_size e
theorem Q8.mapP{α β:Type}{F G:α->β->Prop}:∀{l₁:List α}{l₂:List β},Q8 F l₁ l₂->(∀a b,F a b->G a b)->Q8 G l₁ l₂
 |_,_,.nil,_=>.nil
 |_,_,.cons r t,f=>.cons (f _ _ r) (Q8.mapP t f)
theorem eY.stay(x:eY P w H h a o)(k:∀b u,(b=a\/H b=some (.own a))->h.get? b=some u->h'.get? b=some u)(J:∀b,H b=some (.own a)->H' b=some (.own a))(L:∀b xs,H b=some (.tup xs)->H' b=some (.tup xs)):eY P w H' h' a o:=by
 induction o with
 |lst xs=>obtain⟨z,its,n,r,e⟩:=x;exact⟨z,its,n,r,k _ _ (.inl rfl) e⟩
 |tup xs=>obtain⟨z,its,r,F,e,c⟩:=x;exact⟨z,its,r,F,k _ _ (.inl rfl) e,c⟩
 |dK kvs=>obtain⟨z,y,vs,r,F,es,ep,e,c⟩:=x;exact⟨z,y,vs,r,F,es,ep,k _ _ (.inl rfl) e,c⟩
 |dT kvs=>
  obtain⟨z,y,xs,r,F,es,ep,e,c⟩:=x;exact⟨z,y,xs,Q8.mapP r fun p q z=>⟨z.1,L _ _ z.2.1,z.2.2⟩,F,es,ep,k _ _ (.inl rfl) e,c⟩
 |set S n=>obtain⟨F,es,ep,t,e,c⟩:=x;exact⟨F,es,ep,t,k _ _ (.inl rfl) e,c⟩
 |ins C dx fs=>
  obtain⟨d,z,ne,e,mA,⟨I,es,ep,M,c⟩,r⟩:=x;exact⟨J _ d,z,ne,k _ _ (.inl rfl) e,mA,⟨I,es,ep,k _ _ (.inr d) M,c⟩,r⟩
 |own y=>obtain⟨F,e⟩:=x;exact⟨F,k _ _ (.inl rfl) e⟩
 |xd fs=>obtain⟨mA,⟨I,es,ep,e,c⟩,r⟩:=x;exact⟨mA,⟨I,es,ep,k _ _ (.inl rfl) e,c⟩,r⟩
 |rng lo hi=>obtain⟨t,u,v,e⟩:=x;exact⟨t,u,v,k _ _ (.inl rfl) e⟩
 |frz F u O=>obtain⟨e,q⟩:=x;exact⟨k _ _ (.inl rfl) e,O q⟩
 |tbl ps=>
  have e:h.get? a=some {cls:=.none,data:=.fields ps}:=x;show h'.get? a=some {cls:=.none,data:=.fields ps};exact k a _ (.inl rfl) e
 |met f y=>
  have e:h.get? a=some (PySem.W.methodObj (.ref f) (.ref y)):=x;show h'.get? a=some (PySem.W.methodObj (.ref f) (.ref y));exact k a _ (.inl rfl) e
 |ext φ=>obtain⟨p,⟨o,e⟩,st⟩:=x;exact⟨st _ _ p fun o q=>k _ _ (.inl rfl) q,⟨o,k _ _ (.inl rfl) e⟩,st⟩
theorem kL.lt(x:kL P w H h)(e:H a=some o):a<h.objs.size:=(x a o e).lt
theorem kL.fresh(x:kL P w H h)(e:h.objs.size<=a):H a=none:=by
 cases q:H a with
 |none=>rfl
 |some u=>exact absurd (Ou (x.lt q) e) (Pn _)
theorem kL.kept(x:kL P w H h)(k:∀b u,h.get? b=some u->h'.get? b=some u):kL P w H h':=fun a o e=>
 (x a o e).stay (fun b u _ q=>k b u q) (fun _ q=>q) fun _ _ q=>q
theorem kL.laid(x:kL P w H h)(k:∀b u,h.get? b=some u->h'.get? b=some u)(I:h.objs.size<=a)(z:eY P w (upd H a o) h' a o):kL P w (upd H a o) h':=fun b u e=>by
 have F:=x.fresh I;by_cases hb:b=a
 ·subst hb;rw[ac] at e;cases e;exact z
 ·rw[aj hb] at e;exact(x b u e).stay (fun c v _ q=>k c v q) (fun c q=>by rw[aj (aw q F)];exact q) fun c xs q=>by rw[aj (aw q F)];exact q
end
def Rd(H:Hp)(a:Addr)(u:HO):Prop:=H a=some u\/∃o,H a=some (.frz o u)
theorem Rd.ok{P:N3}{w:Oh}{H:Hp}{h:Heap}{a:Addr}{u:HO}(r:Rd H a u)(x:kL P w H h):eY P w H h a u:=by
 rcases r with r|⟨o,r⟩
 ·exact x a u r
 ·obtain⟨_,q⟩:=x a _ r;exact q
def Iz:Option HO->Prop
 |some (.lst _)=>True
 |some (.dK _)=>True
 |some (.dT _)=>True
 |some (.set _ _)=>True
 |some (.ins _ _ _)=>True
 |some (.ext _)=>True
 |_=>False
section
variable{P:N3}{w:Oh}{H:Hp}{h h':Heap}{x e:Addr}{o':HO}
theorem kL.write(ok:kL P w H h)(L:Iz (H x))(he:e=x\/H e=some (.own x))(k:∀b u,b≠e->h.get? b=some u->h'.get? b=some u)(O:∃u,h'.get? e=some u)(S:eY P w (upd H x o') h' x o'):kL P w (upd H x o') h':=fun b u q=>by
 have I:∀c y,H c=some (.own y)->c≠x:=fun c y r z=>by subst z;rw[r] at L;exact L
 have J:∀c xs,H c=some (.tup xs)->c≠x:=fun c xs r z=>by subst z;rw[r] at L;exact L
 by_cases hb:b=x
 ·subst hb;rw[ac] at q;cases q;exact S
 ·rw[aj hb] at q;by_cases F:b=e
  ·have Y:H b=some (.own x):=by
    rcases he with z|z
    ·exact absurd (F.trans z) hb
    ·rw[F];exact z
   rw[q] at Y;cases Y;obtain⟨v,hv⟩:=O;exact⟨v,by rw[F];exact hv⟩
  ·refine(ok b u q).stay (fun c v M r=>k c v ?_ r) (fun c r=>by rw[aj (I c b r)];exact r) fun c xs r=>by rw[aj (J c xs r)];exact r
   rcases M with rfl|M
   ·exact F
   ·rintro rfl;rcases he with z|z
    ·exact I c b M z
    ·rw[M] at z;cases z;exact hb rfl
end
structure Un (fs ex:List Addr) (H H':Hp) (h h':Heap):Prop where
 keep:∀b o,h.get? b=some o->H b=none->b∉fs->b∉ex->h'.get? b=some o
 slot:∀b o,h.get? b=some o->H b=none->b∈fs->b∉ex->∃sl,h'.get? b=some {o with slots:=sl}
 free:∀b o,h.get? b=some o->H b=none->b∉ex->H' b=none
 there:∀b o,h.get? b=some o->b∉ex->∃o',h'.get? b=some o'
 tups:∀b xs,H b=some (.tup xs)->H' b=some (.tup xs)
 frzs:∀b o u,H b=some (.frz o u)->H' b=some (.frz o u)
 tbls:∀b ps,H b=some (.tbl ps)->∃more,H' b=some (.tbl (ps++more))
section
variable{fs fs' ex ex':List Addr}{H H1 H2:Hp}{h h1 h2 h':Heap}{a x e:Addr}{o:HO}
theorem Un.any(u:Un fs ex H H1 h h1){b:Addr}{z:Obj}(q:h.get? b=some z)(n:H b=none)(F:b∉ex):∃I,h1.get? b=some {z with slots:=I}:=by
 by_cases hb:b∈fs
 ·exact u.slot b z q n hb F
 ·exact⟨z.slots,u.keep b z q n hb F⟩
theorem Un.kept(k:∀b u,h.get? b=some u->h'.get? b=some u):Un fs ex H H h h':=
 ⟨fun b z q _ _ _=>k b z q,fun b z q _ _ _=>⟨z.slots,k b z q⟩,fun _ _ _ n _=>n,fun b z q _=>⟨z,k b z q⟩,fun _ _ q=>q,fun _ _ _ q=>q,fun _ ps q=>⟨#[],by rw[q];simp⟩⟩
theorem Un.refl:Un fs ex H H h h:=Un.kept fun _ _ q=>q
theorem Un.laid(k:∀b u,h.get? b=some u->h'.get? b=some u)(F:h.objs.size<=a)(z:H a=none):Un fs ex H (upd H a o) h h' where
 keep:=fun b u q _ _ _=>k b u q
 slot:=fun b u q _ _ _=>⟨u.slots,k b u q⟩
 free:=fun b u q n _=>by rw[aj (OL (Ou (Heap.lt_size q) F))];exact n
 there:=fun b u q _=>⟨u,k b u q⟩
 tups:=fun b xs q=>by rw[aj (aw q z)];exact q
 frzs:=fun b u xs q=>by rw[aj (aw q z)];exact q
 tbls:=fun b ps q=>⟨#[],by rw[aj (aw q z),q];simp⟩
theorem Un.write(I:Iz (H x))(he:e=x\/H e=some (.own x))(k:∀b u,b≠e->h.get? b=some u->h'.get? b=some u)(J:∃u,h'.get? e=some u):Un fs ex H (upd H x o) h h':=by
 have M:∀b,H b=none->b≠x:=fun b n z=>by subst z;rw[n] at I;exact I
 have hb:∀b,H b=none->b≠e:=fun b n z=>by
  subst z;rcases he with r|r
  ·exact M b n r
  ·rw[n] at r;cases r
 have L:∀b u,H b=some u->¬Iz (some u)->b≠x:=fun b u q nm z=>by subst z;rw[q] at I;exact nm I
 refine⟨fun b u q n _ _=>k b u (hb b n) q,fun b u q n _ _=>⟨u.slots,k b u (hb b n) q⟩,fun b u q n _=>by rw[aj (M b n)];exact n,fun b u q _=>?_,
  fun b xs q=>by rw[aj (L b _ q fun z=>z)];exact q,fun b u xs q=>by rw[aj (L b _ q fun z=>z)];exact q,fun b ps q=>⟨#[],by rw[aj (L b _ q fun z=>z),q];simp⟩⟩
 by_cases F:b=e
 ·subst F;exact J
 ·exact⟨u,k b u F q⟩
end
def JF(h:Heap)(H:Hp):List Addr:=(N0 h.objs.size).filter fun a=>(H a).isSome
def wd(h:Heap)(H:Hp):Heap:=PySem.W.hideAll h (JF h H)
theorem Bt(h:Heap)(H:Hp):(wd h H).objs.size=h.objs.size:=PySem.W.hideAll_size _ _
theorem C3{h:Heap}{H:Hp}{b:Addr}{o:Obj}(e:h.get? b=some o)(n:H b=none):(wd h H).get? b=some o:=
 PySem.W.hideAll_get _ e fun z=>by
  have q:(H b).isSome=true:=(Qj.mp z).2;rw[n] at q;simp at q
theorem EJ{h:Heap}{H:Hp}{b:Addr}{o:Obj}(e:(wd h H).get? b=some o):h.get? b=some o/\H b=none:=by
 have e':h.get? b=some o:=PySem.W.of_hideAll (JF h H) e;refine⟨e',?_⟩;cases q:H b with
 |none=>rfl
 |some x=>
  have F:b∈JF h H:=Qj.mpr ⟨Px.mpr (Heap.lt_size e'),by simp[q]⟩;have z:(wd h H).get? b=none:=PySem.W.hideAll_none (JF h H) F;rw[z] at e;cases e
end L2
namespace L2
open PySem PySem.Spec PyProof.Rows
structure Mod (K:PySem.W.Frag) (mg:N_->Option NU) (base:Heap):Prop where
 kin:K.In base
 glob:base.Ns Oa mg
 blt:∃mb,base.Ns Uz mb/\∀x:N_,x≠"__name__"->mb x=Pp x
 nolimit:base.NoLimit
structure Cx where
 prog:N3
 w:Oh
 K:PySem.W.Frag
 mg:N_->Option NU
 base:Heap
 A:OG
 N:List N_
 s_0:NY
 H_0:Hp
 env:Tk
 outer:List Tk
 stack:List Tk
 ex:List Addr
 fn:N_->Bool
 calm:Bool
 pn:List (Addr×Obj)
 xe:NU->NY->Prop
def C4(l:List Tk):List Addr:=l.filterMap (·.frame)
abbrev Cx.fs(X:Cx):List Addr:=C4 X.outer
def Ir(z:QA)(x:N_):Prop:=z.names.lookup x=some .local\/z.names.lookup x=some .cell\/z.names.lookup x=some .free
def Loc(z:QA)(x:N_):Prop:=z.names.lookup x=some .local\/z.names.lookup x=some .cell
def Look(env:Tk)(h:Heap)(m:N_->Option NU)(x:N_)(u:NU):Prop:=
 (env.kindOf x=some .local/\m x=some u)\/((env.kindOf x=some .cell\/env.kindOf x=some .free)/\∃c,env.cells.lookup x=some c/\h.IsCell c (some u))
structure Cx.Ok (X:Cx):Prop where
 mod:Mod X.K X.mg X.base
 kind:X.env.scope.kind=.function
 glob:X.env.globals=Oa
 blt:X.env.builtins=Uz
 above:X.s_0.heap.objs.size<=X.env.locals
 inj:∀x y c,X.env.cells.lookup x=some c->X.env.cells.lookup y=some c->x=y
 has:∀x,(X.env.kindOf x=some .cell\/X.env.kindOf x=some .free)->∃c,X.env.cells.lookup x=some c
 cab:∀x c,X.fn x=true->X.env.cells.lookup x=some c->X.s_0.heap.objs.size<=c
 hd:X.calm=true->X.A.handled=none
 frames:X.A.frames=some X.stack
 stk:X.stack=X.outer\/(X.stack=X.env::X.outer/\X.env.frame=some X.env.locals)
 exf:∀b∈X.ex,b≠X.env.locals/\∀x c,X.env.cells.lookup x=some c->c≠b
 bs:∀b o,X.base.get? b=some o->X.s_0.heap.get? b=some o/\X.H_0 b=none
 bsz:X.base.objs.size<=X.s_0.heap.objs.size
 noex:∀b o,X.base.get? b=some o->b∉X.ex
 exfs:∀b∈X.ex,b∉X.fs
 funs:X.s_0.heap.FunFrames X.base X.outer
 frf:∀b∈X.fs,X.H_0 b=none
structure Inv (X:Cx) (pins:List (Addr×Obj)) (σ:List (Option V)) (H:Hp) (s:NY):Prop where
 ok:X.Ok
 os:s.os=X.s_0.os
 bare:SW s.gens
 base:Un X.fs X.ex X.H_0 H X.s_0.heap s.heap
 loc:∃m,s.heap.Ns X.env.locals m/\∀(i:Nat)(x:N_)(v:V),X.N[i]?=some x->σ[i]?=some (some v)->Ir X.env.scope x->∃u,O6 v u/\Look X.env s.heap m x u
 cell:∀x c,X.env.cells.lookup x=some c->∃v,s.heap.IsCell c v
 free:H X.env.locals=none
 freeC:∀x c,X.env.cells.lookup x=some c->H c=none
 pin:∀p∈X.pn++pins,s.heap.get? p.1=some p.2/\H p.1=none/\p.1≠X.env.locals/\p.1∉X.fs/\∀v,p.2.data≠.cell v
 hok:kL X.prog X.w H s.heap
 len:σ.length=X.N.length
section
variable{X:Cx}{pins:List (Addr×Obj)}{σ:List (Option V)}{H H':Hp}{s:NY}{h':Heap}
theorem Cx.Ok.nofr(ok:X.Ok){b:Addr}{o:Obj}(e:X.base.get? b=some o):b∉X.fs:=fun hb=>by
 have:=(ok.funs.mem hb).1;rw[e] at this;cases this
theorem Inv.bs(I:Inv X pins σ H s):∀b o,X.base.get? b=some o->s.heap.get? b=some o/\H b=none:=fun b o e=>
 ⟨I.base.keep b o (I.ok.bs b o e).1 (I.ok.bs b o e).2 (I.ok.nofr e) (I.ok.noex b o e),I.base.free b o (I.ok.bs b o e).1 (I.ok.bs b o e).2 (I.ok.noex b o e)⟩
theorem Inv.bk(I:Inv X pins σ H s):∀b o,X.base.get? b=some o->s.heap.get? b=some o:=fun b o e=>(I.bs b o e).1
theorem Inv.mod(I:Inv X pins σ H s):Mod X.K X.mg X.base:=I.ok.mod
theorem Inv.kIn(I:Inv X pins σ H s):X.K.In s.heap:=I.ok.mod.kin.keeps I.bk
theorem Inv.fr(I:Inv X pins σ H s):∃m,Fr X.base X.env.locals s.heap m:=
 let ⟨m,z,_⟩:=I.loc
 ⟨m,z,I.bk,Od I.ok.bsz I.ok.above⟩
theorem Inv.lt(I:Inv X pins σ H s):X.env.locals<s.heap.objs.size:=let ⟨_,z,_⟩:=I.loc;z.lt
theorem Inv.sz(I:Inv X pins σ H s):X.s_0.heap.objs.size<=s.heap.objs.size:=Od I.ok.above (Sd I.lt)
theorem Inv.nofs(I:Inv X pins σ H s){a:Addr}(h:s.heap.objs.size<=a):a∉X.fs:=fun hb=>by
 obtain⟨_,o,z,_⟩:=I.ok.funs.mem hb;exact absurd (Ou (Heap.lt_size z) (Od I.sz h)) (Pn _)
theorem Inv.cne(I:Inv X pins σ H s):∀x c,X.env.cells.lookup x=some c->c≠X.env.locals:=fun x c e z=>by
 obtain⟨v,o,L,hd⟩:=I.cell x c e;obtain⟨m,⟨o',es,ep,F,J,_⟩,_⟩:=I.loc;rw[z,F] at L;cases L;rw[J] at hd;cases hd
theorem Inv.funs(I:Inv X pins σ H s):s.heap.FunFrames X.base X.outer:=by
 have all:∀(l:List Tk),(∀b∈C4 l,b∈X.fs)->X.s_0.heap.FunFrames X.base l->s.heap.FunFrames X.base l:=by
  intro l
  induction l with
  |nil=>intro _ _;trivial
  |cons env r M=>
   intro hs hl;obtain⟨O,⟨L,o,F,S,Y,hd⟩,Z⟩:=hl;have J:L∈X.fs:=hs L (by unfold C4;rw[Ql,F];exact Oi);obtain⟨sl,e⟩:=I.base.slot L o Y (I.ok.frf L J) J fun z=>I.ok.exfs L z J;exact⟨O,⟨L,_,F,S,e,hd⟩,M (fun b hb=>hs b (by unfold C4;rw[Ql,F];exact N5 _ hb)) Z⟩
 exact all X.outer (fun _ hb=>hb) I.ok.funs
theorem Inv.stack(I:Inv X pins σ H s):s.heap.FunFrames X.base X.stack:=by
 rcases I.ok.stk with e|⟨e,z⟩
 ·rw[e];exact I.funs
 ·rw[e];obtain⟨m,F,_⟩:=I.loc;refine .cons (by rw[I.ok.kind];decide) z F ?_ I.funs;exact Heap.get?_none_of_le (Od I.ok.bsz I.ok.above)
theorem Inv.stkSub(I:Inv X pins σ H s):∀b∈C4 X.stack,b∈X.env.locals::X.fs:=fun b hb=>by
 rcases I.ok.stk with e|⟨e,z⟩
 ·rw[e] at hb;exact N5 _ hb
 ·rw[e] at hb;unfold C4 at hb;rw[Ql,z] at hb;exact hb
theorem Inv.stkFree(I:Inv X pins σ H s):∀b∈C4 X.stack,H b=none:=fun b hb=>by
 rcases Og.mp (I.stkSub b hb) with e|hb
 ·rw[e];exact I.free
 ·obtain⟨_,o,F,_⟩:=I.ok.funs.mem hb;exact I.base.free b o F (I.ok.frf b hb) fun z=>I.ok.exfs b z hb
theorem Inv.step{g':Array GenState}{t':Nat}{d':Drawn}{ch:List Addr}(I:Inv X pins σ H s)(J:∀b∈ch,(b∈X.ex\/X.s_0.heap.objs.size<=b)/\b≠X.env.locals/\(∀x c,X.env.cells.lookup x=some c->c≠b)/\∀p∈X.pn++pins,p.1≠b)(keep:∀b o,b≠X.env.locals->b∉X.fs->b∉ch->s.heap.get? b=some o->H b=none->h'.get? b=some o)(slot:∀b o,b≠X.env.locals->b∈X.fs->b∉ch->s.heap.get? b=some o->H b=none->∃sl,h'.get? b=some {o with slots:=sl})(free:∀b o,b∉ch->s.heap.get? b=some o->H b=none->H' b=none)(there:∀b o,b∉ch->s.heap.get? b=some o->∃o',h'.get? b=some o')(tups:∀b xs,H b=some (.tup xs)->H' b=some (.tup xs))(frzs:∀b o u,H b=some (.frz o u)->H' b=some (.frz o u))(tbls:∀b ps,H b=some (.tbl ps)->∃more,H' b=some (.tbl (ps++more)))(ns:∀m,s.heap.Ns X.env.locals m->h'.Ns X.env.locals m)(hok:kL X.prog X.w H' h')(hg:SW g'):
  Inv X pins σ H' {s with heap:=h',gens:=g',drawn:=d',toks:=t'}:=by
 have Z:∀b o,X.s_0.heap.get? b=some o->b≠X.env.locals:=fun b o e=>OL (Ou (Heap.lt_size e) I.ok.above)
 have O:∀b o,X.s_0.heap.get? b=some o->b∉X.ex->b∉ch:=fun b o e F hb=>by
  rcases(J b hb).1 with z|z
  ·exact F z
  ·exact absurd (Ou (Heap.lt_size e) z) (Pn _)
 have L:∀x c,X.env.cells.lookup x=some c->∀v,s.heap.IsCell c v->h'.IsCell c v:=fun x c e v ⟨o,Y,hd⟩=>by
  have M:c∉ch:=fun z=>(J c z).2.2.1 x c e rfl;by_cases hc:c∈X.fs
  ·obtain⟨sl,q⟩:=slot c o (I.cne x c e) hc M Y (I.freeC x c e);exact⟨_,q,hd⟩
  ·exact⟨o,keep c o (I.cne x c e) hc M Y (I.freeC x c e),hd⟩
 refine⟨I.ok,I.os,hg,⟨fun b o e n hb F=>?_,fun b o e n hb F=>?_,fun b o e n F=>?_,fun b o e F=>?_,fun b xs e=>tups b xs (I.base.tups b xs e),fun b o xs e=>frzs b o xs (I.base.frzs b o xs e),fun b ps e=>?_⟩,?_,fun x c e=>?_,?_,fun x c e=>?_,fun p hp=>?_,hok,I.len⟩
 ·exact keep b o (Z b o e) hb (O b o e F) (I.base.keep b o e n hb F) (I.base.free b o e n F)
 ·obtain⟨sl,S⟩:=I.base.slot b o e n hb F;obtain⟨al,e2⟩:=slot b _ (Z b o e) hb (O b o e F) S (I.base.free b o e n F);exact⟨al,e2⟩
 ·obtain⟨o',S⟩:=I.base.there b o e F;exact free b o' (O b o e F) S (I.base.free b o e n F)
 ·obtain⟨o',S⟩:=I.base.there b o e F;exact there b o' (O b o e F) S
 ·obtain⟨m1,S⟩:=I.base.tbls b ps e;obtain⟨m2,e2⟩:=tbls b _ S;exact⟨m1++m2,by rw[e2,Array.append_assoc]⟩
 ·obtain⟨m,hn,hl⟩:=I.loc;refine⟨m,ns m hn,fun i x v S e2 e3=>?_⟩;obtain⟨u,r,l⟩:=hl i x v S e2 e3;refine⟨u,r,?_⟩;rcases l with l|⟨k,c,e,z⟩
  ·exact .inl l
  ·exact .inr ⟨k,c,e,L x c e _ z⟩
 ·obtain⟨v,z⟩:=I.cell x c e;exact⟨v,L x c e v z⟩
 ·obtain⟨m,⟨o,_,_,Y,_⟩,_⟩:=I.loc;exact free _ o (fun z=>(J _ z).2.1 rfl) Y I.free
 ·obtain⟨v,o,Y,hd⟩:=I.cell x c e;exact free c o (fun z=>(J c z).2.2.1 x c e rfl) Y (I.freeC x c e)
 ·obtain⟨e,n,ne,nf,d⟩:=I.pin p hp;have M:p.1∉ch:=fun z=>(J p.1 z).2.2.2 p hp rfl;exact⟨keep p.1 p.2 ne nf M e n,free p.1 p.2 M e n,ne,nf,d⟩
theorem Inv.un{t':Nat}(I:Inv X pins σ H s)(u:Un X.fs [] H H' s.heap h')(hok:kL X.prog X.w H' h'):Inv X pins σ H' {s with heap:=h',toks:=t'}:=by
 obtain⟨m,⟨o,es,ep,M,r⟩,_⟩:=id I.loc;obtain⟨Y,O⟩:=u.any M I.free (by simp)
 exact I.step (g':=s.gens) (d':=s.drawn) (ch:=[]) (fun _ z=>nomatch z) (fun b o _ hb _ e n=>u.keep b o e n hb (by simp)) (fun b o _ hb _ e n=>u.slot b o e n hb (by simp)) (fun b o _ e n=>u.free b o e n (by simp)) (fun b o _ e=>u.there b o e (by simp)) u.tups u.frzs u.tbls (fun Z S=>by
  obtain⟨o',J,L,F,r'⟩:=S;rw[M] at F;cases F;exact⟨_,J,L,O,r'⟩) hok I.bare
theorem Inv.call{g':Array GenState}{t':Nat}{d':Drawn}{ch:List Addr}(I:Inv X pins σ H s)(u:Un (C4 X.stack) ch H H' s.heap h')(hok:kL X.prog X.w H' h')(hg:SW g')(J:∀b∈ch,(b∈X.ex\/X.s_0.heap.objs.size<=b)/\b≠X.env.locals/\(∀x c,X.env.cells.lookup x=some c->c≠b)/\∀p∈X.pn++pins,p.1≠b):
  Inv X pins σ H' {s with heap:=h',gens:=g',drawn:=d',toks:=t'}:=by
 obtain⟨m,⟨o,es,ep,Y,r⟩,_⟩:=id I.loc;obtain⟨sl,M⟩:=u.any Y I.free fun z=>(J _ z).2.1 rfl
 exact I.step (ch:=ch) J (fun b o M hb F e n=>u.keep b o e n (fun z=>(Og.mp (I.stkSub b z)).elim M hb) F) (fun b o _ _ F e n=>u.any e n F) (fun b o F e n=>u.free b o e n F) (fun b o F e=>u.there b o e F) u.tups u.frzs u.tbls (fun m' Z=>by
  obtain⟨o',O,S,L,r'⟩:=Z;rw[Y] at L;cases L;exact⟨_,O,S,M,r'⟩) hok hg
theorem Inv.turned{t':Nat}{it:Addr}(I:Inv X pins σ H s)(k:∀b o,b≠it->s.heap.get? b=some o->h'.get? b=some o)(M:H it=none)(L:it≠X.env.locals)(h1:it∈X.ex\/X.s_0.heap.objs.size<=it)(h2:∀x c,X.env.cells.lookup x=some c->c≠it)(O:∀p∈X.pn++pins,p.1≠it):Inv X pins σ H {s with heap:=h',toks:=t'}:=by
 have J:∀b u,H b=some u->b≠it:=fun b u e z=>by rw[z,M] at e;cases e
 refine I.step (g':=s.gens) (d':=s.drawn) (ch:=[it]) (fun b hb=>?_) (fun b o _ _ F e _=>k b o (fun z=>F (by simp[z])) e) (fun b o _ _ F e _=>⟨o.slots,k b o (fun z=>F (by simp[z])) e⟩) (fun _ _ _ _ n=>n)
  (fun b o F e=>⟨o,k b o (fun z=>F (by simp[z])) e⟩) (fun _ _ e=>e) (fun _ _ _ e=>e) (fun b ps e=>⟨#[],by rw[e];simp⟩) (fun m S=>?_) (fun b u e=>?_) I.bare
 ·have e:b=it:=by simpa using hb
  subst e;exact⟨h1,L,h2,O⟩
 ·obtain⟨o,es,ep,Y,r⟩:=S;exact⟨o,es,ep,k _ o (Ne.symm L) Y,r⟩
 ·refine(I.hok b u e).stay (fun c v F q=>k c v ?_ q) (fun _ q=>q) fun _ _ q=>q;rcases F with z|z
  ·rw[z];exact J b u e
  ·exact J c _ z
theorem Inv.tok(I:Inv X pins σ H s)(t:Nat):Inv X pins σ H {s with toks:=t}:=I.un (h':=s.heap) (t':=t) Un.refl I.hok
theorem Inv.kept{t':Nat}(I:Inv X pins σ H s)(k:∀b u,s.heap.get? b=some u->h'.get? b=some u):Inv X pins σ H {s with heap:=h',toks:=t'}:=I.un (Un.kept k) (I.hok.kept k)
theorem Inv.laid{a:Addr}{o:HO}{t':Nat}(I:Inv X pins σ H s)(k:∀b u,s.heap.get? b=some u->h'.get? b=some u)(z:s.heap.objs.size<=a)(F:eY X.prog X.w (upd H a o) h' a o):
  Inv X pins σ (upd H a o) {s with heap:=h',toks:=t'}:=I.un (Un.laid k z (I.hok.fresh z)) (I.hok.laid k z F)
theorem Inv.write{x e:Addr}{o:HO}{t':Nat}(I:Inv X pins σ H s)(J:Iz (H x))(he:e=x\/H e=some (.own x))(k:∀b u,b≠e->s.heap.get? b=some u->h'.get? b=some u)(z:∃u,h'.get? e=some u)(F:eY X.prog X.w (upd H x o) h' x o):Inv X pins σ (upd H x o) {s with heap:=h',toks:=t'}:=I.un (Un.write J he k z) (I.hok.write J he k z F)
theorem Inv.weak{σ':List (Option V)}(I:Inv X pins σ H s)(hl:σ'.length=σ.length)(w:∀(i:Nat) v,σ'[i]?=some (some v)->σ[i]?=some (some v)):Inv X pins σ' H s:=
 ⟨I.ok,I.os,I.bare,I.base,let ⟨m,F,z⟩:=I.loc;⟨m,F,fun i x v J L M=>z i x v J (w i v L) M⟩,I.cell,I.free,I.freeC,I.pin,I.hok,hl.trans I.len⟩
theorem Inv.pins_of{F:List (Addr×Obj)}(I:Inv X pins σ H s)(h:∀p∈F,s.heap.get? p.1=some p.2/\H p.1=none/\p.1≠X.env.locals/\p.1∉X.fs/\∀v,p.2.data≠.cell v):Inv X F σ H s:=
 ⟨I.ok,I.os,I.bare,I.base,I.loc,I.cell,I.free,I.freeC,fun p J=>(OK.mp J).elim (fun z=>I.pin p (Uv _ z)) (h p),I.hok,I.len⟩
theorem r_{N:List N_}(z:N.Nodup){i j:Nat}{x:N_}(a:N[i]?=some x)(b:N[j]?=some x):i=j:=by
 obtain⟨h1,F⟩:=N4.mp a;obtain⟨h2,I⟩:=N4.mp b;exact(getElem_inj z).mp (F.trans I.symm)
theorem uX{M:Vf}{A:OG}{E:NU->NY->Prop}{i:Nat}{x:N_}{v:V}{u:NU}{Q:Unit->NY->Prop}(I:Inv X pins σ H s)(hN:X.N.Nodup)(hi:X.N[i]?=some x)(L:Loc X.env.scope x)(r:O6 v u)(h:∀s',Inv X pins (σ.set i (some v)) H s'->(∃a,Heap.SameBut a s.heap s'.heap/\(a=X.env.locals\/X.env.cells.lookup x=some a))->Q () s')(hf:X.fn x=true\/X.env.scope.names.lookup x=some .local:=by first|exact .inl rfl|exact .inr rfl|assumption):wpAny M A (storeName X.env x u) Q E s:=by
 obtain⟨m,hn,hl⟩:=id I.loc;have an:(X.env.scope.kind==.class||(X.env.scope.kind==.module&&X.env.locals != X.env.globals))=false:=by rw[I.ok.kind];rfl
 have ar:i<σ.length:=by rw[I.len];exact(N4.mp hi).1
 have Z:=I.cne
 have tracked:∀{a:Addr}{h':Heap},(∃o,s.heap.get? a=some o/\H a=none)->Heap.SameBut a s.heap h'->kL X.prog X.w H h':=fun{a h'} ha hs b ob e=>by
  obtain⟨_,_,O⟩:=ha;refine(I.hok b ob e).stay (fun c w' J q=>(hs.2 c ?_).trans q) (fun _ q=>q) fun _ _ q=>q;rintro rfl;rcases J with rfl|J
  ·rw[O] at e;cases e
  ·rw[O] at J;cases J
 rcases L with Y|Y
 ·refine wpAny_storeName_local Y hn (fun h' b3 hs=>?_) an;obtain⟨oL,_,_,b4,_⟩:=id hn;refine h _ ⟨I.ok,I.os,I.bare,⟨fun b o e n hb L=>?_,fun b o e n hb L=>?_,I.base.free,fun b o e L=>?_,I.base.tups,I.base.frzs,I.base.tbls⟩,⟨_,b3,fun j y v' F S e3=>?_⟩,fun y c e=>?_,I.free,I.freeC,fun p hp=>?_,tracked ⟨oL,b4,I.free⟩ hs,by simpa using I.len⟩ ⟨_,hs,.inl rfl⟩
  ·exact(hs.2 b (OL (Ou (Heap.lt_size e) I.ok.above))).trans (I.base.keep b o e n hb L)
  ·obtain⟨sl,F⟩:=I.base.slot b o e n hb L;exact⟨sl,(hs.2 b (OL (Ou (Heap.lt_size e) I.ok.above))).trans F⟩
  ·obtain⟨o',F⟩:=I.base.there b o e L;exact⟨o',(hs.2 b (OL (Ou (Heap.lt_size e) I.ok.above))).trans F⟩
  ·by_cases hj:j=i
   ·subst hj;rw[hi] at F;cases F;rw[RW ar] at S;cases S;exact⟨u,r,.inl ⟨Y,by simp⟩⟩
   ·rw[Sr (Ne.symm hj)] at S;obtain⟨u',r',q⟩:=hl j y v' F S e3;refine⟨u',r',?_⟩;rcases q with⟨k,e⟩|⟨k,c,e,z⟩
    ·refine .inl ⟨k,?_⟩;have:y≠x:=fun e=>hj (r_ hN F (e ▸ hi));simp[this,e]
    ·exact .inr ⟨k,c,e,z.sameBut hs (Z y c e)⟩
  ·obtain⟨w',z⟩:=I.cell y c e;exact⟨w',z.sameBut hs (Z y c e)⟩
  ·obtain⟨e,n,ne,nf,d⟩:=I.pin p hp;exact⟨(hs.2 p.1 ne).trans e,n,ne,nf,d⟩
 ·have al:X.fn x=true:=by
   rcases hf with z|z
   ·exact z
   ·rw[z] at Y;cases Y
  obtain⟨c,J⟩:=I.ok.has x (.inl Y);obtain⟨w',z⟩:=I.cell x c J;refine wpAny_storeName_cell I.ok.kind Y J z (fun h' as hs=>?_);obtain⟨oc,av,b1⟩:=id z;refine h {s with heap:=h'} ⟨I.ok,I.os,I.bare,⟨fun b o e n hb L=>?_,fun b o e n hb L=>?_,I.base.free,fun b o e L=>?_,I.base.tups,I.base.frzs,I.base.tbls⟩,⟨m,hn.sameBut hs (Ne.symm (Z x c J)),fun j y v' F S e3=>?_⟩,fun y c' e=>?_,I.free,I.freeC,fun p hp=>?_,tracked ⟨oc,av,I.freeC x c J⟩ hs,by simpa using I.len⟩ ⟨c,hs,.inr J⟩
  ·exact(hs.2 b (OL (Ou (Heap.lt_size e) (I.ok.cab x c al J)))).trans (I.base.keep b o e n hb L)
  ·obtain⟨sl,F⟩:=I.base.slot b o e n hb L;exact⟨sl,(hs.2 b (OL (Ou (Heap.lt_size e) (I.ok.cab x c al J)))).trans F⟩
  ·obtain⟨o',F⟩:=I.base.there b o e L;exact⟨o',(hs.2 b (OL (Ou (Heap.lt_size e) (I.ok.cab x c al J)))).trans F⟩
  ·by_cases hj:j=i
   ·subst hj;rw[hi] at F;cases F;rw[RW ar] at S;cases S;exact⟨u,r,.inr ⟨.inl Y,c,J,as⟩⟩
   ·rw[Sr (Ne.symm hj)] at S;obtain⟨u',r',q⟩:=hl j y v' F S e3;refine⟨u',r',?_⟩;rcases q with q|⟨k,c',e,z'⟩
    ·exact .inl q
    ·refine .inr ⟨k,c',e,z'.sameBut hs ?_⟩;rintro rfl;exact hj (r_ hN F (I.ok.inj _ _ _ e J ▸ hi))
  ·by_cases b2:c'=c
   ·subst b2;exact⟨_,as⟩
   ·obtain⟨w2,z2⟩:=I.cell y c' e;exact⟨w2,z2.sameBut hs b2⟩
  ·obtain⟨e,n,ne,nf,d⟩:=I.pin p hp;refine⟨(hs.2 p.1 ?_).trans e,n,ne,nf,d⟩;intro q;rw[q,av] at e;have q':oc=p.2:=N6.inj e;exact d w' (by rw[<-q'];exact b1)
theorem sf{M:Vf}{A:OG}{E:NU->NY->Prop}{i:Nat}{x:N_}{v:V}{u:NU}{Q:Unit->NY->Prop}(I:Inv X pins σ H s)(z:X.N.Nodup)(hi:X.N[i]?=some x)(F:Loc X.env.scope x)(r:O6 v u)(h:∀s',Inv X pins (σ.set i (some v)) H s'->Q () s')(J:X.fn x=true\/X.env.scope.names.lookup x=some .local:=by first|exact .inl rfl|exact .inr rfl|assumption):wpAny M A (storeName X.env x u) Q E s:=
 uX I z hi F r (fun s' L _=>h s' L) J
theorem Inv.call'{s':NY}{ch:List Addr}(I:Inv X pins σ H s)(F:s'.os=s.os)(u:Un (C4 X.stack) ch H H' s.heap s'.heap)(hok:kL X.prog X.w H' s'.heap)(hg:SW s'.gens)(z:∀b∈ch,(b∈X.ex\/X.s_0.heap.objs.size<=b)/\b≠X.env.locals/\(∀x c,X.env.cells.lookup x=some c->c≠b)/\∀p∈X.pn++pins,p.1≠b):Inv X pins σ H' s':=by
 obtain⟨h',g',d',t',o'⟩:=s';have e:o'=s.os:=F;subst e;exact I.call (g':=g') (t':=t') (d':=d') u hok hg z
end
abbrev XK:=NU->Option Addr->Hp->Prop
abbrev St:=List (Option V)
abbrev VK:=V->Hp->Prop
abbrev TE:=St->Hp->VK->Prop
abbrev TT:=St->Hp->(Bool->Hp->Prop)->Prop
abbrev TA:=St->Hp->(List V->Hp->Prop)->Prop
structure kM where
 nx:St->Hp->Prop
 rt:VK
 bk:St->Hp->Prop:=fun _ _=>False
 ct:St->Hp->Prop:=fun _ _=>False
abbrev TS:=kM->St->Hp->Prop
inductive EP(X:Cx)(pins:List (Addr×Obj))(σ:St)(Q:VK)(u:NU)(s':NY):Prop|mk(v:V)(H':Hp)(_:Inv X pins σ H' s')(_:O6 v u)(_:Q v H')
inductive TP(X:Cx)(pins:List (Addr×Obj))(σ:St)(Q:Bool->Hp->Prop)(b:Bool)(s':NY):Prop|mk(H':Hp)(_:Inv X pins σ H' s')(_:Q b H')
inductive AP(X:Cx)(pins:List (Addr×Obj))(σ:St)(Q:List V->Hp->Prop)(us:List NU)(s':NY):Prop|mk(vs:List V)(H':Hp)(_:Inv X pins σ H' s')(_:bT vs us)(_:Q vs H')
def SP(X:Cx)(pins:List (Addr×Obj))(D:kM)(f:Flow)(s':NY):Prop:=
 match f with
 |.next=>∃σ' H',Inv X pins σ' H' s'/\D.nx σ' H'
 |.brk=>∃σ' H',Inv X pins σ' H' s'/\D.bk σ' H'
 |.cont=>∃σ' H',Inv X pins σ' H' s'/\D.ct σ' H'
 |.ret u=>∃v σ' H',Inv X pins σ' H' s'/\O6 v u/\D.rt v H'
def PE(X:Cx)(e:OH)(t:TE):Prop:=
 ∀(pins:List (Addr×Obj))(s:NY)(σ:St)(H:Hp)(Q:VK),Inv X pins σ H s->t σ H Q->wpAny (model X.prog X.w) X.A (eval e X.env) (EP X pins σ Q) X.xe s
def PT(X:Cx)(e:OH)(t:TT):Prop:=
 ∀(pins:List (Addr×Obj))(s:NY)(σ:St)(H:Hp)(Q:Bool->Hp->Prop),Inv X pins σ H s->t σ H Q->wpAny (model X.prog X.w) X.A (Vn e X.env (eval e X.env)) (TP X pins σ Q) X.xe s
def PW(X:Cx)(e:OH)(t:TT):Prop:=
 ∀(whole:VD NU)(pins:List (Addr×Obj))(s:NY)(σ:St)(H:Hp)(Q:Bool->Hp->Prop),Inv X pins σ H s->t σ H Q->wpAny (model X.prog X.w) X.A (Vn e X.env whole) (TP X pins σ Q) X.xe s
theorem PW.pt{X:Cx}{e:OH}{t:TT}(h:PW X e t):PT X e t:=h _
def PA(X:Cx)(es:List OH)(t:TA):Prop:=
 ∀(pos:Q2)(pins:List (Addr×Obj))(s:NY)(σ:St)(H:Hp)(Q:List V->Hp->Prop),Inv X pins σ H s->t σ H Q->wpAny (model X.prog X.w) X.A (spliced (backTo pos (starEach es X.env))) (AP X pins σ Q) X.xe s
def PS(X:Cx)(st:OE)(t:TS):Prop:=
 ∀(pins:List (Addr×Obj))(s:NY)(σ:St)(H:Hp)(D:kM),Inv X pins σ H s->t D σ H->wpAny (model X.prog X.w) X.A (exec st X.env) (SP X pins D) X.xe s
def Ay(X:Cx)(st:List OE)(t:TS):Prop:=
 ∀(pins:List (Addr×Obj))(s:NY)(σ:St)(H:Hp)(D:kM),Inv X pins σ H s->t D σ H->wpAny (model X.prog X.w) X.A (execs st X.env) (SP X pins D) X.xe s
theorem dQ{α:Type}{t:VD α}{Q z:α->NY->Prop}{M:Vf}{A:OG}{E:NU->NY->Prop}{s:NY}(h:wpAny M A t Q E s)(F:∀a s,Q a s->z a s):wpAny M A t z E s:=PP h F fun _ _ x=>x
end L2
namespace L2
open PySem PySem.Spec PyProof.Rows
section
variable{X:Cx}
theorem Kr{a b:OH}{ta tb:TE}(ha:PE X a ta)(hb:PE X b tb){pins:List (Addr×Obj)}{s:NY}{σ:St}{H:Hp}{R:V->V->Hp->Prop}(I:Inv X pins σ H s)(h:ta σ H fun x H1=>tb σ H1 fun y H2=>R x y H2){α:Type}{Q:α->NY->Prop}{f:NU->NU->VD α}(F:∀v u z x y H2,Inv X pins σ H2 z->O6 x v->O6 y u->R x y H2->wpAny (model X.prog X.w) X.A (f v u) Q X.xe z):
  wpAny (model X.prog X.w) X.A (eval a X.env) (fun v J=>wpAny (model X.prog X.w) X.A (eval b X.env) (fun u L=>wpAny (model X.prog X.w) X.A (f v u) Q X.xe L) X.xe J) X.xe s:=by
 refine dQ (ha pins s σ H _ I h) fun v M ⟨x,H1,O,S,Y⟩=>?_;refine dQ (hb pins M σ H1 _ O Y) fun u z ⟨y,H2,Z,r2,q2⟩=>?_;exact F v u z x y H2 Z S r2 q2
def fX(i:Nat):TE:=fun σ H Q=>∃v,σ[i]?=some (some v)/\Q v H
def tC(v:V):TE:=fun _ H Q=>Q v H
theorem GF{i:Nat}{x:N_}{pos:Q2}(M:X.N[i]?=some x)(hv:Ir X.env.scope x)(hd:(x==("__debug__":N_))=false:=by decide)(J:(x==("__classdict__":N_))=false:=by decide):PE X (.Name x pos) (fX i):=by
 intro pins s σ H Q I h;obtain⟨v,e,h⟩:=h;obtain⟨m,O,hl⟩:=I.loc;obtain⟨u,r,l⟩:=hl i x v M e hv;have fin:EP X pins σ Q u s:=⟨v,H,I,r,h⟩;rcases l with⟨F,S⟩|⟨F,c,L,z⟩
 ·exact UA (SA I.ok.kind F O S fin) hd
 ·rcases F with F|F
  ·exact UA (S0 I.ok.kind F L z fin) hd
  ·exact UA (wpAny_loadName_free I.ok.kind F L z fin J) hd
theorem ao{i j pos}:PE X (.Constant (.int i) j pos) (tC (.int i)):=fun _ _ _ H _ I h=>wpAny_Constant_int ⟨.int i,H,I.tok _,⟨_,rfl⟩,h⟩
theorem qh{b j pos}:PE X (.Constant (.bool b) j pos) (tC (.bl b)):=fun _ _ _ H _ I h=>Constant_bool ⟨.bl b,H,I,rfl,h⟩
theorem fk{j pos}:PE X (.Constant .none j pos) (tC .non):=fun _ _ _ H _ I h=>Constant_none ⟨.non,H,I,rfl,h⟩
theorem de{x j pos}:PE X (.Constant (.str x) j pos) (tC (.str x)):=fun _ _ _ H _ I h=>Calls.Constant_str ⟨.str x,H,I.tok _,⟨_,rfl⟩,h⟩
def Gl(X:Cx)(x:N_):Prop:=X.env.kindOf x=some .globalImplicit
theorem rL{E:NU->NY->Prop}{pins:List (Addr×Obj)}{s:NY}{σ:St}{H:Hp}{x:N_}{u:NU}{pos:Q2}{Q:NU->NY->Prop}(I:Inv X pins σ H s)(hg:Gl X x)(z:X.mg x=some u)(h:Q u s)(hd:(x==("__debug__":N_))=false:=by decide):wpAny (model X.prog X.w) X.A (eval (.Name x pos) X.env) Q E s:=
 Calls.Name_function_global I.ok.kind hg (Calls.loadGlobal_global (by rw[I.ok.glob];exact I.mod.glob.keeps I.bk) z h) hd
theorem jm{E:NU->NY->Prop}{pins:List (Addr×Obj)}{s:NY}{σ:St}{H:Hp}{x:N_}{u:NU}{pos:Q2}{Q:NU->NY->Prop}(I:Inv X pins σ H s)(hg:Gl X x)(z:X.mg x=none)(hv:Pp x=some u)(h:Q u s)(F:x≠"__name__":=by decide)(hd:(x==("__debug__":N_))=false:=by decide):wpAny (model X.prog X.w) X.A (eval (.Name x pos) X.env) Q E s:=by
 obtain⟨J,h1,h2⟩:=I.mod.blt;exact Calls.Name_function_global I.ok.kind hg (Calls.loadGlobal_builtin (by rw[I.ok.glob];exact I.mod.glob.keeps I.bk) z (by rw[I.ok.blt];exact h1.keeps I.bk) ((h2 x F).trans hv) h) hd
theorem rM{x:N_}{v:V}{u:NU}{pos:Q2}(hg:Gl X x)(z:X.mg x=some u)(r:O6 v u)(hd:(x==("__debug__":N_))=false:=by decide):PE X (.Name x pos) (tC v):=
 fun _ _ _ H _ I h=>rL I hg z ⟨v,H,I,r,h⟩ hd
variable{a b:OH}{ta tb:TE}{pos:Q2}
def PC(X:Cx)(z:R7)(a b:OH)(t:TE):Prop:=
 ∀(pins:List (Addr×Obj))(s:NY)(σ:St)(H:Hp)(Q:VK),Inv X pins σ H s->t σ H Q->
  wpAny (model X.prog X.w) X.A (eval a X.env) (fun v F=>wpAny (model X.prog X.w) X.A (eval b X.env) (fun u I=>wpAny (model X.prog X.w) X.A (O2 z v u) (EP X pins σ Q) X.xe I) X.xe F) X.xe s
theorem C5(b:OH){z:R7}(h:z≠.In)(h2:z≠.NotIn):PX z b=false:=by
 have F:(z==R7.In)=false:=by cases z<;>first|rfl|exact absurd rfl h
 have I:(z==R7.NotIn)=false:=by cases z<;>first|rfl|exact absurd rfl h2
 cases b<;>simp[PX,F,I]
def tB(t:TE):TT:=fun σ H Q=>t σ H fun x H1=>∃c,x=.bl c/\Q c H1
theorem ze{z:R7}{t:TE}(h:PC X z a b t)(h1:PX z b=false:=by first|exact C5 _ (by decide) (by decide)|rfl):PT X (.Compare a [z] [b] pos) (tB t):=by
 intro pins s σ H Q I F;refine wpAny_isTrue_Compare1 (dQ (h pins s σ H _ I F) fun v O h1=>dQ h1 fun u S h2=>dQ h2 fun c Y ⟨x,H1,J,L,M⟩=>?_) h1;obtain⟨d,rfl,q⟩:=M;cases L;exact O3 ⟨H1,J,q⟩
theorem dD{e:OH}{t:TE}(h:PE X e t)(he:∀whole,Vn e X.env whole=(do let v <-whole;Vo e.pos;Tv [v] (truthy v)):=by intro _;rfl):PT X e (tB t):=by
 intro pins s σ H Q I z;refine isTrue_plain (dQ (h pins s σ H _ I z) fun v M ⟨x,H1,F,J,L⟩=>?_) (he _);obtain⟨d,rfl,q⟩:=L;cases J;exact O3 ⟨H1,F,q⟩
variable{tA tB':TT}{bK:List OH}
def C6(t u:TT):TT:=fun σ H Q=>t σ H fun c H1=>if c=true then u σ H1 Q else Q false H1
def IA(t u:TT):TT:=fun σ H Q=>t σ H fun c H1=>if c=true then Q true H1 else u σ H1 Q
def C7(t:TT):TT:=fun σ H Q=>t σ H fun c H1=>Q (!c) H1
theorem nO(ha:PT X a tA):PW X (.BoolOp .And [a] pos) tA:=by
 intro z pins s σ H Q I h;refine isTrue_and (dQ (ha pins s σ H Q I h) fun c F e=>?_);cases c with
 |true=>exact isTrue_and_nil e
 |false=>exact e
theorem jM(ha:PT X a tA):PW X (.BoolOp .Or [a] pos) tA:=by
 intro z pins s σ H Q I h;refine isTrue_or (dQ (ha pins s σ H Q I h) fun c F e=>?_);cases c with
 |false=>exact isTrue_or_nil e
 |true=>exact e
theorem sh(ha:PT X a tA)(hb:PW X (.BoolOp .And (b::bK) pos) tB'):PW X (.BoolOp .And (a::b::bK) pos) (C6 tA tB'):=by
 intro J pins s σ H Q I h;refine isTrue_and (dQ (ha pins s σ H _ I h) fun c L ⟨H1,z,F⟩=>?_);cases c with
 |true=>exact hb J pins L σ H1 Q z F
 |false=>exact⟨H1,z,F⟩
theorem mE(ha:PT X a tA)(hb:PW X (.BoolOp .Or (b::bK) pos) tB'):PW X (.BoolOp .Or (a::b::bK) pos) (IA tA tB'):=by
 intro J pins s σ H Q I h;refine isTrue_or (dQ (ha pins s σ H _ I h) fun c L ⟨H1,z,F⟩=>?_);cases c with
 |true=>exact⟨H1,z,F⟩
 |false=>exact hb J pins L σ H1 Q z F
theorem fI(ha:PT X a tA):PT X (.UnaryOp .Not a pos) (C7 tA):=by
 intro pins s σ H Q I h;exact isTrue_not (dQ (ha pins s σ H (fun c H1=>Q (!c) H1) I h) fun _ _ ⟨H1,z,F⟩=>⟨H1,z,F⟩)
def si(ta tb:TE):TE:=fun σ H Q=>ta σ H fun x H1=>∃c,x=.bl c/\if c=true then tb σ H1 Q else Q (.bl false) H1
def Bu(ta tb:TE):TE:=fun σ H Q=>ta σ H fun x H1=>∃c,x=.bl c/\if c=true then Q (.bl true) H1 else tb σ H1 Q
def xx(ta:TE):TE:=fun σ H Q=>ta σ H fun x H1=>∃c,x=.bl c/\Q (.bl (!c)) H1
theorem gq{op}{t:TE}(h:PE X a t):PE X (.BoolOp op [a] pos) t:=fun pins s σ H Q I z=>BoolOp_one (h pins s σ H Q I z)
theorem fZ(ha:PE X a ta)(hb:PE X (.BoolOp .And (b::bK) pos) tb):PE X (.BoolOp .And (a::b::bK) pos) (si ta tb):=by
 intro pins s σ H Q I h;refine BoolOp_and (dQ (ha pins s σ H _ I h) fun v J ⟨x,H1,F,L,z⟩=>?_);obtain⟨c,rfl,z⟩:=z;cases L;refine O3 ?_;cases c with
 |true=>exact hb pins J σ H1 Q F z
 |false=>exact⟨.bl false,H1,F,rfl,z⟩
theorem Az(ha:PE X a ta)(hb:PE X (.BoolOp .Or (b::bK) pos) tb):PE X (.BoolOp .Or (a::b::bK) pos) (Bu ta tb):=by
 intro pins s σ H Q I h;refine BoolOp_or (dQ (ha pins s σ H _ I h) fun v J ⟨x,H1,F,L,z⟩=>?_);obtain⟨c,rfl,z⟩:=z;cases L;refine O3 ?_;cases c with
 |false=>exact hb pins J σ H1 Q F z
 |true=>exact⟨.bl true,H1,F,rfl,z⟩
theorem GG(ha:PE X a ta):PE X (.UnaryOp .Not a pos) (xx ta):=by
 intro pins s σ H Q I h;refine UnaryOp_ (dQ (ha pins s σ H _ I h) fun v L ⟨x,H1,F,J,z⟩=>?_);obtain⟨c,rfl,z⟩:=z;cases J;exact not_of (O3 ⟨.bl (!c),H1,F,rfl,z⟩)
def IB(t:TT)(ta tb:TE):TE:=fun σ H Q=>t σ H fun c H1=>if c=true then ta σ H1 Q else tb σ H1 Q
theorem fh{c:OH}(L:PT X c tA)(ha:PE X a ta)(hb:PE X b tb):PE X (.IfExp c a b pos) (IB tA ta tb):=by
 intro pins s σ H Q I h;refine wpAny_IfExp (dQ (L pins s σ H _ I h) fun d z ⟨H1,F,J⟩=>?_);cases d with
 |true=>exact ha pins z σ H1 Q F J
 |false=>exact hb pins z σ H1 Q F J
end
end L2
namespace L2
open PySem PySem.Spec PyProof.Rows
def aI(K:PySem.W.Frag)(H:Hp)(a:Addr)(xs:List V):Prop:=
 Rd H a (.lst xs)\/
  ∃(o:Obj)(its:Array NU)(n:Nat),K.lookup a=some o/\o.cls=.type "list"/\o.dict=none/\o.data=.seq its n/\its.size<=sizeLine/\bT xs its.toList
def gI(K:PySem.W.Frag)(H:Hp)(a:Addr)(xs:List V):Prop:=
 Rd H a (.tup xs)\/
  ∃(o:Obj)(its:Array NU)(n:Nat),K.lookup a=some o/\o.cls=.type "tuple"/\o.data=.seq its n/\its.size<=sizeLine/\bT xs its.toList
def JL:NU->Option V
 |.none=>some .non
 |.bool b=>some (.bl b)
 |.int i _=>some (.int i)
 |.str x _=>some (.str x)
 |.bytes b _=>some (.byt b)
 |.float b _=>some (.flt b)
 |.ref a=>some (.ref a)
 |.type n=>some (.ty n)
 |_=>none
theorem O6.abs{x:V}{u:NU}(r:O6 x u):JL u=some x:=by
 cases x with
 |non=>cases r;rfl
 |bl _=>cases r;rfl
 |int _=>obtain⟨t,rfl⟩:=r;rfl
 |str _=>obtain⟨t,rfl⟩:=r;rfl
 |byt _=>obtain⟨t,rfl⟩:=r;rfl
 |flt _=>obtain⟨t,rfl⟩:=r;rfl
 |ref _=>cases r;rfl
 |ty _=>cases r;rfl
theorem O6.inj{x y:V}{u:NU}(r:O6 x u)(q:O6 y u):x=y:=N6.inj (r.abs.symm.trans q.abs)
theorem bT.inj:∀{xs ys:List V}{us:List NU},bT xs us->bT ys us->xs=ys
 |_,_,_,.nil,.nil=>rfl
 |_,_,_,.cons r t,.cons r' t'=>by rw[r.inj r',bT.inj t t']
section
variable{X:Cx}{pins:List (Addr×Obj)}{σ:St}{H:Hp}{s:NY}{a:Addr}{xs ys:List V}
theorem aI.of{K:PySem.W.Frag}(h:H a=some (.lst xs)):aI K H a xs:=.inl (.inl h)
theorem gI.of{K:PySem.W.Frag}(h:H a=some (.tup xs)):gI K H a xs:=.inl (.inl h)
theorem Inv.list(I:Inv X pins σ H s)(h:aI X.K H a xs):∃its:List NU,bT xs its/\PlainL s.heap a its.toArray/\xs.length<=sizeLine:=by
 rcases h with h|⟨o,its,n,F,J,hd,hs,L,r⟩
 ·obtain⟨z,its,n,r,e⟩:=h.ok I.hok;exact⟨its,r,⟨_,n,e,rfl,rfl,rfl⟩,z⟩
 ·refine⟨its.toList,r,⟨o,n,I.kIn a o F,J,hd,by simpa using hs⟩,?_⟩;have e:=r.length;simp only[Array.length_toList] at e;lia
theorem Inv.tuple(I:Inv X pins σ H s)(h:gI X.K H a xs):∃its:List NU,bT xs its/\Td s.heap a its.toArray/\xs.length<=sizeLine:=by
 rcases h with h|⟨o,its,n,F,J,hs,L,r⟩
 ·obtain⟨z,its,r,p⟩:=h.ok I.hok;exact⟨its,r,p,z⟩
 ·refine⟨its.toList,r,⟨o,I.kIn a o F,J,n,by simpa using hs⟩,?_⟩;have e:=r.length;simp only[Array.length_toList] at e;lia
theorem Inv.list_inj(I:Inv X pins σ H s)(h:aI X.K H a xs)(h':aI X.K H a ys):xs=ys:=by
 obtain⟨its,r,⟨o,n,e,_,_,d⟩,_⟩:=I.list h;obtain⟨its',r',⟨o',F,e',_,_,d'⟩,_⟩:=I.list h';rw[e] at e';cases e';rw[d] at d';injection d' with z _;have:its=its':=by simpa using congrArg Array.toList z
 subst this;exact r.inj r'
theorem Inv.tuple_inj(I:Inv X pins σ H s)(h:gI X.K H a xs)(h':gI X.K H a ys):xs=ys:=by
 obtain⟨its,r,⟨o,e,_,n,d⟩,_⟩:=I.tuple h;obtain⟨its',r',⟨o',e',_,F,d'⟩,_⟩:=I.tuple h';rw[e] at e';cases e';rw[d] at d';injection d' with z _;have:its=its':=by simpa using congrArg Array.toList z
 subst this;exact r.inj r'
end
abbrev Cx.wish(X:Cx)(E:NU->NY->Prop):Cx:={X with xe:=E}
abbrev Cx.nox(X:Cx):Cx:=X.wish fun _ _=>False
theorem Cx.Ok.wish{X:Cx}(ok:X.Ok)(E:NU->NY->Prop):(X.wish E).Ok:=
 ⟨ok.mod,ok.kind,ok.glob,ok.blt,ok.above,ok.inj,ok.has,ok.cab,ok.hd,ok.frames,ok.stk,ok.exf,ok.bs,ok.bsz,ok.noex,ok.exfs,ok.funs,ok.frf⟩
theorem Cx.Ok.unwish{X:Cx}{E:NU->NY->Prop}(ok:(X.wish E).Ok):X.Ok:=
 ⟨ok.mod,ok.kind,ok.glob,ok.blt,ok.above,ok.inj,ok.has,ok.cab,ok.hd,ok.frames,ok.stk,ok.exf,ok.bs,ok.bsz,ok.noex,ok.exfs,ok.funs,ok.frf⟩
section
variable{X:Cx}{pins:List (Addr×Obj)}{σ:St}{H:Hp}{s:NY}{E:NU->NY->Prop}
theorem Inv.wish(I:Inv X pins σ H s)(E:NU->NY->Prop):Inv (X.wish E) pins σ H s:=⟨I.ok.wish E,I.os,I.bare,I.base,I.loc,I.cell,I.free,I.freeC,I.pin,I.hok,I.len⟩
theorem Inv.unwish(I:Inv (X.wish E) pins σ H s):Inv X pins σ H s:=⟨I.ok.unwish,I.os,I.bare,I.base,I.loc,I.cell,I.free,I.freeC,I.pin,I.hok,I.len⟩
theorem SP.unwish{D:kM}{f:Flow}{s':NY}(h:SP (X.wish E) pins D f s'):SP X pins D f s':=by
 cases f with
 |next=>obtain⟨σ',H',I,q⟩:=h;exact⟨σ',H',I.unwish,q⟩
 |brk=>obtain⟨σ',H',I,q⟩:=h;exact⟨σ',H',I.unwish,q⟩
 |cont=>obtain⟨σ',H',I,q⟩:=h;exact⟨σ',H',I.unwish,q⟩
 |ret u=>obtain⟨v,σ',H',I,r,q⟩:=h;exact⟨v,σ',H',I.unwish,r,q⟩
theorem Ay.nox{st:List OE}{t:TS}(h:Ay X.nox st t):Ay X st t:=fun pins s σ H D I F=>
 PP (h pins s σ H D (I.wish _) F) (fun _ _ q=>q.unwish) fun _ _ z=>False.elim z
end
section
variable{X:Cx}{st:OE}{bK:List OE}{t u:TS}{e:OH}{te:TE}{pos:Q2}
def xy:TS:=fun D σ H=>D.nx σ H
def we(t u:TS):TS:=fun D σ H=>t {D with nx:=u D} σ H
theorem aG:Ay X [] xy:=fun _ _ σ H _ I h=>wpAny_execs_nil ⟨σ,H,I,h⟩
theorem ae(h1:PS X st t)(h2:Ay X bK u):Ay X (st::bK) (we t u):=by
 intro pins s σ H D I h;refine TW (dQ (h1 pins s σ H {D with nx:=u D} I h) fun f z q=>?_);cases f with
 |next=>
  obtain⟨σ',H',F,q⟩:=q;exact h2 pins z σ' H' D F q
 |ret v=>exact q
 |brk=>exact q
 |cont=>exact q
theorem ak(h1:PS X st t):Ay X [st] t:=by
 intro pins s σ H D I h;refine TW (dQ (h1 pins s σ H D I h) fun f z q=>?_);cases f with
 |next=>exact wpAny_execs_nil q
 |ret v=>exact q
 |brk=>exact q
 |cont=>exact q
theorem Inv.quiet{pins:List (Addr×Obj)}{σ:St}{H:Hp}{s:NY}(I:Inv X pins σ H s):interactive X.env=false:=by simp[interactive,I.ok.kind]
def xz(te:TE):TS:=fun D σ H=>te σ H fun _ H1=>D.nx σ H1
theorem dr(he:PE X e te)(hs:Q3 e none pos.line X.env=pure false:=by rfl):PS X (.Expr e pos) (xz te):=by
 intro pins s σ H D I h;exact wpAny_Expr_any (dQ (he pins s σ H _ I h) fun v J ⟨x,H1,z,L,F⟩=>⟨σ,H1,z,F⟩) I.quiet hs
def Bv(te:TE):TS:=fun D σ H=>te σ H D.rt
theorem au(he:PE X e te):PS X (.Return (some e) pos) (Bv te):=by
 intro pins s σ H D I h;exact wpAny_Return_some (dQ (he pins s σ H _ I h) fun v L ⟨x,H1,z,F,J⟩=>⟨x,σ,H1,z,F,J⟩)
def C8(c:TT)(t u:TS):TS:=fun D σ H=>c σ H fun b H1=>if b=true then t D σ H1 else u D σ H1
theorem bc{c:OH}{a b:List OE}{tc:TT}(L:PT X c tc)(ha:Ay X a t)(hb:Ay X b u):PS X (.If c a b pos) (C8 tc t u):=by
 intro pins s σ H D I h;refine wpAny_If (dQ (L pins s σ H _ I h) fun d z ⟨H1,F,J⟩=>?_);cases d with
 |true=>exact ha pins z σ H1 D F J
 |false=>exact hb pins z σ H1 D F J
end
abbrev TG:=V->St->Hp->(St->Hp->Prop)->Prop
abbrev EF:=List V->St->Hp->(St->Hp->Prop)->Prop
def PG(X:Cx)(target:OH)(t:TG):Prop:=
 ∀(pins:List (Addr×Obj))(s:NY)(σ:St)(H:Hp)(v:V)(u:NU)(Q:St->Hp->Prop),Inv X pins σ H s->O6 v u->t v σ H Q->
  wpAny (model X.prog X.w) X.A (TY target X.env u) (fun _ s'=>∃σ' H',Inv X pins σ' H' s'/\Q σ' H') X.xe s
def IC(X:Cx)(z:List OH)(t:EF):Prop:=
 ∀(pins:List (Addr×Obj))(s:NY)(σ:St)(H:Hp)(vs:List V)(us:List NU)(Q:St->Hp->Prop),Inv X pins σ H s->bT vs us->t vs σ H Q->
  wpAny (model X.prog X.w) X.A (assignInOrder ((QY z X.env).map (·.2)) us) (fun _ s'=>∃σ' H',Inv X pins σ' H' s'/\Q σ' H') X.xe s
abbrev EK:=V->V->V->Hp->(Hp->Prop)->Prop
def ID(X:Cx)(t:EK):Prop:=
 ∀(pins:List (Addr×Obj))(s:NY)(σ:St)(H:Hp)(o i v:V)(z F u:NU)(Q:Hp->Prop),Inv X pins σ H s->O6 o z->O6 i F->O6 v u->t o i v H Q->
  wpAny (model X.prog X.w) X.A (setItem z F u) (fun _ s'=>∃H',Inv X pins σ H' s'/\Q H') X.xe s
abbrev IE:=V->V->Hp->VK->Prop
def JM(X:Cx)(z:Tw)(t:IE):Prop:=
 ∀(pins:List (Addr×Obj))(s:NY)(σ:St)(H:Hp)(x y:V)(v u:NU)(Q:VK),Inv X pins σ H s->O6 x v->O6 y u->t x y H Q->
  wpAny (model X.prog X.w) X.A (Vg z v u) (EP X pins σ Q) X.xe s
section
variable{X:Cx}{pos:Q2}
def fS(i:Nat):TG:=fun v σ H Q=>Q (σ.set i (some v)) H
theorem wf{i:Nat}{x:N_}(z:X.N.Nodup)(hi:X.N[i]?=some x)(F:Loc X.env.scope x)(J:X.fn x=true\/X.env.scope.names.lookup x=some .local:=by first|exact .inl rfl|exact .inr rfl|assumption):PG X (.Name x pos) (fS i):=by
 intro pins s σ H v u Q I r h;exact wpAny_assign_Name (sf I z hi F r (fun s' L=>⟨_,H,L,h⟩) J)
def IF:EF:=fun vs σ H Q=>vs=[]/\Q σ H
def F3(t:TG)(u:EF):EF:=fun vs σ H Q=>∃v r,vs=v::r/\t v σ H fun σ' H'=>u r σ' H' Q
theorem gm:IC X [] IF:=by
 intro pins s σ H vs us Q I r h;obtain⟨e,h⟩:=h;subst e;cases r;exact assignInOrder_nil ⟨σ,H,I,h⟩
theorem cg{e:OH}{es:List OH}{t:TG}{u:EF}(h1:PG X e t)(h2:IC X es u)(hs:(QY (e::es) X.env).map (·.2)=TY e X.env::(QY es X.env).map (·.2):=by rfl):IC X (e::es) (F3 t u):=by
 intro pins s σ H vs us Q I r h;obtain⟨v,S,z,h⟩:=h;subst z;cases r with
 |cons r F=>
  rw[hs];refine assignInOrder_cons (dQ (h1 pins s σ H _ _ _ I r h) fun _ J ⟨L,H1,M,O⟩=>?_);exact h2 pins J L H1 _ _ Q M F O
def GH(K:PySem.W.Frag)(n:Nat)(t:EF):TG:=fun v σ H Q=>∃a xs,v=.ref a/\gI K H a xs/\xs.length=n/\t xs σ H Q
theorem sj{es:List OH}{k:Nat}{t:EF}{n:Nat}(L:X.calm=true)(h:IC X es t)(M:(QY es X.env).length=n:=by rfl)(z:(QY es X.env).findIdx? (·.1)=none:=by rfl):PG X (.Tuple es k pos) (GH X.K n t):=by
 intro pins s σ H v u Q I r F;obtain⟨a,xs,O,S,hl,F⟩:=F;subst O;cases r;obtain⟨its,J,Y,hz⟩:=I.tuple S;refine assign_Tuple_tuple (I.ok.hd L) Y (by simp[M,<-hl,J.length]) z fun h' Z=>?_;have I1:Inv X pins σ H {s with heap:=h'}:=I.kept (t':=s.toks) fun b o e=>Z b o (OL (Heap.lt_size e)) e;exact h pins _ σ H xs _ Q I1 (by simpa using J) F
def IG(to z:TE)(t:EK):TG:=fun v σ H Q=>to σ H fun o H1=>z σ H1 fun i H2=>t o i v H2 fun F=>Q σ F
theorem GI{o i:OH}{to J:TE}{t:EK}(L:PE X o to)(hi:PE X i J)(hs:ID X t)(ha:∀v,TY (.Subscript o i pos) X.env v=(do
   let z <-Tv [v] (eval o X.env)
   let F <-Tv [v,z] (eval i X.env)
   Vo pos
   Tv [v,z,F] (setItem z F v)
   release [v,z,F] []):=by intro _;rfl):PG X (.Subscript o i pos) (IG to J t):=by
 intro pins s σ H v u Q I r h;rw[ha];refine wpAny_bind (Te (dQ (L pins s σ H _ I h) fun z M ⟨x,H1,O,S,Y⟩=>?_));refine wpAny_bind (Te (dQ (hi pins M σ H1 _ O Y) fun F Z ⟨y,H2,I2,r2,q2⟩=>?_));refine wpAny_bind (Tg (wpAny_bind (Te (dQ (hs pins Z σ H2 x y v z F u _ I2 S r2 r q2) fun _ s3 ⟨H3,I3,q3⟩=>?_))));exact wpAny_release ⟨σ,H3,I3,q3⟩
def xA(te:TE)(g:TG):TS:=fun D σ H=>te σ H fun x H1=>g x σ H1 D.nx
theorem GJ{tg e:OH}{te:TE}{g:TG}(he:PE X e te)(hg:PG X tg g)(hs:swapsWithSole [tg] e pos.line X.env=pure false:=by rfl)(z:swappedStores [tg] e X.env=pure none:=by rfl)(h1:(QY [tg] X.env).map (·.2)=[TY tg X.env]:=by rfl):PS X (.Assign [tg] e pos) (xA te g):=by
 intro pins s σ H D I h;refine wpAny_Assign_stores (dQ (he pins s σ H _ I h) fun v F ⟨x,H1,J,L,M⟩=>?_) hs z;rw[h1];exact dQ (hg pins F σ H1 x v _ J L M) fun _ O q=>q
theorem sk{i:Nat}{x:N_}{e:OH}{te:TE}{pos':Q2}(z:X.N.Nodup)(hi:X.N[i]?=some x)(F:Loc X.env.scope x)(he:PE X e te)(hs:Q3 e (some (.Name x pos')) pos.line X.env=pure false:=by rfl)(J:X.fn x=true\/X.env.scope.names.lookup x=some .local:=by first|exact .inl rfl|exact .inr rfl|assumption):
  PS X (.Assign [.Name x pos'] e pos) (xA te (fS i)):=by
 intro pins s σ H D I h;refine wpAny_Assign_Name (dQ (he pins s σ H _ I h) fun v Y ⟨y,H1,L,M,O⟩=>?_) hs;exact sf L z hi F M (fun Z S=>⟨_,H1,S,O⟩) J
def II(i:Nat)(te:TE)(F:IE):TS:=fun D σ H=>∃x,σ[i]?=some (some x)/\te σ H fun y H1=>F x y H1 fun z H2=>D.nx (σ.set i (some z)) H2
theorem sn{i:Nat}{x:N_}{e:OH}{te:TE}{L:Tw}{S:IE}{pos':Q2}(Y:X.N.Nodup)(hi:X.N[i]?=some x)(M:Loc X.env.scope x)(he:PE X e te)(Z:JM X L S)(hf:X.fn x=true\/X.env.scope.names.lookup x=some .local:=by first|exact .inl rfl|exact .inr rfl|assumption):
  PS X (.AugAssign (.Name x pos') L e pos) (II i te S):=by
 intro pins s σ H D I h;obtain⟨v,e1,h⟩:=h;obtain⟨m,hn,hl⟩:=I.loc;have O:Ir X.env.scope x:=by rcases M with k|k;exact .inl k;exact .inr (.inl k)
 obtain⟨u,r,l⟩:=hl i x v hi e1 O;refine wpAny_AugAssign_Name ?_
 have go:wpAny (model X.prog X.w) X.A (eval e X.env) (fun w s₂=>wpAny (model X.prog X.w) X.A (Vg L u w) (fun r s₃=>wpAny (model X.prog X.w) X.A (storeName X.env x r) (fun _=>SP X pins D .next) X.xe s₃) X.xe s₂) X.xe s:=by
  refine dQ (he pins s σ H _ I h) fun w s1 ⟨y,H1,I1,r1,q1⟩=>?_;refine dQ (Z pins s1 σ H1 v y u w _ I1 r r1 q1) fun z s2 ⟨zv,H2,I2,r2,q2⟩=>?_;exact sf I2 Y hi M r2 (fun s3 I3=>⟨_,H2,I3,q2⟩) hf
 rcases l with⟨F,hm⟩|⟨F,c,hc,J⟩
 ·exact SA I.ok.kind F hn hm go
 ·rcases F with F|F
  ·exact S0 I.ok.kind F hc J go
  ·rcases M with k|k
   ·have:X.env.scope.names.lookup x=some .free:=F;rw[k] at this;cases this
   ·have:X.env.scope.names.lookup x=some .free:=F;rw[k] at this;cases this
def JN(f:Int->Int->Int):IE:=fun x y H Q=>∃i j,x=.int i/\y=.int j/\Q (.int (f i j)) H
theorem C9:JM X .Add (JN fun i j=>i+j):=by
 intro pins s σ H x y v u Q I z F h;obtain⟨i,j,J,L,q⟩:=h;subst J;subst L;obtain⟨t,rfl⟩:=z;obtain⟨t',rfl⟩:=F;exact iadd_int ⟨.int _,H,I.tok _,⟨_,rfl⟩,q⟩
theorem zf:JM X .Sub (JN fun i j=>i-j):=by
 intro pins s σ H x y v u Q I z F h;obtain⟨i,j,J,L,q⟩:=h;subst J;subst L;obtain⟨t,rfl⟩:=z;obtain⟨t',rfl⟩:=F;exact isub_int ⟨.int _,H,I.tok _,⟨_,rfl⟩,q⟩
end
section
variable{X:Cx}{pos:Q2}
def GK(c:TT)(tb:TS):TS:=fun D σ H=>∃W:Nat->St->Hp->Prop,(∃m,W m σ H)/\∀m σ H,W m σ H->
 c σ H fun b H1=>if b=true then ∃N:St->Hp->Prop,(∀σ' H',N σ' H'->∃z,z<m/\W z σ' H')/\tb {D with nx:=N,ct:=N,bk:=D.nx} σ H1 else D.nx σ H1
theorem kN{c:OH}{z:List OE}{tc:TT}{tb:TS}(hp:OU (model X.prog X.w) X.A X.env X.xe)(hc:PT X c tc)(hb:Ay X z tb):PS X (.While c z [] pos) (GK tc tb):=by
 intro pins s σ H D I h;obtain⟨W,⟨m0,w0⟩,F⟩:=h;refine wpAny_While (codeAny_whileLoop (fun n s'=>∃σ' H',Inv X pins σ' H' s'/\W n σ' H') ?_ m0 ⟨σ,H,I,w0⟩);rintro n s1 ⟨M,H1,I1,w1⟩;refine wpAny_passesOwn hp (dQ (hc pins s1 M H1 _ I1 (F n M H1 w1)) fun b s2 ⟨H2,I2,O⟩=>?_);cases b with
 |true=>
  obtain⟨N,hN,O⟩:=O;rw[if_pos rfl];refine wpAny_passesOwn hp (dQ (hb pins s2 M H2 _ I2 O) fun f s3 S=>?_);cases f with
  |next=>
   obtain⟨J,L,Y,Z⟩:=S;obtain⟨m',hm,w3⟩:=hN J L Z;exact⟨m',hm,J,L,Y,w3⟩
  |cont=>
   obtain⟨J,L,Y,Z⟩:=S;obtain⟨m',hm,w3⟩:=hN J L Z;exact⟨m',hm,J,L,Y,w3⟩
  |brk=>exact S
  |ret v=>exact S
 |false=>
  rw[if_neg N2];exact wpAny_execs_nil ⟨M,H2,I2,O⟩
end
structure It where
 go:Nat->Hp->Prop
 yld:Nat->Hp->V->Hp->Prop
 stop:Nat->Hp->Prop
def qQ(X:Cx)(pins:List (Addr×Obj))(H:Hp)(b:Addr):Prop:=
 H b=none/\b≠X.env.locals/\b∉X.fs/\(b∈X.ex\/X.s_0.heap.objs.size<=b)/\(∀x c,X.env.cells.lookup x=some c->c≠b)/\∀p∈X.pn++pins,p.1≠b
theorem Inv.fpOk{X:Cx}{pins:List (Addr×Obj)}{σ:St}{H H':Hp}{s:NY}{b:Addr}(I:Inv X pins σ H s)(hb:s.heap.objs.size<=b)(F:H' b=none):qQ X pins H' b:=by
 refine⟨F,Q9 (Ou I.lt hb),I.nofs hb,.inr (Od I.sz hb),fun x c e z=>?_,fun p J z=>?_⟩
 ·obtain⟨v,q⟩:=I.cell x c e;exact absurd (Ou q.lt (by rw[z];exact hb)) (Pn _)
 ·exact absurd (Ou (Heap.lt_size (I.pin p J).1) (by rw[z];exact hb)) (Pn _)
structure xB (P:N3) (w:Oh) (K:PySem.W.Frag) (tg:OH) (J:It) (fp:List Addr) (it:Addr) (tn:Nat->Heap->Prop):Prop where
 mem:it∈fp
 obj:∀i h,tn i h->∀b∈fp,∃o,h.get? b=some o/\∀v,o.data≠.cell v
 keep:∀i h h',tn i h->(∀b∈fp,∀o,h.get? b=some o->h'.get? b=some o)->tn i h'
 item:∀(X:Cx),X.prog=P->X.w=w->X.K=K->X.calm=true->∀(i:Nat)(pins:List (Addr×Obj))(s:NY)(σ:St)(H:Hp)(E:NU->NY->Prop),Inv X pins σ H s->(∀b∈fp,qQ X pins H b)->tn i s.heap->J.go i H->
  wpAny (model P w) X.A (TZ (.ref it)) (fun r s1=>∃u,r=some u/\
   wpAny (model P w) X.A (Rz tg (.ref it) u) (fun _ s2=>∃x H',Inv X pins σ H' s2/\O6 x u/\J.yld i H x H'/\tn (i+1) s2.heap/\∀b∈fp,H' b=none) E s1) E s
 done:∀(X:Cx),X.prog=P->X.w=w->X.K=K->X.calm=true->∀(i:Nat)(pins:List (Addr×Obj))(s:NY)(σ:St)(H:Hp)(E:NU->NY->Prop),Inv X pins σ H s->(∀b∈fp,qQ X pins H b)->tn i s.heap->J.stop i H->
  wpAny (model P w) X.A (TZ (.ref it)) (fun r s1=>r=none/\Inv X pins σ H s1) E s
 self:∀(A:OG)(i:Nat)(s:NY)(Q:NU->NY->Prop)(E:NU->NY->Prop),tn i s.heap->Q (.ref it) s->wpAny (model P w) A (VE (.ref it)) Q E s
abbrev TI:=St->Hp->(It->Hp->Prop)->Prop
inductive JO(X:Cx)(pins:List (Addr×Obj))(σ:St)(tg:OH)(R:It->Hp->Prop)(z:NU)(F:NY):Prop|mk(it:Addr)(I:List Addr)(L:Nat->Heap->Prop)(J:It)(H':Hp)(_:z=.ref it)(_:Inv X pins σ H' F)(_:xB X.prog X.w X.K tg J I it L)(_:L 0 F.heap)(_:(∀b∈I,qQ X pins H' b))(_:R J H')
def PI(X:Cx)(tg iter:OH)(z:TI):Prop:=
 ∀(pins:List (Addr×Obj))(s:NY)(σ:St)(H:Hp)(R:It->Hp->Prop),Inv X pins σ H s->z σ H R->
  wpAny (model X.prog X.w) X.A (eval iter X.env) (fun v F=>wpAny (model X.prog X.w) X.A (VE v) (JO X pins σ tg R) X.xe F) X.xe s
theorem C_{M:Vf}{A:OG}{E:NU->NY->Prop}{s:NY}{tg:OH}{it:Addr}{u:NU}{o:Obj}{n:String}{vs:Array NU}{Q:Unit->NY->Prop}(F:s.heap.get? it=some o)(I:o.cls=.type n)(hd:o.data=.fields vs)(J:["enumerate","zip","dict_itemiterator","dict_reverseitemiterator","odict_iterator","itertools.zip_longest","itertools.pairwise"].contains n=false)(z:Q () s):wpAny M A (Rz tg (.ref it) u) Q E s:=by
 unfold Rz
 cases tg<;>first
  |exact wpAny_pure z
  |(cases u<;>first
    |exact wpAny_pure z
    |(refine wpAny_bind (wpAny_load F ?_)
      rw[I,hd];show wpAny M A (if (["enumerate","zip","dict_itemiterator","dict_reverseitemiterator","odict_iterator","itertools.zip_longest","itertools.pairwise"].contains n&&vs[0]?==some (UB _))=true then _ else _) Q E s;rw[if_neg (by intro h;rw[J,OQ] at h;cases h)];exact wpAny_pure z))
def uw(K:PySem.W.Frag)(a:Addr):It:=
 ⟨fun i H=>∃xs x,aI K H a xs/\xs[i]?=some x,fun i H x H'=>H'=H/\∀xs,aI K H a xs->xs[i]?=some x,fun i H=>∃xs,aI K H a xs/\xs.length<=i⟩
def qR(lo:Int)(n:Nat):It:=⟨fun i _=>i<n,fun i H x H'=>H'=H/\x=.int (lo+i),fun i _=>n<=i⟩
theorem Bw{P:N3}{w:Oh}{K:PySem.W.Frag}{tg:OH}(a it:Addr):xB P w K tg (uw K a) [it] it (fun i h=>h.IsListIter it a i) where
 mem:=by simp
 obj:=fun i h st b hb=>by
  have e:b=it:=by simpa using hb
  subst e;obtain⟨o,e,c,d⟩:=st;exact⟨o,e,fun v z=>by rw[d] at z;cases z⟩
 keep:=fun i h h' st k=>st.at fun o e=>k it (by simp) o e
 item:=by
  intro X M O S hc i pins s σ H E I J st hg;subst M O S;obtain⟨xs,x,L,Y⟩:=hg;obtain⟨its,Z,p,hz⟩:=I.list L;obtain⟨u,hu,ru⟩:=Z.get Y;obtain⟨f0,f1,f2,f3,f4,f5⟩:=J it (by simp);refine wpAny_pyNext_list_item st p.isList (x:=u) (by simpa using hu) fun h' F sb=>?_;have I1:Inv X pins σ H {s with heap:=h'}:=I.turned (t':=s.toks) (fun b o hb e=>(sb.2 b hb).trans e) f0 f1 f3 f4 f5;obtain⟨o,e,c,d⟩:=id F;exact⟨u,rfl,C_ (s:={s with heap:=h'}) e c d (by decide) ⟨x,H,I1,ru,⟨rfl,fun ys hy=>by rw[I.list_inj hy L];exact Y⟩,F,fun b hb=>(J b hb).1⟩⟩
 done:=by
  intro X M O S hc i pins s σ H E I J st hg;subst M O S;obtain⟨xs,L,Y⟩:=hg;obtain⟨its,Z,p,hz⟩:=I.list L;obtain⟨f0,f1,f2,f3,f4,f5⟩:=J it (by simp);have hl:=Z.length;exact wpAny_pyNext_list_end (I.ok.hd hc) st p.isList (by simp;lia) fun h' eb=>⟨rfl,I.turned (t':=s.toks) (fun b o hb e=>eb b o hb e) f0 f1 f3 f4 f5⟩
 self:=fun _ _ _ _ _ st h=>wpAny_pyIter_listiter st h
theorem zg{P:N3}{w:Oh}{K:PySem.W.Frag}{tg:OH}(it:Addr)(lo:Int)(n:Nat):xB P w K tg (qR lo n) [it] it (fun i h=>SB h it (lo+(i:Nat)*1) ((n:Int)-(i:Nat)) 1) where
 mem:=by simp
 obj:=fun i h st b hb=>by
  have e:b=it:=by simpa using hb
  subst e
  exact⟨_,st,fun v z=>by
   have z':Data.fields _=Data.cell v:=z;cases z'⟩
 keep:=fun i h h' st k=>k it (by simp) _ st
 item:=by
  intro X L M O S i pins s σ H E I J st hg;subst L M O;obtain⟨Y,Z,f2,f3,f4,f5⟩:=J it (by simp);have W:=Walks.range (prog:=X.prog) (w:=X.w) (I.ok.hd S) it lo 1 n;refine W.item i s _ _ hg st fun v h' tk hv F kk=>?_;obtain⟨t,rfl⟩:=hv;have I1:Inv X pins σ H {s with heap:=h',toks:=tk}:=I.turned (fun b o hb e=>kk b o (by simpa using hb) e) Y Z f3 f4 f5;refine⟨_,rfl,C_ (s:={s with heap:=h',toks:=tk}) (n:="range_iterator") F rfl rfl (by decide) ⟨.int (lo+i),H,I1,⟨t,?_⟩,⟨rfl,rfl⟩,F,fun b hb=>(J b hb).1⟩⟩;rw[Vu]
 done:=by
  intro X L M O S i pins s σ H E I J st hg;subst L M O;obtain⟨Y,Z,f2,f3,f4,f5⟩:=J it (by simp);exact Se (I.ok.hd S) st (by have:n<=i:=hg;lia) fun h' eb=>⟨rfl,I.turned (t':=s.toks) (fun b o hb e=>eb b o hb e) Y Z f3 f4 f5⟩
 self:=fun _ _ _ _ _ st h=>Sf st h
end L2
namespace L2
open PySem PySem.Spec PyProof.Rows
section
variable{X:Cx}{tg:OH}
def AA(K:PySem.W.Frag)(tl:TE):TI:=fun σ H R=>tl σ H fun x H1=>∃a,x=.ref a/\(∃xs,aI K H1 a xs)/\R (uw K a) H1
theorem dj{l:OH}{tl:TE}(hl:PE X l tl):PI X tg l (AA X.K tl):=by
 intro pins s σ H R I h;refine dQ (hl pins s σ H _ I h) fun v z ⟨x,H1,F,J,L⟩=>?_;obtain⟨a,e,⟨xs,M⟩,q⟩:=L;subst e;cases J;obtain⟨its,O,p,S⟩:=F.list M;refine RX p.isList ?_;refine⟨z.heap.objs.size,[z.heap.objs.size],_,_,H1,rfl,F.kept (t':=z.toks) fun b o e=>Heap.get?_push_of_some _ e,Bw a _,⟨_,Heap.get?_push_size _ rfl,rfl,rfl⟩,fun b hb=>?_,q⟩;have e:b=z.heap.objs.size:=by simpa using hb
 subst e;exact F.fpOk (NX _) (F.hok.fresh (NX _))
theorem xC{pins:List (Addr×Obj)}{σ:St}{H:Hp}{s:NY}{R:It->Hp->Prop}{E:NU->NY->Prop}{lo hi:Int}{t u v:Ve}{tk:Nat}(I:Inv X pins σ H s)(h1:-(2 ^ 62)<=lo)(h2:lo<2 ^ 62)(F:-(2 ^ 62)<=hi)(J:hi<2 ^ 62)(q:R (qR lo (hi-lo).toNat) H):wpAny (model X.prog X.w) X.A (VE (.ref s.heap.objs.size)) (JO X pins σ tg R) E {s with heap:=s.heap.push {cls:=.type "range",data:=.fields #[.int lo t,.int hi u,.int 1 v]},toks:=tk}:=by
 refine Tl (IsRange.new ..) (small_one h1 h2 F J) ?_;have z:Inv X pins σ H {s with heap:=s.heap.push {cls:=.type "range",data:=.fields #[.int lo t,.int hi u,.int 1 v]},toks:=tk}:=I.kept fun b o e=>Heap.get?_push_of_some _ e
 refine⟨(s.heap.push {cls:=.type "range",data:=.fields #[.int lo t,.int hi u,.int 1 v]}).objs.size,[(s.heap.push {cls:=.type "range",data:=.fields #[.int lo t,.int hi u,.int 1 v]}).objs.size],_,_,H,rfl,
  z.kept (t':=tk) fun b o e=>Heap.get?_push_of_some _ e,zg _ lo (hi-lo).toNat,?_,fun b hb=>?_,q⟩
 ·have L:lo+((0:Nat):Int)*1=lo:=by simp
  have M:(((hi-lo).toNat:Nat):Int)-((0:Nat):Int)=Ox.Range.rangeSize lo hi 1:=by rw[U5];split<;>lia
  show SB _ _ (lo+((0:Nat):Int)*1) ((((hi-lo).toNat:Nat):Int)-((0:Nat):Int)) 1;rw[L,M];exact Heap.get?_push_size _ rfl
 ·have e:b=(s.heap.push {cls:=.type "range",data:=.fields #[.int lo t,.int hi u,.int 1 v]}).objs.size:=by simpa using hb
  subst e;exact z.fpOk (NX _) (z.hok.fresh (NX _))
def Da(ta:TA):TI:=fun σ H R=>ta σ H fun vs H1=>∃j:Int,vs=[.int j]/\-(2 ^ 62)<=j/\j<2 ^ 62/\R (qR 0 j.toNat) H1
def xD(ta:TA):TI:=fun σ H R=>ta σ H fun vs H1=>∃i j:Int,vs=[.int i,.int j]/\(-(2 ^ 62)<=i/\i<2 ^ 62/\-(2 ^ 62)<=j/\j<2 ^ 62)/\R (qR i (j-i).toNat) H1
theorem o_{a:OH}{ta:TA}{p pos:Q2}(hg:Gl X "range")(F:X.mg "range"=none)(ha:PA X [a] ta)(hs:starEach [a] X.env=[(false,eval a X.env)]:=by rfl):PI X tg (.Call (.Name "range" p) [a] [] pos) (Da ta):=by
 intro pins s σ H R I h;refine UC (jm I hg F Sg (PyProof.Rows.callWith_type1 (dQ (ha pos pins s σ H _ I h) fun us S ⟨vs,H1,J,L,z⟩=>?_) hs rfl));obtain⟨j,e,z,M,q⟩:=z;subst e;cases L with
 |cons r O=>
  cases O;obtain⟨t,rfl⟩:=r;exact call_range_1 (xC J (by lia) (by lia) z M (by simpa using q))
theorem pb{a b:OH}{ta:TA}{p pos:Q2}(hg:Gl X "range")(L:X.mg "range"=none)(ha:PA X [a,b] ta)(hs:starEach [a,b] X.env=[(false,eval a X.env),(false,eval b X.env)]:=by rfl)(z:starEach [b] X.env=[(false,eval b X.env)]:=by rfl):
  PI X tg (.Call (.Name "range" p) [a,b] [] pos) (xD ta):=by
 intro pins s σ H R I h;refine UC (jm I hg L Sg (PyProof.Rows.callWith_type1 (dQ (ha pos pins s σ H _ I h) fun us s1 ⟨vs,H1,M,O,F⟩=>?_) (by rw[hs,z]) (by rw[z];rfl)));obtain⟨i,j,e,⟨F,S,Y,Z⟩,q⟩:=F;subst e;cases O with
 |cons r J=>
  cases J with
  |cons r' J=>
   cases J;obtain⟨t,rfl⟩:=r;obtain⟨t',rfl⟩:=r';exact call_range_2 (xC M F S Y Z q)
def Bx(F:TI)(g:TG)(tb:TS):TS:=fun D σ H=>F σ H fun J H1=>∃W:Nat->Nat->St->Hp->Prop,(∃m,W 0 m σ H1)/\∀i m σ H,W i m σ H->
 (J.stop i H/\D.nx σ H)\/(J.go i H/\∃N:St->Hp->Prop,(∀σ' H',N σ' H'->∃z,z<m/\W (i+1) z σ' H')/\∀x H',J.yld i H x H'->g x σ H' fun I H2=>tb {D with nx:=N,ct:=N,bk:=D.nx} I H2)
def sr(z:List Addr)(h:Heap):List (Addr×Obj):=z.filterMap fun b=>(h.get? b).map fun o=>(b,o)
theorem nb{z:List Addr}{h:Heap}{b:Addr}{o:Obj}(hb:b∈z)(e:h.get? b=some o):(b,o)∈sr z h:=Rq.mpr ⟨b,hb,by rw[e];rfl⟩
theorem By{z:List Addr}{h:Heap}{p:Addr×Obj}(F:p∈sr z h):p.1∈z/\h.get? p.1=some p.2:=by
 obtain⟨b,hb,e⟩:=Rq.mp F;cases q:h.get? b with
 |none=>rw[q] at e;cases e
 |some o=>
  rw[q] at e;have e':(b,o)=p:=N6.inj e;subst e';exact⟨hb,q⟩
theorem Inv.pinned{pins:List (Addr×Obj)}{σ:St}{H:Hp}{s:NY}{F:List Addr}(I:Inv X pins σ H s)(J:∀b∈F,qQ X pins H b)(L:∀b∈F,∃o,s.heap.get? b=some o/\∀v,o.data≠.cell v):Inv X (pins++sr F s.heap) σ H s:=
 I.pins_of fun p M=>(OK.mp M).elim (fun z=>I.pin p (Py _ z)) fun z=>by
  obtain⟨hb,e⟩:=By z;obtain⟨O,S,Y,_⟩:=J p.1 hb;obtain⟨o,e',d⟩:=L p.1 hb;rw[e] at e';cases e';exact⟨e,O,S,Y,d⟩
theorem Inv.unpinned{pins pl:List (Addr×Obj)}{σ:St}{H:Hp}{s:NY}(I:Inv X (pins++pl) σ H s):Inv X pins σ H s:=I.pins_of fun p z=>I.pin p (Py _ (Uv _ z))
theorem fW{iter:OH}{O:List OE}{wi:TI}{g:TG}{tb:TS}{pos:Q2}(Z:OU (model X.prog X.w) X.A X.env X.xe)(hc:X.calm=true)(hi:PI X tg iter wi)(hg:PG X tg g)(hb:Ay X O tb)(hs:∀x,Q_ iter X.env x=pure x:=by intro _;rfl):PS X (.For tg iter O [] pos) (Bx wi g tb):=by
 intro pins s σ H D I h;refine wpAny_For (dQ (hi pins s σ H _ I h) fun v s1 h1=>dQ h1 fun b1 s2 h2=>?_) hs;obtain⟨it,fp,tn,J,H2,e,I2,T,as,f2,W,⟨m0,w0⟩,al⟩:=h2;subst e;have z:∀{H':Hp},(∀b∈fp,H' b=none)->∀b∈fp,qQ X pins H' b:=fun hn b hb=>⟨hn b hb,(f2 b hb).2⟩;refine codeAny_forLoop_any (fun n s'=>∃i σ' H',Inv X pins σ' H' s'/\tn i s'.heap/\(∀b∈fp,H' b=none)/\W i n σ' H') ?_ m0 ⟨0,σ,H2,I2,as,fun b hb=>(f2 b hb).1,w0⟩;rintro n s3 ⟨i,σ3,H3,I3,an,ar,w3⟩;rcases al i n σ3 H3 w3 with⟨stop,qn⟩|⟨go,N,hN,step⟩
 ·refine wpAny_passesOwn Z (dQ (T.done X rfl rfl rfl hc i pins s3 σ3 H3 X.xe I3 (z ar) an stop) fun r s4 ⟨hr,I4⟩=>?_);subst hr;exact wpAny_execs_nil ⟨σ3,H3,I4,qn⟩
 ·refine wpAny_passesOwn Z (dQ (T.item X rfl rfl rfl hc i pins s3 σ3 H3 X.xe I3 (z ar) an go) fun r s4 ⟨u,hr,h4⟩=>?_);subst hr;refine wpAny_passesOwn Z (dQ h4 fun _ s5 ⟨x,H5,I5,r5,y5,Y,av⟩=>?_);have I5':=I5.pinned (z av) (T.obj _ _ Y);refine wpAny_passesOwn Z (dQ (hg _ s5 σ3 H5 x u _ I5' r5 (step x H5 y5)) fun _ s6 ⟨σ6,H6,I6,q6⟩=>?_);refine wpAny_passesOwn Z (dQ (hb _ s6 σ6 H6 _ I6 q6) fun f s7 S=>?_)
  have again:∀{F:St}{L:Hp},Inv X (pins++sr fp s5.heap) F L s7->N F L->∃m,m<n/\∃i σ' H',Inv X pins σ' H' s7/\tn i s7.heap/\(∀b∈fp,H' b=none)/\W i m σ' H':=fun{F L} M n7=>by
   obtain⟨m',hm,w7⟩:=hN F L n7;refine⟨m',hm,i+1,F,L,M.unpinned,T.keep _ _ _ Y fun b hb o e=>(M.pin (b,o) (Py _ (Py _ (nb hb e)))).1,fun b hb=>?_,w7⟩;obtain⟨o,e,d⟩:=T.obj _ _ Y b hb;exact(M.pin (b,o) (Py _ (Py _ (nb hb e)))).2.1
  cases f with
  |next=>obtain⟨F,L,M,n7⟩:=S;exact again M n7
  |cont=>obtain⟨F,L,M,n7⟩:=S;exact again M n7
  |brk=>obtain⟨F,L,M,S⟩:=S;exact⟨F,L,M.unpinned,S⟩
  |ret v=>obtain⟨x7,F,L,M,r7,S⟩:=S;exact⟨x7,F,L,M.unpinned,r7,S⟩
end
theorem Db{K:PySem.W.Frag}{a:Addr}{xs:List V}{g:TG}{tb:TS}{D:kM}{σ:St}{H:Hp}(z:Nat->St->Hp->Prop)(L:z 0 σ H)(hl:∀i σ H,i<=xs.length->z i σ H->aI K H a xs)(hs:∀i x σ H,xs[i]?=some x->z i σ H->g x σ H fun I H2=>tb {D with nx:=z (i+1),ct:=z (i+1),bk:=D.nx} I H2)(hd:∀σ H,z xs.length σ H->D.nx σ H):
  ∃W:Nat->Nat->St->Hp->Prop,(∃m,W 0 m σ H)/\∀i m σ H,W i m σ H->
   ((uw K a).stop i H/\D.nx σ H)\/((uw K a).go i H/\∃N:St->Hp->Prop,(∀σ' H',N σ' H'->∃J,J<m/\W (i+1) J σ' H')/\∀x H',(uw K a).yld i H x H'->g x σ H' fun I H2=>tb {D with nx:=N,ct:=N,bk:=D.nx} I H2):=by
 refine⟨fun i m σ H=>m=xs.length-i/\i<=xs.length/\z i σ H,⟨xs.length,by simp,OA _,L⟩,?_⟩;rintro i m σ H ⟨rfl,hi,p⟩;have q:=hl i σ H hi p;by_cases F:i<xs.length
 ·refine .inr ⟨⟨xs,xs[i],q,by simp[F]⟩,z (i+1),fun σ' H' M=>⟨xs.length-(i+1),by lia,rfl,F,M⟩,fun x H' y=>?_⟩;obtain⟨e,y⟩:=y;subst e;exact hs i x σ _ (y xs q) p
 ·have e:i=xs.length:=by lia
  subst e;exact .inl ⟨⟨xs,q,NX _⟩,hd σ H p⟩
theorem lV{lo:Int}{n:Nat}{g:TG}{tb:TS}{D:kM}{σ:St}{H:Hp}(z:Nat->St->Hp->Prop)(L:z 0 σ H)(hs:∀i σ H,i<n->z i σ H->g (.int (lo+i)) σ H fun I H2=>tb {D with nx:=z (i+1),ct:=z (i+1),bk:=D.nx} I H2)(hd:∀σ H,z n σ H->D.nx σ H):
  ∃W:Nat->Nat->St->Hp->Prop,(∃m,W 0 m σ H)/\∀i m σ H,W i m σ H->
   ((qR lo n).stop i H/\D.nx σ H)\/((qR lo n).go i H/\∃N:St->Hp->Prop,(∀σ' H',N σ' H'->∃J,J<m/\W (i+1) J σ' H')/\∀x H',(qR lo n).yld i H x H'->g x σ H' fun I H2=>tb {D with nx:=N,ct:=N,bk:=D.nx} I H2):=by
 refine⟨fun i m σ H=>m=n-i/\i<=n/\z i σ H,⟨n,by simp,OA _,L⟩,?_⟩;rintro i m σ H ⟨rfl,hi,p⟩;by_cases F:i<n
 ·refine .inr ⟨F,z (i+1),fun σ' H' M=>⟨n-(i+1),by lia,rfl,F,M⟩,fun x H' y=>?_⟩;obtain⟨e,y⟩:=y;subst e y;exact hs i σ _ F p
 ·have e:i=n:=by lia
  subst e;exact .inl ⟨NX _,hd σ H p⟩
end L2
namespace L2
open PySem PySem.Spec PyProof.Rows
abbrev R2:=V->V->Hp->VK->Prop
def ng(X:Cx)(f:NU->NU->VD NU)(r:R2):Prop:=
 ∀(pins:List (Addr×Obj))(s:NY)(σ:St)(H:Hp)(x y:V)(v u:NU)(Q:VK),Inv X pins σ H s->O6 x v->O6 y u->r x y H Q->
  wpAny (model X.prog X.w) X.A (f v u) (EP X pins σ Q) X.xe s
def JP(X:Cx)(f:NU->VD NU)(r:V->Hp->VK->Prop):Prop:=
 ∀(pins:List (Addr×Obj))(s:NY)(σ:St)(H:Hp)(x:V)(v:NU)(Q:VK),Inv X pins σ H s->O6 x v->r x H Q->
  wpAny (model X.prog X.w) X.A (f v) (EP X pins σ Q) X.xe s
def g8(X:Cx)(f:NU)(r:List V->Hp->VK->Prop):Prop:=
 ∀(pins:List (Addr×Obj))(s:NY)(σ:St)(H:Hp)(xs:List V)(us:List NU)(Q:VK),Inv X pins σ H s->bT xs us->r xs H Q->
  wpAny (model X.prog X.w) X.A (call f us) (EP X pins σ Q) X.xe s
def y_(r:R2)(ta tb:TE):TE:=fun σ H Q=>ta σ H fun x H1=>tb σ H1 fun y H2=>r x y H2 Q
def IJ(r:V->Hp->VK->Prop)(ta:TE):TE:=fun σ H Q=>ta σ H fun x H1=>r x H1 Q
def rI(C:Int->Int->Prop)(g:Int->Int->V):R2:=fun x y H Q=>∃i j,x=.int i/\y=.int j/\C i j/\Q (g i j) H
def ss(g:Int->Int->V):R2:=fun x y H Q=>∃i j,x=.int i/\y=.int j/\Q (g i j) H
def rU(g:Int->V):V->Hp->VK->Prop:=fun x H Q=>∃i,x=.int i/\Q (g i) H
section
variable{X:Cx}{a b c:OH}{ta tb tc:TE}{pos:Q2}
theorem GL(ha:PE X a ta)(hb:PE X b tb){pins:List (Addr×Obj)}{s:NY}{σ:St}{H:Hp}{R:V->V->Hp->Prop}(I:Inv X pins σ H s)(h:ta σ H fun x H1=>tb σ H1 fun y H2=>R x y H2){Q:NU->NY->Prop}{f:NU->NU->VD NU}(F:∀v u z x y H2,Inv X pins σ H2 z->O6 x v->O6 y u->R x y H2->wpAny (model X.prog X.w) X.A (f v u) Q X.xe z):
  wpAny (model X.prog X.w) X.A (eval a X.env) (fun v J=>wpAny (model X.prog X.w) X.A (eval b X.env) (fun u L=>wpAny (model X.prog X.w) X.A (f v u) Q X.xe L) X.xe J) X.xe s:=by
 refine dQ (ha pins s σ H _ I h) fun v M ⟨x,H1,O,S,Y⟩=>?_;refine dQ (hb pins M σ H1 _ O Y) fun u z ⟨y,H2,Z,r2,q2⟩=>?_;exact F v u z x y H2 Z S r2 q2
theorem aD{z:Tw}{r:R2}(F:ng X (RK z) r)(ha:PE X a ta)(hb:PE X b tb):PE X (.BinOp a z b pos) (y_ r ta tb):=by
 intro pins s σ H Q I h;exact wpAny_BinOp (GL ha hb I h fun v u J x y H2 L M O q=>F pins J σ H2 x y v u Q L M O q)
theorem kj{z:UnaryOp}{r:V->Hp->VK->Prop}(F:JP X (unaryOp z) r)(ha:PE X a ta):PE X (.UnaryOp z a pos) (IJ r ta):=by
 intro pins s σ H Q I h;exact UnaryOp_ (dQ (ha pins s σ H _ I h) fun v J ⟨x,H1,L,M,O⟩=>F pins J σ H1 x v Q L M O)
theorem JQ{f:NU->NU->VD NU}{C:Int->Int->Prop}{g:Int->Int->Int}(rule:∀(i j:Int)(t u:Ve)(s:NY)(Q:NU->NY->Prop)(E:NU->NY->Prop),C i j->Q (.int (g i j) s.toks) {s with toks:=s.toks+1}->wpAny (model X.prog X.w) X.A (f (.int i t) (.int j u)) Q E s):
  ng X f (rI C fun i j=>.int (g i j)):=by
 intro pins s σ H x y v u Q I z F h;obtain⟨i,j,rfl,rfl,J,q⟩:=h;obtain⟨t,rfl⟩:=z;obtain⟨t',rfl⟩:=F;exact rule i j t t' s _ _ J ⟨.int (g i j),H,I.tok _,⟨_,rfl⟩,q⟩
theorem IK{f:NU->NU->VD NU}{g:Int->Int->Int}(rule:∀(i j:Int)(t u:Ve)(s:NY)(Q:NU->NY->Prop)(E:NU->NY->Prop),Q (.int (g i j) s.toks) {s with toks:=s.toks+1}->wpAny (model X.prog X.w) X.A (f (.int i t) (.int j u)) Q E s):
  ng X f (ss fun i j=>.int (g i j)):=by
 intro pins s σ H x y v u Q I z F h;obtain⟨i,j,rfl,rfl,q⟩:=h;obtain⟨t,rfl⟩:=z;obtain⟨t',rfl⟩:=F;exact rule i j t t' s _ _ ⟨.int (g i j),H,I.tok _,⟨_,rfl⟩,q⟩
theorem EL{f:NU->NU->VD NU}{g:Int->Int->Bool}(rule:∀(i j:Int)(t u:Ve)(s:NY)(Q:NU->NY->Prop)(E:NU->NY->Prop),Q (.bool (g i j)) s->wpAny (model X.prog X.w) X.A (f (.int i t) (.int j u)) Q E s):
  ng X f (ss fun i j=>.bl (g i j)):=by
 intro pins s σ H x y v u Q I z F h;obtain⟨i,j,rfl,rfl,q⟩:=h;obtain⟨t,rfl⟩:=z;obtain⟨t',rfl⟩:=F;exact rule i j t t' s _ _ ⟨.bl (g i j),H,I,rfl,q⟩
def EM(i j:Int):Prop:=0<j/\j<1073741824
def xE(i j:Int):Prop:=(-(2 ^ 64)<i/\i<2 ^ 64)\/(-(2 ^ 64)<j/\j<2 ^ 64)
theorem xE.ok{i j:Int}(h:xE i j):IntMulOk i j:=by
 rcases h with⟨h1,h2⟩|⟨h1,h2⟩
 ·exact .of_left (U6 h1 h2)
 ·exact .of_right (U6 h1 h2)
theorem b0:ng X (RK .Add) (ss fun i j=>.int (i+j)):=IK fun _ _ _ _ _ _ _ q=>add_int q
theorem bO:ng X (RK .Sub) (ss fun i j=>.int (i-j)):=IK fun _ _ _ _ _ _ _ q=>sub_int q
theorem kO:ng X (RK .Mult) (rI xE fun i j=>.int (i*j)):=JQ fun _ _ _ _ _ _ _ z q=>mul_int q z.ok
theorem jN:ng X (RK .FloorDiv) (rI EM fun i j=>.int (i/j)):=JQ fun i j _ _ _ _ _ z q=>by
 have h1:(0:Int)<j:=z.1;have h2:j<1073741824:=z.2;exact floordiv_int (by lia) (by rw[Int.fdiv_eq_ediv_of_nonneg i (by lia)];exact q) (.inl (PyProof.noPylong_small (by lia)))
theorem zh:ng X (RK .Mod) (rI (fun _ j=>0<j) fun i j=>.int (i%j)):=JQ fun i j _ _ _ _ _ z q=>by
 have h1:(0:Int)<j:=z;exact mod_int' (by lia) (by rw[Int.fmod_eq_emod_of_nonneg i (by lia)];exact q)
theorem Ko{f:NU->VD NU}{g:Int->Int}(rule:∀(i:Int)(t:Ve)(s:NY)(Q:NU->NY->Prop)(E:NU->NY->Prop),Q (.int (g i) s.toks) {s with toks:=s.toks+1}->wpAny (model X.prog X.w) X.A (f (.int i t)) Q E s):
  JP X f (rU fun i=>.int (g i)):=by
 intro pins s σ H x v Q I z h;obtain⟨i,rfl,q⟩:=h;obtain⟨t,rfl⟩:=z;exact rule i t s _ _ ⟨.int (g i),H,I.tok _,⟨_,rfl⟩,q⟩
theorem gU:JP X (unaryOp .USub) (rU fun i=>.int (-i)):=Ko fun _ _ _ _ _ q=>neg_int q
end
def Dc:V->V->Bool
 |.non,.non=>true|.non,.int _=>true|.int _,.non=>true|.non,.bl _=>true|.bl _,.non=>true|.non,.str _=>true|.str _,.non=>true
 |.int _,.int _=>true|.bl _,.bl _=>true|.str _,.str _=>true|.byt _,.byt _=>true
 |.int _,.str _=>true|.str _,.int _=>true|.bl _,.str _=>true|.str _,.bl _=>true
 |_,_=>false
def EG:R2:=fun x y H Q=>Dc x y=true/\Q (.bl (decide (x=y))) H
def GM:R2:=fun x y H Q=>Dc x y=true/\Q (.bl (!decide (x=y))) H
theorem AB{i j:Int}:decide (V.int i=V.int j)=(i==j):=by
 rw[QU];simp
theorem Dd{i j:Bool}:decide (V.bl i=V.bl j)=(i==j):=by
 rw[QU];simp
theorem AC{i j:N_}:decide (V.str i=V.str j)=(i==j):=by
 rw[QU];simp
theorem AD{i j:Array UInt8}:decide (V.byt i=V.byt j)=(i.toList==j.toList):=by
 rw[QU];cases i;cases j;simp
section
variable{X:Cx}{a b c:OH}{ta tb tc:TE}{pos:Q2}
theorem dm{pins:List (Addr×Obj)}{σ:St}{H:Hp}{s:NY}{Q:VK}{k z:Bool}(I:Inv X pins σ H s)(q:Q (.bl k) H)(e:k=z):EP X pins σ Q (.bool z) s:=by
 subst e;exact⟨.bl k,H,I,rfl,q⟩
theorem fB:ng X (O2 .Eq) EG:=by
 intro pins s σ H x y v u Q I F z h;obtain⟨hs,q⟩:=h;cases x with
 |non=>
  cases F;cases y with
  |non=>cases z;exact PySem.EqNone.eq_none_none (dm I q (by simp))
  |bl j=>cases z;exact PySem.EqNone.eq_none_bool (dm I q (by simp))
  |int j=>obtain⟨t',rfl⟩:=z;exact PySem.EqNone.eq_none_int (dm I q (by simp))
  |str j=>obtain⟨t',rfl⟩:=z;exact PySem.EqNone.eq_none_str (dm I q (by simp))
  |_=>exact absurd (show false=true from hs) N2
 |bl i=>
  cases F;cases y with
  |non=>cases z;exact PySem.EqNone.eq_bool_none (dm I q (by simp))
  |bl j=>cases z;exact eq_bool (dm I q Dd)
  |str j=>obtain⟨t',rfl⟩:=z;exact PySem.EqMixed.eq_bool_str (dm I q (by simp))
  |_=>exact absurd (show false=true from hs) N2
 |int i=>
  obtain⟨t,rfl⟩:=F;cases y with
  |non=>cases z;exact PySem.EqNone.eq_int_none (dm I q (by simp))
  |int j=>obtain⟨t',rfl⟩:=z;exact eq_int (dm I q AB)
  |str j=>obtain⟨t',rfl⟩:=z;exact PySem.EqMixed.eq_int_str (dm I q (by simp))
  |_=>exact absurd (show false=true from hs) N2
 |str i=>
  obtain⟨t,rfl⟩:=F;cases y with
  |non=>cases z;exact PySem.EqNone.eq_str_none (dm I q (by simp))
  |bl j=>cases z;exact PySem.EqMixed.eq_str_bool (dm I q (by simp))
  |int j=>obtain⟨t',rfl⟩:=z;exact PySem.EqMixed.eq_str_int (dm I q (by simp))
  |str j=>obtain⟨t',rfl⟩:=z;exact eq_str (dm I q AC)
  |_=>exact absurd (show false=true from hs) N2
 |byt i=>
  obtain⟨t,rfl⟩:=F;cases y with
  |byt j=>obtain⟨t',rfl⟩:=z;exact PySem.W.eq_bytes (dm I q AD)
  |_=>exact absurd (show false=true from hs) N2
 |_=>cases y<;>exact absurd (show false=true from hs) N2
theorem qi:ng X (O2 .NotEq) GM:=by
 intro pins s σ H x y v u Q I F z h;obtain⟨hs,q⟩:=h;cases x with
 |non=>
  cases F;cases y with
  |non=>cases z;exact PySem.EqNone.ne_none_none (dm I q (by simp))
  |bl j=>cases z;exact PySem.EqNone.ne_none_bool (dm I q (by simp))
  |int j=>obtain⟨t',rfl⟩:=z;exact PySem.EqNone.ne_none_int (dm I q (by simp))
  |str j=>obtain⟨t',rfl⟩:=z;exact PySem.EqNone.ne_none_str (dm I q (by simp))
  |_=>exact absurd (show false=true from hs) N2
 |bl i=>
  cases F;cases y with
  |non=>cases z;exact PySem.EqNone.ne_bool_none (dm I q (by simp))
  |bl j=>cases z;exact ne_bool (dm I q (congrArg not Dd))
  |str j=>obtain⟨t',rfl⟩:=z;exact PySem.EqMixed.ne_bool_str (dm I q (by simp))
  |_=>exact absurd (show false=true from hs) N2
 |int i=>
  obtain⟨t,rfl⟩:=F;cases y with
  |non=>cases z;exact PySem.EqNone.ne_int_none (dm I q (by simp))
  |int j=>obtain⟨t',rfl⟩:=z;exact ne_int (dm I q (congrArg not AB))
  |str j=>obtain⟨t',rfl⟩:=z;exact PySem.EqMixed.ne_int_str (dm I q (by simp))
  |_=>exact absurd (show false=true from hs) N2
 |str i=>
  obtain⟨t,rfl⟩:=F;cases y with
  |non=>cases z;exact PySem.EqNone.ne_str_none (dm I q (by simp))
  |bl j=>cases z;exact PySem.EqMixed.ne_str_bool (dm I q (by simp))
  |int j=>obtain⟨t',rfl⟩:=z;exact PySem.EqMixed.ne_str_int (dm I q (by simp))
  |str j=>obtain⟨t',rfl⟩:=z;exact ne_str (dm I q (congrArg not AC))
  |_=>exact absurd (show false=true from hs) N2
 |byt i=>
  obtain⟨t,rfl⟩:=F;cases y with
  |byt j=>obtain⟨t',rfl⟩:=z;exact PySem.W.ne_bytes (dm I q (congrArg not AD))
  |_=>exact absurd (show false=true from hs) N2
 |_=>cases y<;>exact absurd (show false=true from hs) N2
theorem iX:ng X (O2 .Lt) (ss fun i j=>.bl (decide (i<j))):=EL fun _ _ _ _ _ _ _ q=>lt_int q
theorem fi:ng X (O2 .LtE) (ss fun i j=>.bl (decide (i<=j))):=EL fun _ _ _ _ _ _ _ q=>le_int q
theorem gP:ng X (O2 .Gt) (ss fun i j=>.bl (decide (j<i))):=EL fun _ _ _ _ _ _ _ q=>gt_int q
theorem F7:ng X (O2 .GtE) (ss fun i j=>.bl (decide (j<=i))):=EL fun _ _ _ _ _ _ _ q=>ge_int q
theorem ph:ng X (O2 .Is) (fun x y H Q=>y=.non/\Q (.bl (decide (x=.non))) H):=by
 intro pins s σ H x y v u Q I z F h;obtain⟨rfl,q⟩:=h;cases F;refine is_none_gen (dm I q ?_)
 cases x<;>first
  |(cases z;rfl)
  |(obtain⟨t,rfl⟩:=z;rfl)
theorem nP:ng X (O2 .IsNot) (fun x y H Q=>y=.non/\Q (.bl (!decide (x=.non))) H):=by
 intro pins s σ H x y v u Q I z F h;obtain⟨rfl,q⟩:=h;cases F;refine isnot_none_gen (dm I q ?_)
 cases x<;>first
  |(cases z;rfl)
  |(obtain⟨t,rfl⟩:=z;rfl)
theorem iC(b:OH){z:R7}(h:z≠.In:=by decide)(h2:z≠.NotIn:=by decide):PX z b=false:=by
 have F:(z==R7.In)=false:=by cases z<;>first|rfl|exact absurd rfl h
 have I:(z==R7.NotIn)=false:=by cases z<;>first|rfl|exact absurd rfl h2
 cases b<;>simp[PX,F,I]
theorem nQ{z:R7}{r:R2}(F:ng X (O2 z) r)(ha:PE X a ta)(hb:PE X b tb)(J:PX z b=false):PE X (.Compare a [z] [b] pos) (y_ r ta tb):=by
 intro pins s σ H Q I h;exact wpAny_Compare1 (GL ha hb I h fun v u L x y H2 M O S q=>F pins L σ H2 x y v u Q M O S q) J
def su(t:TE):TT:=fun σ H Q=>t σ H fun x H'=>∃k,x=.bl k/\Q k H'
theorem hG{F:R7}{r:R2}(J:ng X (O2 F) r)(ha:PE X a ta)(hb:PE X b tb)(L:PX F b=false):PT X (.Compare a [F] [b] pos) (su (y_ r ta tb)):=by
 intro pins s σ H Q I h
 refine wpAny_isTrue_Compare1 (dQ (ha pins s σ H _ I h) fun v M ⟨x,H1,O,S,Y⟩=>dQ (hb pins M σ H1 _ O Y) fun u Z ⟨y,H2,I2,r2,q2⟩=>
  dQ (J pins Z σ H2 x y v u _ I2 S r2 q2) fun c s3 ⟨z,H3,I3,r3,k,e,q3⟩=>?_) L
 subst e;cases r3;exact O3 ⟨H3,I3,q3⟩
def pi(r r':R2)(ta tb tc:TE):TE:=fun σ H Q=>ta σ H fun x H1=>tb σ H1 fun y H2=>r x y H2 fun z F=>∃k,z=.bl k/\
 (if k=true then tc σ F fun I J=>r' y I J Q else Q (.bl false) F)
theorem kP{J F:R7}{r r':R2}(Z:ng X (O2 J) r)(L:ng X (O2 F) r')(ha:PE X a ta)(hb:PE X b tb)(hc:PE X c tc)(hm:lastMarks [J,F] [b,c]=false:=by with_unfolding_all rfl):PE X (.Compare a [J,F] [b,c] pos) (pi r r' ta tb tc):=by
 intro pins s σ H Q I h
 refine Compare_chain (dQ (ha pins s σ H _ I h) fun v s1 ⟨x,H1,I1,r1,q1⟩=>chain_link (dQ (hb pins s1 σ H1 _ I1 q1) fun u s2 ⟨y,H2,I2,M,q2⟩=>
  dQ (Z pins s2 σ H2 x y v u _ I2 r1 M q2) fun d s3 ⟨z,O,S,r3,k,e,Y⟩=>?_)) hm
 subst e;cases r3;refine O3 ?_;cases k with
 |false=>exact ite_ff ⟨.bl false,O,S,rfl,Y⟩
 |true=>exact ite_tt (chain_last (dQ (hc pins s3 σ O _ S Y) fun w' s4 ⟨z',H4,I4,r4,q4⟩=>L pins s4 σ H4 y z' u w' Q I4 M r4 q4))
theorem kQ{J F:R7}{r r':R2}(Z:ng X (O2 J) r)(L:ng X (O2 F) r')(ha:PE X a ta)(hb:PE X b tb)(hc:PE X c tc)(hm:lastMarks [J,F] [b,c]=false:=by with_unfolding_all rfl):PT X (.Compare a [J,F] [b,c] pos) (su (pi r r' ta tb tc)):=by
 intro pins s σ H Q I h
 refine isTrue_chain (dQ (ha pins s σ H _ I h) fun v s1 ⟨x,H1,I1,r1,q1⟩=>test_link (dQ (hb pins s1 σ H1 _ I1 q1) fun u s2 ⟨y,H2,I2,M,q2⟩=>
  dQ (Z pins s2 σ H2 x y v u _ I2 r1 M q2) fun d s3 ⟨z,O,S,r3,k,e,Y⟩=>?_)) hm
 subst e;cases r3;refine O3 ?_;cases k with
 |false=>
  obtain⟨k',e',q'⟩:=Y;cases e';exact ite_ff ⟨O,S,q'⟩
 |true=>
  refine ite_tt (test_last (dQ (hc pins s3 σ O _ S Y) fun w' s4 ⟨z',H4,I4,r4,q4⟩=>dQ (L pins s4 σ H4 y z' u w' _ I4 M r4 q4) fun d' s5 ⟨z2,H5,I5,r5,k2,e2,q5⟩=>?_));subst e2;cases r5;exact O3 ⟨H5,I5,q5⟩
theorem pq:(sizeLine:Nat)<2 ^ 63:=by rw[Ul];decide
theorem Vv{x:V}{us:List NU}(r:bT [x] us):∃u,us=[u]/\O6 x u:=by
 cases r with
 |cons z F=>cases F;exact⟨_,rfl,z⟩
theorem vals2{x y:V}{us:List NU}(r:bT [x,y] us):∃u z,us=[u,z]/\O6 x u/\O6 y z:=by
 cases r with
 |cons F I=>
  cases I with
  |cons J L=>cases L;exact⟨_,_,rfl,F,J⟩
theorem lW(F:X.calm=true):g8 X (.builtin "max") (fun xs H Q=>∃i j,xs=[.int i,.int j]/\Q (.int (if j>i then j else i)) H):=by
 intro pins s σ H xs us Q I r h;obtain⟨i,j,rfl,q⟩:=h;obtain⟨u,J,rfl,⟨t,rfl⟩,⟨t',rfl⟩⟩:=vals2 r;refine max_two_ints (I.ok.hd F) fun h' tk k=>⟨_,H,I.kept k,?_,q⟩;by_cases z:j>i
 ·rw[if_pos z,if_pos z];exact⟨_,rfl⟩
 ·rw[if_neg z,if_neg z];exact⟨_,rfl⟩
theorem fU(F:X.calm=true):g8 X (.builtin "min") (fun xs H Q=>∃i j,xs=[.int i,.int j]/\Q (.int (if j<i then j else i)) H):=by
 intro pins s σ H xs us Q I r h;obtain⟨i,j,rfl,q⟩:=h;obtain⟨u,J,rfl,⟨t,rfl⟩,⟨t',rfl⟩⟩:=vals2 r;refine min_two_ints (I.ok.hd F) fun h' tk k=>⟨_,H,I.kept k,?_,q⟩;by_cases z:j<i
 ·rw[if_pos z,if_pos z];exact⟨_,rfl⟩
 ·rw[if_neg z,if_neg z];exact⟨_,rfl⟩
end
end L2
namespace L2
open PySem PySem.Spec PyProof.Rows
structure zi (h:Heap) (x dx C:Addr) (mA:N_->Option NU):Prop where
 obj:h.get? x=some (PySem.W.instObj C dx)
 ns:h.Ns1 dx mA
 ne:dx≠x
theorem Bz{h:Heap}{dx:Addr}{mA:N_->Option NU}(n:h.Ns1 dx mA):∃I,h.get? dx=some I/\∀name,PySem.W.lookIn name I=some (mA name):=by
 obtain⟨o,es,ep,J,hd,L,_,M⟩:=n;refine⟨o,J,fun name=>?_⟩;have e:=M name;unfold nsFind findBy at e;rw[<-Array.find?_toList] at e;unfold PySem.W.lookIn;rw[hd];dsimp only;split
 ·rename_i y q;rw[q] at e;exact congrArg some e
 ·rename_i q;rw[q] at e
  have a:es.toList.any (·.refKey)=false:=by
   rw[any_eq_false];intro y O;obtain⟨z,t,F⟩:=L y (Array.mem_toList_iff.mp O);simp[Q4.refKey,F]
  have S:¬es.toList.any (·.refKey)=true:=by rw[a];exact N2
  rw[if_neg S];exact congrArg some e
theorem zi.look{h:Heap}{x dx C:Addr}{mA:N_->Option NU}(I:zi h x dx C mA):∃z,PySem.W.InstAt h x (PySem.W.instObj C dx) C (some z)/\∀name,PySem.W.lookIn name z=some (mA name):=
 let ⟨z,F,hl⟩:=Bz I.ns
 ⟨z,⟨I.obj,rfl,rfl,F⟩,hl⟩
section
variable{prog:N3}{w:Oh}{A:OG}{E:NU->NY->Prop}{s:NY}{K:PySem.W.Frag}{x dx C f:Addr}{mA:N_->Option NU}{name:N_}{v:NU}
theorem EN{z:Bool}{Q:NU->NY->Prop}(X:K.In s.heap)(I:zi s.heap x dx C mA)(hg:PySem.W.plainGet K C name=true)(L:PySem.W.hasDictIn K C=true)(ha:PySem.W.findIn K (.ref C) name=some none)(hv:mA name=some v)(F:PySem.W.handedIn v=true)(h:Q v {s with toks:=s.toks+1}):
  wpAny (model prog w) A (getAttr (.ref x) name z) Q E s:=by
 obtain⟨M,J,hl⟩:=I.look;exact PySem.W.get_value X J (PySem.W.plainGet_of hg).1 (PySem.W.findObj_own L ha rfl (by rw[hl,hv])) F h
theorem De{pl:VD Bool}{Q:NU×List NU->NY->Prop}(X:K.In s.heap)(I:zi s.heap x dx C mA)(hg:PySem.W.plainGet K C name=true)(z:PySem.W.findIn K (.ref C) name=some (some (.ref f)))(F:PySem.W.isFn K (.ref f)=true)(hv:mA name=none)(h:Q (.ref f,[.ref x]) s):
  wpAny (model prog w) A (T9 (.ref x) name pl) Q E s:=by
 obtain⟨L,J,hl⟩:=I.look;exact PySem.W.method_fn X J (PySem.W.plainGet_of hg).1 (PySem.W.plainGet_of hg).2 z (beq_iff_eq.mp F) (by show(PySem.W.lookIn name L).map (·.isSome)=some false;rw[hl,hv];rfl) h
theorem EO{ns:List N_}{Q:Unit->NY->Prop}(X:K.In s.heap)(I:zi s.heap x dx C mA)(hs:PySem.W.findIn K (.ref C) "__setattr__"=some (some (.builtin "object.__setattr__")))(Y:PySem.W.plainOver K C=true)(Z:PySem.W.takerIn K C name=some none)(hh:PySem.W.hasDictIn K C=true)(hw:PySem.Within mA ns)(hsz:ns.length<=sizeLine)(h:∀h',zi h' x dx C (fun y=>if y=name then some v else mA y)->Heap.SameBut dx s.heap h'->Q () {s with heap:=h',toks:=s.toks+2}):
  wpAny (model prog w) A (setAttr (.ref x) name v) Q E s:=by
 obtain⟨od,J,hl⟩:=I.look;refine PySem.W.set_plain X J hs (PySem.W.osa_open (s:={s with toks:=s.toks+1}) (r:=none) X J Y Z fun b=>?_);obtain⟨cd,hc,L⟩:=PySem.W.any_some hh;have hx:s.heap.get? x=some ⟨.ref C,some dx,.plain,#[]⟩:=I.obj;refine wpAny_bind (wpAny_pure (wpAny_bind (wpAny_bind (wpAny_loadPart hx (wpAny_bind (PySem.W.Looks.here (s:={s with toks:=s.toks+1}) (PySem.W.looks_clsIn X hc) ?_))))));rw[L];refine wpAny_pure (a:=some dx) (wpAny_bind (wpAny_pure (wpAny_bind ?_)));refine wpAny_nsSet1 (s:={s with toks:=s.toks+1}) I.ns fun h' z F=>?_;obtain⟨oD,al,an,M,O,S⟩:=z.count (PySem.Within.cons name v hw);refine wpAny_bind (wpAny_lookBehind M (by rw[O];exact pastItsLine_dict (Od S (by rw[Ol];lia))) ?_);exact wpAny_pure (h _ ⟨(F.2 _ (Ne.symm I.ne)).trans I.obj,z,I.ne⟩ F)
theorem Df{R:VF->NY->Prop}{vs:List NU}{z:List (N_×NU)}(X:K.In s.heap)(F:PySem.W.makesIn K C=true)(hi:PySem.W.findIn K (.ref C) "__init__"=some (some (.ref f)))(I:PySem.W.typeIn K (.ref f)=some (.type "function"))(h:codeAny (model prog w) (A.under (.builtin "type.__call__" ⟨.ref C::vs,z⟩)) (.call (.ref f) ⟨.ref (s.heap.objs.size+1)::vs,z⟩) (PySem.W.InitBack (s.heap.objs.size+1) R)
   {s with heap:=(s.heap.push PySem.W.emptyDict).push (PySem.W.instObj C s.heap.objs.size)}):
  codeAny (model prog w) A (.call (.ref C) ⟨vs,z⟩) R s:=by
 obtain⟨J,g,d,t,os⟩:=s;exact PySem.W.make_core (PySem.W.makes_of X F) (PySem.W.looks_findIn X hi) (fun self=>PySem.W.bind_fn X self I) (.inl rfl) h
end
def bf(f:N_)(v:V):List (N_×V)->List (N_×V)
 |[]=>[(f,v)]
 |(g,x)::r=>if g=f then(g,v)::r else(g,x)::bf f v r
theorem dk(f g:N_)(v:V):∀fs:List (N_×V),(bf f v fs).lookup g=if g=f then some v else fs.lookup g
 |[]=>by
  show OV g [(f,v)]=_;by_cases h:g=f
  ·have hb:(g==f)=true:=beq_iff_eq.mpr h;simp only[OV,hb,if_pos h]
  ·have hb:(g==f)=false:=beq_eq_false_iff_ne.mpr h;simp only[OV,hb,if_neg h]
 |(k,x)::r=>by
  have F:=dk f g v r;rw[show bf f v ((k,x)::r)=(if k=f then(k,v)::r else(k,x)::bf f v r) from rfl];by_cases z:k=f
  ·rw[if_pos z];by_cases h:g=k
   ·have hb:(g==k)=true:=beq_iff_eq.mpr h;simp only[OV,hb,if_pos (h.trans z)]
   ·have hb:(g==k)=false:=beq_eq_false_iff_ne.mpr h;simp only[OV,hb,if_neg (fun e:g=f=>h (e.trans z.symm))]
  ·rw[if_neg z];by_cases h:g=k
   ·have hb:(g==k)=true:=beq_iff_eq.mpr h;simp only[OV,hb,if_neg (fun e:g=f=>z (h.symm.trans e))]
   ·have hb:(g==k)=false:=beq_eq_false_iff_ne.mpr h;simp only[OV,hb];exact F
theorem pw(f:N_)(v:V):∀fs:List (N_×V),f∈(bf f v fs).map (·.1)/\∀g,g∈fs.map (·.1)->g∈(bf f v fs).map (·.1)
 |[]=>⟨by simp[bf],fun g h=>by simp at h⟩
 |(k,x)::r=>by
  obtain⟨i1,F⟩:=pw f v r;rw[show bf f v ((k,x)::r)=(if k=f then(k,v)::r else(k,x)::bf f v r) from rfl];by_cases z:k=f
  ·rw[if_pos z];subst z;exact⟨by simp,fun g h=>by simpa using h⟩
  ·rw[if_neg z];refine⟨?_,fun g h=>?_⟩
   ·rw[Oo];exact N5 _ i1
   ·rw[Oo] at h ⊢;rcases Og.mp h with e|e
    ·exact Og.mpr (.inl e)
    ·exact N5 _ (F g e)
theorem kR(f:N_)(v:V):∀fs:List (N_×V),(bf f v fs).length<=fs.length+1
 |[]=>by simp[bf]
 |(k,x)::r=>by
  have F:=kR f v r;rw[show bf f v ((k,x)::r)=(if k=f then(k,v)::r else(k,x)::bf f v r) from rfl];by_cases z:k=f
  ·rw[if_pos z,Ol,Ol];lia
  ·rw[if_neg z,Ol,Ol];lia
theorem kK.some_of{v:V}{o:Option NU}(r:kK (some v) o):∃u,o=some u/\O6 v u:=by
 cases o with
 |none=>exact(show False from r).elim
 |some u=>exact⟨u,rfl,r⟩
theorem kK.none_of{o:Option NU}(r:kK none o):o=none:=by
 cases o with
 |none=>rfl
 |some u=>exact(show False from r).elim
theorem BA{v:V}{u:NU}(r:O6 v u):PySem.W.handedIn u=true:=by
 cases v with
 |non=>cases (show u=NU.none from r);rfl
 |bl b=>cases (show u=NU.bool b from r);rfl
 |int i=>obtain⟨t,e⟩:=(show ∃t,u=NU.int i t from r);cases e;rfl
 |str x=>obtain⟨t,e⟩:=(show ∃t,u=NU.str x t from r);cases e;rfl
 |byt b=>obtain⟨t,e⟩:=(show ∃t,u=NU.bytes b t from r);cases e;rfl
 |flt b=>obtain⟨t,e⟩:=(show ∃t,u=NU.float b t from r);cases e;rfl
 |ref a=>cases (show u=NU.ref a from r);rfl
 |ty n=>cases (show u=NU.type n from r);rfl
section
variable{P:N3}{w:Oh}{H H':Hp}{h h':Heap}{a C dx:Addr}{fs fs':List (N_×V)}
theorem wg(hok:kL P w H h)(e:H a=some (.ins C dx fs)):∃mA,zi h a dx C mA/\(∀f,kK (fs.lookup f) (mA f))/\PySem.Within mA (fs.map (·.1))/\fs.length<=1000/\H dx=some (.own a):=by
 obtain⟨d,z,ne,F,mA,n,r,q⟩:=(show eY P w H h a (.ins C dx fs) from hok a _ e);exact⟨mA,⟨F,n,ne⟩,r,q,z,d⟩
end
structure rN (K:PySem.W.Frag) (C:Addr):Prop where
 pg:PySem.W.plainGet K C N_.empty=true
 hd:PySem.W.hasDictIn K C=true
 po:PySem.W.plainOver K C=true
 sa:PySem.W.findIn K (.ref C) "__setattr__"=some (some (.builtin "object.__setattr__"))
theorem rN.get{K:PySem.W.Frag}{C:Addr}(c:rN K C)(f:N_):PySem.W.plainGet K C f=true:=c.pg
def aX(K:PySem.W.Frag)(C:Addr)(f:N_):Prop:=PySem.W.findIn K (.ref C) f=some none
theorem aX.taker{K:PySem.W.Frag}{C:Addr}{f:N_}(n:aX K C f):PySem.W.takerIn K C f=some none:=by
 unfold PySem.W.takerIn;rw[show PySem.W.findIn K (.ref C) f=some none from n];rfl
structure Dg (K:PySem.W.Frag) (C:Addr) (m:N_) (f:Addr):Prop where
 at_:PySem.W.findIn K (.ref C) m=some (some (.ref f))
 fn:PySem.W.isFn K (.ref f)=true
 kp:PySem.W.keepIn K (.ref f)=true
section
variable{X:Cx}{pins:List (Addr×Obj)}{σ:St}{H:Hp}{s:NY}{a C dx:Addr}{fs:List (N_×V)}{f:N_}{v:V}{A:OG}{E:NU->NY->Prop}
theorem sw{b:Bool}{Q:NU->NY->Prop}(I:Inv X pins σ H s)(e:H a=some (.ins C dx fs))(c:rN X.K C)(n:aX X.K C f)(l:fs.lookup f=some v)(h:∀u s',Inv X pins σ H s'->O6 v u->Q u s'):wpAny (model X.prog X.w) A (getAttr (.ref a) f b) Q E s:=by
 obtain⟨mA,O,r,_,_,_⟩:=wg I.hok e;obtain⟨u,F,z⟩:=kK.some_of (v:=v) (o:=mA f) (by rw[<-l];exact r f);exact EN I.kIn O (c.get f) c.hd n F (BA z) (h u _ (I.tok _) z)
theorem sx{m:N_}{g:Addr}{pl:VD Bool}{Q:NU×List NU->NY->Prop}(I:Inv X pins σ H s)(e:H a=some (.ins C dx fs))(c:rN X.K C)(k:Dg X.K C m g)(l:fs.lookup m=none)(h:Q (.ref g,[.ref a]) s):wpAny (model X.prog X.w) A (T9 (.ref a) m pl) Q E s:=by
 obtain⟨mA,O,r,_,_,_⟩:=wg I.hok e;have z:mA m=none:=kK.none_of (by rw[<-l];exact r m);exact De I.kIn O (c.get m) k.at_ k.fn z h
theorem sy{y:V}{u:NU}{Q:Unit->NY->Prop}(I:Inv X pins σ H s)(e:H a=some (.ins C dx fs))(c:rN X.K C)(n:aX X.K C f)(hl:fs.length<1000)(M:O6 y u)(h:∀s',Inv X pins σ (upd H a (.ins C dx (bf f y fs))) s'->Q () s'):wpAny (model X.prog X.w) A (setAttr (.ref a) f u) Q E s:=by
 obtain⟨mA,O,r,J,_,L⟩:=wg I.hok e;have S:(fs.map (·.1)).length<=sizeLine:=by rw[NV,Ul];lia
 refine EO I.kIn O c.sa c.po n.taker c.hd J S fun h' F Y=>h _ ?_;have hd:∃o,h'.get? dx=some o:=let ⟨o,_,_,e',_⟩:=F.ns;⟨o,e'⟩;refine I.write (x:=a) (e:=dx) (by rw[e];exact True.intro) (.inr L) (fun b q hb z=>(Y.2 b hb).trans z) hd ?_;refine⟨by rw[aj O.ne];exact L,?_,O.ne,F.obj,_,F.ns,fun g=>?_,fun g hg=>?_⟩
 ·have:=kR f y fs;lia
 ·show kK ((bf f y fs).lookup g) (if g=f then some u else mA g);rw[dk];by_cases q:g=f
  ·rw[if_pos q,if_pos q];exact M
  ·rw[if_neg q,if_neg q];exact r g
 ·by_cases q:g=f
  ·rw[q];exact(pw f y fs).1
  ·refine(pw f y fs).2 g (J g fun z=>hg ?_);show(if g=f then some u else mA g)=none;rw[if_neg q];exact z
theorem Inv.made(I:Inv X pins σ H s):Inv X pins σ (upd (upd H s.heap.objs.size (.own (s.heap.objs.size+1))) (s.heap.objs.size+1) (.ins C s.heap.objs.size []))
  {s with heap:=(s.heap.push PySem.W.emptyDict).push (PySem.W.instObj C s.heap.objs.size)}:=by
 have z:(s.heap.push PySem.W.emptyDict).get? s.heap.objs.size=some PySem.W.emptyDict:=Heap.get?_push_size s.heap rfl
 have F:((s.heap.push PySem.W.emptyDict).push (PySem.W.instObj C s.heap.objs.size)).get? (s.heap.objs.size+1)=some (PySem.W.instObj C s.heap.objs.size):=by
  have:=Heap.get?_push_size (s.heap.push PySem.W.emptyDict) (o:=PySem.W.instObj C s.heap.objs.size) rfl
  rwa [Heap.size_push] at this
 have J:(s.heap.push PySem.W.emptyDict).Ns s.heap.objs.size (fun _=>none):=⟨PySem.W.emptyDict,#[],_,z,rfl,(fun e he=>absurd he (by simp)),fun _=>rfl⟩;have L:=I.laid (a:=s.heap.objs.size) (o:=.own (s.heap.objs.size+1)) (h':=s.heap.push PySem.W.emptyDict) (t':=s.toks) (fun b u q=>Heap.get?_push_of_some _ q) (NX _) ⟨_,z⟩;refine L.laid (a:=s.heap.objs.size+1) (o:=.ins C s.heap.objs.size []) (t':=s.toks) (fun b u q=>Heap.get?_push_of_some _ q) (Ra (Heap.size_push _ _)) ?_;have ne:s.heap.objs.size≠s.heap.objs.size+1:=OL (Rm _);refine⟨by rw[aj ne,ac],OA _,ne,F,fun _=>none,(Heap.Ns1.of_empty J).at fun o q=>Heap.get?_push_of_some _ q,fun _=>True.intro,fun y M=>absurd rfl M⟩
theorem EQ{prog:N3}{w:Oh}{env:Tk}{e:OH}{f:N_}{pos:Q2}{s:NY}{Q:NU->NY->Prop}(hb:PD e f env (eval e env)=eval e env)(h:wpAny (model prog w) A (eval e env) (fun o z=>wpAny (model prog w) A (getAttr o f true) Q E z) E s):wpAny (model prog w) A (eval (.Attribute e f pos) env) Q E s:=
 Attribute_any_ h (by rw[arm_eval_Attribute,hb])
end
def BB(K:PySem.W.Frag)(ta:TE)(f:N_):TE:=fun σ H Q=>ta σ H fun x H1=>∃a C dx fs v,x=.ref a/\H1 a=some (.ins C dx fs)/\rN K C/\aX K C f/\fs.lookup f=some v/\Q v H1
def ER(K:PySem.W.Frag)(ta tv:TE)(f:N_):TS:=fun D σ H=>tv σ H fun y H1=>ta σ H1 fun x H2=>∃a C dx fs,x=.ref a/\H2 a=some (.ins C dx fs)/\rN K C/\aX K C f/\fs.length<1000/\
 D.nx σ (upd H2 a (.ins C dx (bf f y fs)))
def IL(X:Cx)(z:Tw)(F:V->V->Hp->VK->Prop):Prop:=
 ∀(pins:List (Addr×Obj))(s:NY)(σ:St)(H:Hp)(x y:V)(u v:NU)(Q:VK),Inv X pins σ H s->O6 x u->O6 y v->F x y H Q->wpAny (model X.prog X.w) X.A (Vg z u v) (EP X pins σ Q) X.xe s
def AE(K:PySem.W.Frag)(ta tv:TE)(J:V->V->Hp->VK->Prop)(f:N_):TS:=fun D σ H=>ta σ H fun x H1=>∃a C dx fs v,x=.ref a/\H1 a=some (.ins C dx fs)/\rN K C/\aX K C f/\fs.lookup f=some v/\
 tv σ H1 fun y H2=>J v y H2 fun z I=>∃F fs',I a=some (.ins C F fs')/\fs'.length<1000/\D.nx σ (upd I a (.ins C F (bf f z fs')))
section
variable{X:Cx}{o e value:OH}{f:N_}{pos pos' tpos:Q2}{ta tv:TE}
theorem fJ(he:PE X e ta)(hb:PD e f X.env (eval e X.env)=eval e X.env):PE X (.Attribute e f pos) (BB X.K ta f):=by
 intro pins s σ H Q I h;refine EQ hb (dQ (he pins s σ H _ I h) fun u O ⟨x,H1,z,F,a,C,dx,fs,v,ex,J,c,n,l,q⟩=>?_);subst ex;obtain rfl:u=NU.ref a:=F;exact sw z J c n l fun u' S L M=>⟨v,H1,L,M,q⟩
theorem sA(ha:PE X o ta)(hv:PE X value tv)(hs:Q3 value (some (.Attribute o f pos')) pos.line X.env=pure false):PS X (.Assign [.Attribute o f pos'] value pos) (ER X.K ta tv f):=by
 intro pins s σ H D I h;refine plainObj_wpAny_Assign_Attribute (dQ (hv pins s σ H _ I h) fun u z ⟨y,H1,F,J,q⟩=>dQ (ha pins z σ H1 _ F q) fun L s2 ⟨x,H2,M,O,a,C,dx,fs,ex,S,c,n,l,Y⟩=>?_) hs;subst ex;obtain rfl:L=NU.ref a:=O;exact sy M S c n l J fun s3 Z=>⟨σ,_,Z,Y⟩
theorem BC{L:Tw}{M:V->V->Hp->VK->Prop}(ha:PE X o ta)(hv:PE X value tv)(F:IL X L M):PS X (.AugAssign (.Attribute o f tpos) L value pos) (AE X.K ta tv M f):=by
 intro pins s σ H D I h;refine wpAny_AugAssign_AttributeAny (dQ (ha pins s σ H _ I h) fun O s1 ⟨x,H1,S,Y,a,C,dx,fs,v,ex,Z,c,n,l,q⟩=>?_);subst ex;obtain rfl:O=NU.ref a:=Y;refine sw S Z c n l fun u s2 I2 ru=>dQ (hv pins s2 σ H1 _ I2 q) fun w3 s3 ⟨y,H2,I3,ry,q3⟩=>dQ (F pins s3 σ H2 v y u w3 _ I3 ru ry q3) fun w4 s4 ⟨z,H3,I4,rz,al,fs',J,l',q4⟩=>?_;exact sy I4 J c n l' rz fun s5 I5=>⟨σ,_,I5,q4⟩
def IM:V->V->Hp->VK->Prop:=fun x y H Q=>∃i j,x=.int i/\y=.int j/\Q (.int (i+j)) H
theorem GN:IL X .Add IM:=by
 rintro pins s σ H x y u v Q I z F ⟨i,j,rfl,rfl,q⟩;obtain⟨t,rfl⟩:=(show ∃t,u=NU.int i t from z);obtain⟨t',rfl⟩:=(show ∃t',v=NU.int j t' from F);exact PyProof.Rows.iadd_int ⟨.int (i+j),H,I.tok _,⟨_,rfl⟩,q⟩
theorem F8{pl:VD Bool}{m:N_}{apos:Q2}{args:List OH}{pins:List (Addr×Obj)}{s:NY}{σ:St}{H:Hp}{Q:NU->NY->Prop}{te:TE}(he:PE X e te)(I:Inv X pins σ H s)(h:te σ H fun x H1=>∃a C dx fs g,x=.ref a/\H1 a=some (.ins C dx fs)/\rN X.K C/\Dg X.K C m g/\fs.lookup m=none/\
   ∀z,Inv X pins σ H1 z->wpAny (model X.prog X.w) X.A (Tx pos (.ref g) [.ref a] (backTo pos (starEach args X.env)) (SD pos (Ru [] X.env))) Q X.xe z)(L:eval (.Call (.Attribute e m apos) args [] pos) X.env=(do
   let F <-eval e X.env
   Vo apos.atName
   let (f,first) <-Tv [F] (T9 F m pl)
   Tx pos f first (backTo pos (starEach args X.env)) (SD pos (Ru [] X.env)))):
  wpAny (model X.prog X.w) X.A (eval (.Call (.Attribute e m apos) args [] pos) X.env) Q X.xe s:=by
 refine PySem.W.methodCall_KW (pl:=pl) (dQ (he pins s σ H _ I h) fun u z ⟨x,H1,J,M,a,C,dx,fs,g,ex,O,c,k,l,q⟩=>?_) L;subst ex;obtain rfl:u=NU.ref a:=M;exact sx J O c k l (q z J)
end
section
variable{X:Cx}{pins:List (Addr×Obj)}{σ:St}{H:Hp}{s:NY}{A:OG}{E:NU->NY->Prop}{Q:NU->NY->Prop}{c:NU}{b:Bool}
end
end L2
namespace L2
open PySem PySem.Spec PyProof.Rows
structure gr (k:Nat) (A:OG):Prop where
 hd:A.handled=none
 dp:A.depth+3*k+5<UD
 un:A.units+16*k+200<SE
theorem gr.mono{j k:Nat}{A:OG}(r:gr k A)(h:j<=k):gr j A:=⟨r.hd,by have:=r.dp;lia,by have:=r.un;lia⟩
theorem gr.deeper{k:Nat}{A:OG}(r:gr (k+1) A)(env:Tk):gr k (A.deeper env):=
 ⟨r.hd,by have:=r.dp;show A.depth+1+3*k+5<_;lia,by have:=r.un;show A.units+3+16*k+200<_;lia⟩
theorem zj{A:OG}{C:Addr}{us:List NU}{z:List (N_×NU)}:(A.under (.builtin "type.__call__" ⟨.ref C::us,z⟩)).depth=A.depth+1:=by
 first|rfl|simp[OG.under,U7.weight,U7.isCreation,U7.isGuard,U7.isCaller,U7.frames,U7.isFrame,guardIds]
theorem zk{A:OG}{C:Addr}{us:List NU}{z:List (N_×NU)}:(A.under (.builtin "type.__call__" ⟨.ref C::us,z⟩)).units=A.units+1:=by
 first|rfl|simp[OG.under,U7.cUnits,U7.frames,U7.isFrame]
theorem gr.make{k:Nat}{A:OG}(r:gr (k+1) A)(C:Addr)(us:List NU)(z:List (N_×NU)):gr k (A.under (.builtin "type.__call__" ⟨.ref C::us,z⟩)):=
 ⟨r.hd,by have:=r.dp;rw[zj];lia,by have:=r.un;rw[zk];lia⟩
theorem gr.depth{k:Nat}{A:OG}(r:gr k A):A.depth<UD:=by have:=r.dp;lia
theorem gr.units{k:Nat}{A:OG}(r:gr k A):A.units+64<SE:=by have:=r.un;lia
def wj:TA:=fun _ H Q=>Q [] H
def sB(ta:TE)(z:TA):TA:=fun σ H Q=>ta σ H fun x H1=>z σ H1 fun xs H2=>Q (x::xs) H2
section
variable{X:Cx}{e:OH}{es:List OH}{te:TE}{t:TA}{pos:Q2}
theorem ag:PA X [] wj:=fun _ _ _ _ H Q I h=>Calls.spliced_nil ⟨[],H,I,.nil,h⟩
theorem ab(ha:PE X e te)(z:PA X es t)(hs:starEach (e::es) X.env=(false,eval e X.env)::starEach es X.env:=by rfl):PA X (e::es) (sB te t):=by
 intro pos pins s σ H Q I h;rw[hs];show wpAny _ _ (spliced ((false,eval e X.env)::backTo pos (starEach es X.env))) _ _ s;refine Calls.spliced_cons (dQ (ha pins s σ H _ I h) fun u F ⟨x,H1,J,L,M⟩=>?_);exact dQ (z pos pins F σ H1 _ J M) fun us Z ⟨xs,H2,O,S,Y⟩=>⟨x::xs,H2,O,.cons L S,Y⟩
def Dh(t:TA):TE:=fun σ H Q=>t σ H fun xs H1=>xs.length<=sizeLine/\∀p,H1 p=none->Q (.ref p) (upd H1 p (.tup xs))
def BD(t:TA):TE:=fun σ H Q=>t σ H fun xs H1=>xs.length<=sizeLine/\∀p,H1 p=none->Q (.ref p) (upd H1 p (.lst xs))
theorem gW{x1}(h:PA X es t):PE X (.Tuple es x1 pos) (Dh t):=by
 intro pins s σ H Q I L;refine wpAny_Tuple_spliced (dQ (h pos pins s σ H _ I L) fun us F ⟨xs,H1,J,r,z,q⟩=>⟨by rw[<-r.length];exact z,?_⟩);have M:H1 F.heap.objs.size=none:=J.hok.fresh (NX _);refine⟨.ref F.heap.objs.size,upd H1 F.heap.objs.size (.tup xs),J.laid (t':=F.toks) (fun b u e=>Heap.get?_push_of_some _ e) (NX _) ?_,rfl,q _ M⟩;exact⟨z,us,r,⟨_,Heap.get?_push_size _ rfl,rfl,_,rfl⟩⟩
theorem aH(h:PA X es t):PE X (.List es pos) (BD t):=by
 intro pins s σ H Q I L;refine wpAny_List_spliced (dQ (h pos pins s σ H _ I L) fun us F ⟨xs,H1,J,r,z,q⟩=>⟨by rw[<-r.length];exact z,?_⟩);have M:H1 F.heap.objs.size=none:=J.hok.fresh (NX _);refine⟨.ref F.heap.objs.size,upd H1 F.heap.objs.size (.lst xs),J.laid (t':=F.toks) (fun b u e=>Heap.get?_push_of_some _ e) (NX _) ?_,rfl,q _ M⟩;exact⟨z,us,0,r,Heap.get?_push_size _ rfl⟩
end
abbrev Sp:=List V->Hp->VK->XK->Prop
abbrev BE:=List Tk->Hp->NY->XK->NU->NY->Prop
structure zn (P:N3) (w:Oh) (K:PySem.W.Frag) (mg:N_->Option NU) (base:Heap) (A:OG) (outer:List Tk) (s:NY) (H:Hp):Prop where
 frames:A.frames=some outer
 mod:Mod K mg base
 bs:∀b o,base.get? b=some o->s.heap.get? b=some o/\H b=none
 bsz:base.objs.size<=s.heap.objs.size
 funs:s.heap.FunFrames base outer
 frf:∀b∈C4 outer,H b=none
 hok:kL P w H s.heap
 bare:SW s.gens
inductive CE(outer:List Tk)(P:N3)(w:Oh)(H:Hp)(s:NY)(Q:VK)(u:NU)(s':NY):Prop|mk(v H':_)(_:s'.os=s.os)(_:SW s'.gens)(_:Un (C4 outer) [] H H' s.heap s'.heap)(_:kL P w H' s'.heap)(_:O6 v u)(_:Q v H')
def CR(CX:BE)(outer:List Tk)(P:N3)(w:Oh)(H:Hp)(s:NY)(Q:VK)(E:XK)(r:VF)(s':NY):Prop:=
 match r with
 |.ok (.ret u)=>CE outer P w H s Q u s'
 |.ok _=>False
 |.error e=>CX outer H s E e s'
structure jO (P:N3) (w:Oh) (K:PySem.W.Frag) (mg:N_->Option NU) (base:Heap) (CX:BE) (k:Nat) (f:Addr) (fd:Qm) (ps:List N_) (sp:Sp):Prop where
 len:∀vs H Q E,sp vs H Q E->vs.length=ps.length
 run:∀(A:OG)(outer:List Tk)(s:NY)(H:Hp)(args:Uw)(us:List NU)(vs:List V)(Q:VK)(E:XK),gr k A->zn P w K mg base A outer s H->Tz s fd args (ps.zip us)->bT vs us->sp vs H Q E->
  codeAny (model P w) A (.call (.ref f) args) (CR CX outer P w H s Q E) s
theorem zn.make{P:N3}{w:Oh}{K:PySem.W.Frag}{mg:N_->Option NU}{base:Heap}{A:OG}{outer:List Tk}{s:NY}{H:Hp}(e:zn P w K mg base A outer s H)(C:Addr)(us:List NU)(z:List (N_×NU)):
  zn P w K mg base (A.under (.builtin "type.__call__" ⟨.ref C::us,z⟩)) outer s H:=⟨by first|exact e.frames|(simpa [OG.under,U7.envs,U7.isFrame,pushEnvs] using e.frames),e.mod,e.bs,e.bsz,e.funs,e.frf,e.hok,e.bare⟩
section
variable{X:Cx}{pins:List (Addr×Obj)}{σ:St}{H:Hp}{s s':NY}
theorem Inv.env0(I:Inv X pins σ H s):zn X.prog X.w X.K X.mg X.base X.A X.stack s H:=
 ⟨I.ok.frames,I.ok.mod,I.bs,Od I.ok.bsz I.sz,I.stack,I.stkFree,I.hok,I.bare⟩
theorem Inv.after{Q:VK}{u:NU}(I:Inv X pins σ H s)(h:CE X.stack X.prog X.w H s Q u s'):EP X pins σ Q u s':=by
 obtain⟨v,H',os,bare,un,hok,r,q⟩:=h;obtain⟨J,g,d,t,F⟩:=s';obtain rfl:F=s.os:=os;exact⟨v,H',I.call (h':=J) (g':=g) (d':=d) (t':=t) (ch:=[]) un hok bare (fun b z=>absurd z (by simp)),r,q⟩
end
def sC(sp:Sp)(dvs:List V)(E:XK)(t:TA):TE:=fun σ H Q=>t σ H fun vs H1=>sp (vs++dvs) H1 Q E
def F9(C:Addr)(m:N_)(sp:Sp)(dvs:List V)(E:XK)(ta:TE)(t:TA):TE:=fun σ H Q=>ta σ H fun x H1=>∃a dx fs,x=.ref a/\H1 a=some (.ins C dx fs)/\fs.lookup m=none/\
 t σ H1 fun vs H2=>sp (x::(vs++dvs)) H2 Q E
def AF(C:Addr)(sp:Sp)(dvs:List V)(E:XK)(t:TA):TE:=fun σ H Q=>t σ H fun vs H1=>∀x dx,H1 x=none->H1 dx=none->dx≠x->
 sp (.ref x::(vs++dvs)) (upd (upd H1 dx (.own x)) x (.ins C dx [])) (fun v H2=>v=.non/\Q (.ref x) H2) E
def Binds(K:PySem.W.Frag)(fd:Qm)(ps:List N_)(ds:List NU):Prop:=
 ∀(s:NY)(us:List NU),K.In s.heap->(us++ds).length=ps.length->Tz s fd ⟨us,[]⟩ (ps.zip (us++ds))
theorem Binds.all{K:PySem.W.Frag}{fd:Qm}{ps:List N_}(h:∀us:List NU,us.length=ps.length->Vw fd ⟨us,[]⟩=pure (ps.zip us)):Binds K fd ps []:=fun s us _ hl=>by
 rw[OC] at hl ⊢;exact .of_eq (h us hl)
def nh(CX:BE)(X:Cx)(E:XK):Prop:=∀(pins:List (Addr×Obj))(σ:St)(H:Hp)(s:NY)(e:NU)(s':NY),Inv X pins σ H s->CX X.stack H s E e s'->X.xe e s'
section
variable{X:Cx}{CX:BE}{k:Nat}{f C:Addr}{fd:Qm}{ps:List N_}{sp:Sp}{dvs:List V}{ds:List NU}{E:XK}{x m:N_}{p pos apos:Q2}{e o:OH}{es:List OH}{ta:TE}{t:TA}
theorem zp{pins:List (Addr×Obj)}{σ:St}{H:Hp}{s:NY}{Q:VK}{us:List NU}{vs:List V}(F:jO X.prog X.w X.K X.mg X.base CX k f fd ps sp)(L:gr k X.A)(hb:Binds X.K fd ps ds)(hd:bT dvs ds)(M:nh CX X E)(I:Inv X pins σ H s)(r:bT vs us)(h:sp (vs++dvs) H Q E):wpAny (model X.prog X.w) X.A (call (.ref f) us) (EP X pins σ Q) X.xe s:=by
 have J:bT (vs++dvs) (us++ds):=r.append hd;have hl:(us++ds).length=ps.length:=by rw[<-J.length];exact F.len _ _ _ _ h
 refine wpAny_call (Sh (F.run X.A X.stack s H ⟨us,[]⟩ (us++ds) (vs++dvs) Q E L I.env0 (hb s us I.kIn hl) J h) fun r s' z=>?_);cases r with
 |error e=>exact M pins σ H s e s' I z
 |ok O=>
  cases O with
  |ret u=>exact I.after z
  |next=>exact False.elim z
  |brk=>exact False.elim z
  |cont=>exact False.elim z
theorem iY(F:jO X.prog X.w X.K X.mg X.base CX k f fd ps sp)(M:gr k X.A)(hg:Gl X x)(O:X.mg x=some (.ref f))(S:PySem.W.keepIn X.K (.ref f)=true)(hb:Binds X.K fd ps ds)(hd:bT dvs ds)(Y:nh CX X E)(ha:PA X (e::es) t)(z:(x==("__debug__":N_))=false:=by decide)(he:starEach (e::es) X.env=(false,eval e X.env)::starEach es X.env:=by rfl)(J:(backTo pos (starEach es X.env)).any (·.1)=false:=by rfl):
  PE X (.Call (.Name x p) (e::es) [] pos) (sC sp dvs E t):=by
 intro pins s σ H Q I h;refine Qt (rL I hg O ?_ z);refine PySem.W.callWith_K (h₀:=X.base) I.ok.mod.kin S (dQ (ha pos pins s σ H _ I h) fun us Z ⟨vs,H1,L,r,q⟩=>⟨L.kIn,?_⟩) he J;exact zp F M hb hd Y L r q
theorem wm{pl:VD Bool}(he:PE X o ta)(c:rN X.K C)(L:Dg X.K C m f)(F:jO X.prog X.w X.K X.mg X.base CX k f fd ps sp)(Y:gr k X.A)(hb:Binds X.K fd ps ds)(hd:bT dvs ds)(Z:nh CX X E)(ha:PA X (e::es) t)(z:starEach (e::es) X.env=(false,eval e X.env)::starEach es X.env:=by rfl)(J:(backTo pos (starEach es X.env)).any (·.1)=false:=by rfl)(ht:eval (.Call (.Attribute o m apos) (e::es) [] pos) X.env=(do
   let M <-eval o X.env
   Vo apos.atName
   let (f,first) <-Tv [M] (T9 M m pl)
   Tx pos f first (backTo pos (starEach (e::es) X.env)) (SD pos (Ru [] X.env))):=by rfl):
  PE X (.Call (.Attribute o m apos) (e::es) [] pos) (F9 C m sp dvs E ta t):=by
 intro pins s σ H Q I h;refine PySem.W.methodCall_KW (pl:=pl) (dQ (he pins s σ H _ I h) fun u s1 ⟨x,H1,O,rx,a,dx,fs,ex,ea,l,q⟩=>?_) ht;subst ex;obtain rfl:u=NU.ref a:=rx;refine sx O ea c L l ?_;refine PySem.W.callWith_K (first:=[.ref a]) (h₀:=X.base) I.ok.mod.kin L.kp (dQ (ha pos pins s1 σ H1 _ O q) fun us s2 ⟨vs,H2,S,r,q2⟩=>⟨S.kIn,?_⟩) z J;exact zp (us:=.ref a::us) (vs:=.ref a::vs) F Y hb hd Z S (.cons rfl r) q2
structure Mk (K:PySem.W.Frag) (C f:Addr):Prop where
 makes:PySem.W.makesIn K C=true
 init:PySem.W.findIn K (.ref C) "__init__"=some (some (.ref f))
 fn:PySem.W.isFn K (.ref f)=true
 kp:PySem.W.keepIn K (.ref C)=true
theorem xF{pins:List (Addr×Obj)}{σ:St}{H:Hp}{s:NY}{Q:VK}{us:List NU}{vs:List V}(M:Mk X.K C f)(F:jO X.prog X.w X.K X.mg X.base CX k f fd ps sp)(S:gr (k+1) X.A)(hb:Binds X.K fd ps ds)(hd:bT dvs ds)(Y:nh CX X E)(I:Inv X pins σ H s)(r:bT vs us)(h:∀x dx,H x=none->H dx=none->dx≠x->sp (.ref x::(vs++dvs)) (upd (upd H dx (.own x)) x (.ins C dx [])) (fun v H2=>v=.non/\Q (.ref x) H2) E):
  wpAny (model X.prog X.w) X.A (call (.ref C) us) (EP X pins σ Q) X.xe s:=by
 have L:=h (s.heap.objs.size+1) s.heap.objs.size (I.hok.fresh (PY _)) (I.hok.fresh (NX _)) (OL (Rm _));have J:=Inv.made (C:=C) I;have O:bT (V.ref (s.heap.objs.size+1)::(vs++dvs)) (NU.ref (s.heap.objs.size+1)::(us++ds)):=.cons rfl (r.append hd)
 have hl:(NU.ref (s.heap.objs.size+1)::us++ds).length=ps.length:=by
  have e:=O.length;rw[F.len _ _ _ _ L] at e;exact e.symm
 refine wpAny_call (Df (f:=f) I.kIn M.makes M.init (beq_iff_eq.mp M.fn) (Sh (F.run _ X.stack _ _ ⟨NU.ref (s.heap.objs.size+1)::us,[]⟩ (NU.ref (s.heap.objs.size+1)::(us++ds)) _ _ E (S.make C us [])
  (J.env0.make C us []) (hb _ (NU.ref (s.heap.objs.size+1)::us) J.kIn hl) O L) fun r s' z=>?_))
 cases r with
 |error e=>exact Y pins σ _ _ e s' J z
 |ok Z=>
  cases Z with
  |ret u=>
   obtain⟨v,H',I3,rv,ev,q3⟩:=J.after z;subst ev;exact⟨rv,⟨V.ref (s.heap.objs.size+1),H',I3,rfl,q3⟩⟩
  |next=>exact False.elim z
  |brk=>exact False.elim z
  |cont=>exact False.elim z
theorem ES(M:Mk X.K C f)(F:jO X.prog X.w X.K X.mg X.base CX k f fd ps sp)(O:gr (k+1) X.A)(hg:Gl X x)(S:X.mg x=some (.ref C))(hb:Binds X.K fd ps ds)(hd:bT dvs ds)(Y:nh CX X E)(ha:PA X (e::es) t)(z:(x==("__debug__":N_))=false:=by decide)(he:starEach (e::es) X.env=(false,eval e X.env)::starEach es X.env:=by rfl)(J:(backTo pos (starEach es X.env)).any (·.1)=false:=by rfl):
  PE X (.Call (.Name x p) (e::es) [] pos) (AF C sp dvs E t):=by
 intro pins s σ H Q I h;refine Qt (rL I hg S ?_ z);refine PySem.W.callWith_K (h₀:=X.base) I.ok.mod.kin M.kp (dQ (ha pos pins s σ H _ I h) fun us Z ⟨vs,H1,L,r,q⟩=>⟨L.kIn,?_⟩) he J;exact xF M F O hb hd Y L r q
theorem Di(M:Mk X.K C f)(F:jO X.prog X.w X.K X.mg X.base CX k f fd ps sp)(J:gr (k+1) X.A)(hg:Gl X x)(L:X.mg x=some (.ref C))(hb:Binds X.K fd ps ds)(hd:bT dvs ds)(O:nh CX X E)(z:(x==("__debug__":N_))=false:=by decide):PE X (.Call (.Name x p) [] [] pos) (AF C sp dvs E wj):=by
 intro pins s σ H Q I h;refine Qt (rL I hg L ?_ z);exact PySem.W.callWith_K0 I.kIn M.kp (xF (us:=[]) M F J hb hd O I .nil h)
end
section
variable{X:Cx}{CX:BE}{k:Nat}{f C:Addr}{fd:Qm}{ps ks:List N_}{sp:Sp}{E:XK}{x m:N_}{p pos apos kpos:Q2}{e o:OH}{es:List OH}{kws:List Vp}{te ta:TE}{t tk:TA}{nm:Option N_}
variable{g:List NU->List NU->List NU}{gV:List V->List V->List V}
end
structure ax (N P:List N_) (sc:QA):Prop where
 kind:sc.kind=.function
 co:sc.isCoroutine=false
 gen:sc.isGenerator=false
 nd:N.Nodup
 pre:N.take P.length=P
 par:∀x∈P,sc.names.lookup x=some .local\/sc.names.lookup x=some .cell
 nofree:∀y∈sc.names,y.2≠.free
def axB(N P:List N_)(sc:QA):Bool:=decide (sc.kind=.function)&&!sc.isCoroutine&&!sc.isGenerator&&decide N.Nodup&&decide (N.take P.length=P)&&decide (∀x∈P,sc.names.lookup x=some .local\/sc.names.lookup x=some .cell)&&decide (∀y∈sc.names,y.2≠.free)
theorem axo{N P:List N_}{sc:QA}(h:axB N P sc=true:=by decide+kernel):ax N P sc:=by
 unfold axB at h;simp only[Bool.and_eq_true,decide_eq_true_eq,Bool.not_eq_true'] at h;obtain⟨⟨⟨⟨⟨⟨a,b⟩,c⟩,d⟩,e⟩,f⟩,g⟩:=h;exact⟨a,b,c,d,e,f,g⟩
theorem uY{kindOf:N_->Option O4}{x:N_}:∀{z:List (N_×NU)}{m:N_->Option NU},(∀v,(x,v)∉z)->UE kindOf z m x=m x
 |[],_,_=>rfl
 |(n,v)::r,m,h=>by
  unfold UE;rw[uY fun w F=>h w (N5 _ F)];split
  ·have:x≠n:=by rintro rfl;exact h v Oi
   simp[this]
  ·rfl
theorem uZ{kindOf:N_->Option O4}{x:N_}:∀{z:List (N_×NU)}{m:N_->Option NU},(∀v,(x,v)∉z)->UF kindOf z m x=m x
 |[],_,_=>rfl
 |(n,v)::r,m,h=>by
  unfold UF;rw[uZ fun w F=>h w (N5 _ F)];split
  ·rfl
  ·have:x≠n:=by rintro rfl;exact h v Oi
   simp[this]
theorem u0{kindOf:N_->Option O4}{x:N_}{v:NU}:∀{P:List N_}{vs:List NU}{i:Nat}{m:N_->Option NU},P.Nodup->P[i]?=some x->vs[i]?=some v->kindOf x=some .local->
  UE kindOf (P.zip vs) m x=some v
 |[],_,_,_,_,h,_,_=>by simp at h
 |_::_,[],_,_,_,_,h,_=>by simp at h
 |p::P,w::vs,0,m,nd,h1,h2,z=>by
  simp at h1 h2;subst h1;subst h2;show UE kindOf ((p,w)::P.zip vs) m p=_;unfold UE;rw[uY fun v hv=>(Pq.mp nd).1 (RL hv).1,if_pos z];simp
 |p::P,w::vs,i+1,m,nd,h1,h2,z=>by
  show UE kindOf ((p,w)::P.zip vs) m x=_;unfold UE;exact u0 (i:=i) (Pq.mp nd).2 (by simpa using h1) (by simpa using h2) z
theorem u_{kindOf:N_->Option O4}{x:N_}{v:NU}:∀{P:List N_}{vs:List NU}{i:Nat}{m:N_->Option NU},P.Nodup->P[i]?=some x->vs[i]?=some v->kindOf x≠some .local->
  UF kindOf (P.zip vs) m x=some v
 |[],_,_,_,_,h,_,_=>by simp at h
 |_::_,[],_,_,_,_,h,_=>by simp at h
 |p::P,w::vs,0,m,nd,h1,h2,z=>by
  simp at h1 h2;subst h1;subst h2;show UF kindOf ((p,w)::P.zip vs) m p=_;unfold UF;rw[uZ fun v hv=>(Pq.mp nd).1 (RL hv).1,if_neg z];simp
 |p::P,w::vs,i+1,m,nd,h1,h2,z=>by
  show UF kindOf ((p,w)::P.zip vs) m x=_;unfold UF;exact u_ (i:=i) (Pq.mp nd).2 (by simpa using h1) (by simpa using h2) z
def start(N:List N_)(vs:List V):St:=vs.map some++N7 (N.length-vs.length) none
def xG(CX:BE)(P:N3)(w:Oh)(K:PySem.W.Frag)(mg:N_->Option NU)(base:Heap)(N:List N_)(z:N_)(scope:QA)(f:Addr)(cd:NU)(A:OG)(outer:List Tk)(s:NY)(H:Hp)(E:XK):Cx where
 prog:=P
 w:=w
 K:=K
 mg:=mg
 base:=base
 A:=A.deeper (Si z scope s.heap.objs.size f cd)
 N:=N
 s_0:=s
 H_0:=H
 env:=Si z scope s.heap.objs.size f cd
 outer:=outer
 stack:=Si z scope s.heap.objs.size f cd::outer
 ex:=[]
 calm:=true
 fn:=fun _=>true
 pn:=[]
 xe:=fun e s'=>wpAny (model P w) (A.deeper (Si z scope s.heap.objs.size f cd)) (leaving (Si z scope s.heap.objs.size f cd) e) (fun _ F=>CX outer H s E e F) (fun e' F=>CX outer H s E e' F) s'
theorem xH{z:QA}{n:Nat}{x:N_}(h:z.names.lookup x=some .cell):∃c,(cellsFrom n z.names []).lookup x=some c:=by
 have q:=PySem.W.cellsFrom_some z.names n [] (.inl h);exact QP.mp q
theorem BF{CX:BE}{P:N3}{w:Oh}{K:PySem.W.Frag}{mg:N_->Option NU}{base:Heap}{N ps:List N_}{F:N_}{scope:QA}{f:Addr}{cd:NU}{A:OG}{outer:List Tk}{s Y:NY}{H:Hp}{E:XK}{us:List NU}{vs:List V}(S:ax N ps scope)(hd:A.handled=none)(I:zn P w K mg base A outer s H)(hl:vs.length=ps.length)(r:bT vs us)(x:InCallC s s.heap.objs.size (UE (Si F scope s.heap.objs.size f cd).kindOf (ps.zip us) fun _=>none) (cellsFrom (s.heap.objs.size+1) scope.names []) (UF (Si F scope s.heap.objs.size f cd).kindOf (ps.zip us) fun _=>none) Y):
  Inv (xG CX P w K mg base N F scope f cd A outer s H E) [] (start N vs) H Y:=by
 have al:ps.length<=N.length:=by have:=congrArg Os S.pre;rw[QE] at this;lia
 obtain⟨h1,tk,rfl,Z⟩:=x.done;have J:∀b:Addr,b∉(xG CX P w K mg base N F scope f cd A outer s H E).ex:=fun b z=>absurd (show b∈([]:List Addr) from z) (by simp)
 refine⟨⟨I.mod,S.kind,rfl,rfl,NX _,fun y z c h1 h2=>?_,fun y L=>?_,fun y c _ h=>?_,fun _=>hd,OG.frames_deeper I.frames,.inr ⟨rfl,rfl⟩,fun b z=>absurd z (J b),I.bs,I.bsz,fun b _ _=>J b,fun b z=>absurd z (J b),I.funs,I.frf⟩,
  rfl,I.bare,Un.kept Z,⟨_,x.toInCall.ns,fun i y v h1 h2 h3=>?_⟩,fun y c h=>⟨_,x.cell y c h⟩,I.hok.fresh (NX _),fun y c h=>?_,fun p M=>absurd (show p∈([]:List (Addr×Obj)) from M) (by simp),I.hok.kept Z,?_⟩
 ·exact name_of_addr x.apart (PySem.mem_of_lookup h1) (PySem.mem_of_lookup h2)
 ·have L:scope.names.lookup y=some .cell\/scope.names.lookup y=some .free:=L;rcases L with L|L
  ·exact xH L
  ·exact absurd rfl (S.nofree _ (PySem.mem_of_lookup L))
 ·exact Sd (x.above y c (PySem.mem_of_lookup h))
 ·have hi:i<vs.length:=by
   unfold start at h2;by_cases hi:i<vs.length
   ·exact hi
   ·rw[OJ (by simpa using hi)] at h2;rw[RM] at h2;split at h2<;>cases h2
  have ha:vs[i]?=some v:=by
   unfold start at h2;rw[O7 (by simpa using hi),NZ] at h2;cases e:vs[i]? with
   |none=>rw[e] at h2;cases h2
   |some a=>rw[e] at h2;cases h2;rfl
  obtain⟨u,hu,rv⟩:=r.get ha
  have M:ps[i]?=some y:=by
   rw[<-S.pre,getElem?_take_of_lt (by lia)];exact h1
  have O:ps.Nodup:=by rw[<-S.pre];exact S.nd.sublist (take_sublist _ _)
  refine⟨u,rv,?_⟩;rcases S.par y (Oe M) with k|k
  ·exact .inl ⟨k,u0 O M hu k⟩
  ·obtain⟨c,e⟩:=xH (n:=s.heap.objs.size+1) k;refine .inr ⟨.inl k,c,e,?_⟩;have q:=x.cell y c e;rw[u_ O M hu (by show scope.names.lookup y≠_;rw[k];decide)] at q;exact q
 ·exact I.hok.fresh (Sd (x.above y c (PySem.mem_of_lookup h)))
 ·unfold start;show _=N.length;rw[Of,NV,Pj];lia
theorem IN{CX:BE}{P:N3}{w:Oh}{K:PySem.W.Frag}{mg:N_->Option NU}{base:Heap}{k:Nat}{f:Addr}{name z:N_}{params:Arguments}{L:List OE}{scope:QA}{dV kV Y pm F ct oc:NU}{an od:Option Addr}{ar:Array (Option NU)}{N ps:List N_}{sp:Sp}(lk:K.lookup f=some ⟨oc,od,.func (PySem.W.fnOf name z params L scope dV kV Y pm an F ct),ar⟩)(as:PySem.W.codeIn K F z=true)(S:ax N ps scope)(len:∀vs H Q E,sp vs H Q E->vs.length=ps.length)(M:∀(A:OG)(outer:List Tk)(s:NY)(H:Hp)(vs:List V)(Q:VK)(E:XK),gr k (A.deeper (Si z scope s.heap.objs.size f F))->sp vs H Q E->
   ∃t,Ay (xG CX P w K mg base N z scope f F A outer s H E) L t/\t {nx:=fun _ H'=>Q .non H',rt:=Q} (start N vs) H):
  jO P w K mg base CX (k+1) f (PySem.W.fnOf name z params L scope dV kV Y pm an F ct) ps sp:=by
 refine⟨len,fun A outer s H args us vs Q E hr Z hb r al=>?_⟩;have hl:=len _ _ _ _ al;have KX:K.In s.heap:=Z.mod.kin.keeps fun b o e=>(Z.bs b o e).1;have av:s.heap.NoLimit:=Z.mod.nolimit.keeps fun b o e=>(Z.bs b o e).1
 have O:∀y∈ps.zip us,scope.names.lookup y.1=some .local\/(scope.names.lookup y.1=some .cell/\((cellsFrom (s.heap.objs.size+1) scope.names []).lookup y.1).isSome=true):=fun⟨n,v⟩ hy=>by
  rcases S.par n (RL hy).1 with q|q
  ·exact .inl q
  ·exact .inr ⟨q,PySem.W.cellsFrom_some _ _ _ (.inl q)⟩
 refine codeAny_call_function hr.depth (KX _ _ lk) rfl S.co S.gen rfl (PySem.W.codeRec_of KX as) (hb _ _ _ _ ?_);refine wpAny_newFunctionEnv_cells S.kind O fun env he s1 x=>?_;subst he;refine⟨av.keeps x.toInCall.keep,codeAny_func ?_⟩;obtain⟨t,ht,hq⟩:=M A outer s H vs Q E (hr.deeper _) al;have I:Inv (xG CX P w K mg base N z scope f F A outer s H E) [] (start N vs) H s1:=BF S hr.hd Z hl r x;refine PP (ht [] s1 (start N vs) H _ I hq) (fun fl s' hs=>?_) fun e s' hs=>hs
 have fin:∀{σ':St}{H':Hp}{v:V}{u:NU},Inv (xG CX P w K mg base N z scope f F A outer s H E) [] σ' H' s'->O6 v u->Q v H'->CE outer P w H s Q u s':=
  fun{σ' H' v u} J rv q=>⟨v,H',J.os,J.bare,J.base,J.hok,rv,q⟩
 cases fl with
 |ret u=>
  obtain⟨v,σ',H',J,rv,q⟩:=hs;exact fin J rv q
 |next=>
  obtain⟨σ',H',J,q⟩:=hs;exact fin (v:=V.non) (u:=NU.none) J rfl q
 |brk=>
  obtain⟨_,_,_,q⟩:=hs;exact False.elim q
 |cont=>
  obtain⟨_,_,_,q⟩:=hs;exact False.elim q
end L2
namespace L2
open PySem PySem.Spec PyProof.Rows
section
variable{X:Cx}{x:N_}{p pos:Q2}{e:OH}{es:List OH}{t:TA}{id T:String}{r:List V->Hp->VK->Prop}
def GO(r:List V->Hp->VK->Prop)(t:TA):TE:=fun σ H Q=>t σ H fun vs H1=>r vs H1 Q
theorem az(J:g8 X (.builtin id) r)(hg:Gl X x)(L:X.mg x=none)(hv:Pp x=some (.builtin id))(ha:PA X (e::es) t)(M:x≠"__name__":=by decide)(z:(x==("__debug__":N_))=false:=by decide)(he:starEach (e::es) X.env=(false,eval e X.env)::starEach es X.env:=by rfl)(F:(backTo pos (starEach es X.env)).any (·.1)=false:=by rfl):PE X (.Call (.Name x p) (e::es) [] pos) (GO r t):=by
 intro pins s σ H Q I h;refine Qt (jm I hg L hv ?_ M z);exact PyProof.Rows.callWith_builtin1 (dQ (ha pos pins s σ H _ I h) fun us O ⟨vs,H1,S,Y,Z⟩=>J pins O σ H1 vs us Q S Y Z) he F
theorem c9(J:g8 X (.type T) r)(hg:Gl X x)(L:X.mg x=none)(hv:Pp x=some (.type T))(ha:PA X (e::es) t)(M:x≠"__name__":=by decide)(z:(x==("__debug__":N_))=false:=by decide)(he:starEach (e::es) X.env=(false,eval e X.env)::starEach es X.env:=by rfl)(F:(backTo pos (starEach es X.env)).any (·.1)=false:=by rfl):PE X (.Call (.Name x p) (e::es) [] pos) (GO r t):=by
 intro pins s σ H Q I h;refine Qt (jm I hg L hv ?_ M z);exact PyProof.Rows.callWith_type1 (dQ (ha pos pins s σ H _ I h) fun us O ⟨vs,H1,S,Y,Z⟩=>J pins O σ H1 vs us Q S Y Z) he F
end
end L2
namespace HT
open PySem PyProof.Rows
section
open PySem.SeqAt
open PySem.AutoSeq1 (wpAny_loadPart')
open PySem.MeetsSeq PySem.MeetsSeq2 PySem.MeetsSeq3
end
section
variable{prog:N3}{w:Oh}{A:OG}{E:NU->NY->Prop}{s:NY}
def sIx(n d:Nat):Option Int->Nat
 |none=>d
 |some v=>if v<0 then(v+(n:Int)).toNat else min v.toNat n
theorem sIx_none(n d:Nat):sIx n d none=d:=rfl
theorem sIx_nat(n d k:Nat):sIx n d (some (k:Int))=min k n:=by
 show(if (k:Int)<0 then((k:Int)+(n:Int)).toNat else min (k:Int).toNat n)=min k n;rw[if_neg (by lia),QB]
theorem sIx_le(n d:Nat)(hd:d<=n)(o:Option Int):sIx n d o<=n:=by
 cases o with
 |none=>exact hd
 |some v=>
  show(if v<0 then(v+(n:Int)).toNat else min v.toNat n)<=n;by_cases hv:v<0
  ·rw[if_pos hv];lia
  ·rw[if_neg hv];exact QI _ _
end
end HT
namespace L2
open PySem PySem.Spec PyProof.Rows
abbrev TO:=St->Hp->(Option Int->Hp->Prop)->Prop
def PO(X:Cx)(e:Option OH)(t:TO):Prop:=
 ∀(pins:List (Addr×Obj))(s:NY)(σ:St)(H:Hp)(Q:Option Int->Hp->Prop),Inv X pins σ H s->t σ H Q->
  wpAny (model X.prog X.w) X.A (evalPart e X.env) (fun u s'=>∃o H',Inv X pins σ H' s'/\T_ u o/\Q o H') X.xe s
def nR:TO:=fun _ H Q=>Q none H
def xI(t:TE):TO:=fun σ H Q=>t σ H fun x H1=>∃i,x=.int i/\Q (some i) H1
section
variable{X:Cx}{e:OH}{te:TE}{lo hi:Option OH}{tl th:TO}{pos p2:Q2}
theorem nS:PO X none nR:=by
 intro pins s σ H Q I h;rw[U8];exact wpAny_pure ⟨none,H,I,.none,h⟩
theorem dO(h:PE X e te):PO X (some e) (xI te):=by
 intro pins s σ H Q I z;rw[evalPart_some];refine dQ (h pins s σ H _ I z) fun u M ⟨x,H1,F,J,L⟩=>?_;obtain⟨i,rfl,q⟩:=L;obtain⟨t,rfl⟩:=J;exact⟨some i,H1,F,.int i t,q⟩
def JR(X:Cx)(r:V->Option Int->Option Int->Hp->VK->Prop):Prop:=
 ∀(pins:List (Addr×Obj))(s:NY)(σ:St)(H:Hp)(x:V)(v vl z:NU)(lo hi:Option Int)(F:Addr)(Q:VK),Inv X pins σ H s->O6 x v->s.heap.IsSliceOf F vl z .none->T_ vl lo->T_ z hi->r x lo hi H Q->
  ∃T id,typeLookup (.type T) "__getitem__"=pure (some (.builtin id))/\s.TypeIs v T/\wpAny (model X.prog X.w) X.A (TB v (.ref F)) (EP X pins σ Q) X.xe s
def IP(r:V->Option Int->Option Int->Hp->VK->Prop)(te:TE)(tl th:TO):TE:=fun σ H Q=>te σ H fun x H1=>tl σ H1 fun l H2=>th σ H2 fun u z=>r x l u z Q
theorem fC{r:V->Option Int->Option Int->Hp->VK->Prop}(L:JR X r)(he:PE X e te)(hl:PO X lo tl)(M:PO X hi th):PE X (.Subscript e (.Slice lo hi none p2) pos) (IP r te tl th):=by
 intro pins s σ H Q I h;refine UG (dQ (he pins s σ H _ I h) fun v O ⟨x,H1,S,Y,Z⟩=>?_);refine wpAny_Slice (dQ (hl pins O σ H1 _ S Z) fun vl s2 ⟨l,H2,I2,pl,q2⟩=>dQ (M pins s2 σ H2 _ I2 q2) fun F z ⟨u,J,I3,pu,q3⟩=>?_);rw[U8];refine wpAny_pure ?_;have I4:Inv X pins σ J {z with heap:=z.heap.push {cls:=.type "slice",data:=.fields #[vl,F,.none]}}:=I3.kept (t':=z.toks) fun b ob q=>Heap.get?_push_of_some _ q;obtain⟨T,id,hT,ht,hg⟩:=L pins {z with heap:=z.heap.push {cls:=.type "slice",data:=.fields #[vl,F,.none]}} σ J x v vl F l u z.heap.objs.size Q I4 Y (Heap.IsSliceOf.new ..) pl pu q3;show wpAny (model X.prog X.w) X.A (Th e (.Slice lo hi none p2) v (.ref z.heap.objs.size)) (EP X pins σ Q) X.xe {z with heap:=z.heap.push {cls:=.type "slice",data:=.fields #[vl,F,.none]}};exact tail_any (ops:=[.ref z.heap.objs.size,v]) ht hT hg (by with_unfolding_all rfl)
def kS(xs:List V)(lo hi:Option Int):List V:=(xs.drop (HT.sIx xs.length 0 lo)).take (HT.sIx xs.length xs.length hi-HT.sIx xs.length 0 lo)
theorem xJ(xs:List V)(lo hi:Option Int):(kS xs lo hi).length<=xs.length:=by
 unfold kS;rw[QE,Q5];lia
end
end L2
namespace L2
open PySem PySem.Spec PyProof.Rows
def ET(n:Nat)(i:Int):Option Nat:=if 0<=i then(if i<n then some i.toNat else none) else if -(n:Int)<=i then some (i+n).toNat else none
def AG{α:Type}(xs:List α)(i:Int):Option α:=(ET xs.length i).bind fun j=>xs[j]?
theorem AH{n:Nat}{i:Int}{j:Nat}(h:ET n i=some j):seqIndex? i n=some j/\j<n/\-(n:Int)<=i/\i<n:=by
 unfold ET at h;by_cases z:0<=i
 ·rw[if_pos z] at h;by_cases h1:i<n
  ·rw[if_pos h1] at h;have e:i.toNat=j:=N6.inj h;exact⟨by rw[Um z h1,e],by lia,by lia,h1⟩
  ·rw[if_neg h1] at h;cases h
 ·rw[if_neg z] at h;by_cases h1:-(n:Int)<=i
  ·rw[if_pos h1] at h;have e:(i+n).toNat=j:=N6.inj h;exact⟨by rw[TC (by lia) h1,e],by lia,h1,by lia⟩
  ·rw[if_neg h1] at h;cases h
theorem wn{α:Type}{xs:List α}{i:Int}{v:α}(h:AG xs i=some v):∃j,seqIndex? i xs.length=some j/\xs[j]?=some v/\j<xs.length/\-(xs.length:Int)<=i/\i<xs.length:=by
 unfold AG at h;cases e:ET xs.length i with
 |none=>rw[e] at h;cases h
 |some j=>
  rw[e] at h;obtain⟨h1,h2,z,F⟩:=AH e;exact⟨j,h1,h,h2,z,F⟩
theorem rO{α:Type}{xs:List α}{j:Nat}{v:α}(h:xs[j]?=some v):AG xs (j:Int)=some v:=by
 have z:j<xs.length:=(N4.mp h).1
 have e:ET xs.length (j:Int)=some j:=by
  unfold ET;rw[if_pos (by lia),if_pos (by lia)];simp
 unfold AG;rw[e];exact h
def AI(b:OH):Prop:=∀o i,SF b false o i=operate [o,i] (TB o i)
def Iu(X:Cx)(r:R2):Prop:=
 ∀(value z:OH)(pins:List (Addr×Obj))(s:NY)(σ:St)(H:Hp)(x y:V)(v u:NU)(Q:VK),Inv X pins σ H s->O6 x v->O6 y u->r x y H Q->
  SF z false v u=operate [v,u] (TB v u)->wpAny (model X.prog X.w) X.A (Th value z v u) (EP X pins σ Q) X.xe s
def Dj(X:Cx)(id:String)(r:V->List V->Hp->VK->Prop):Prop:=
 ∀(pins:List (Addr×Obj))(s:NY)(σ:St)(H:Hp)(x:V)(xs:List V)(v:NU)(us:List NU)(Q:VK),Inv X pins σ H s->O6 x v->bT xs us->r x xs H Q->
  wpAny (model X.prog X.w) X.A (call (.builtin id) (v::us)) (EP X pins σ Q) X.xe s
section
variable{X:Cx}{a b:OH}{ta tb:TE}{pos:Q2}
theorem AJ{r:R2}(z:Iu X r)(ha:PE X a ta)(hb:PE X b tb)(hs:AI b):PE X (.Subscript a b pos) (y_ r ta tb):=by
 intro pins s σ H Q I h;exact UG (GL ha hb I h fun v u F x y H2 J L M q=>z a b pins F σ H2 x y v u Q J L M q (hs _ _))
def xK(K:PySem.W.Frag):R2:=fun x y H Q=>∃p xs i v,x=.ref p/\y=.int i/\aI K H p xs/\AG xs i=some v/\Q v H
def IQ(K:PySem.W.Frag):R2:=fun x y H Q=>∃p xs i v,x=.ref p/\y=.int i/\gI K H p xs/\AG xs i=some v/\Q v H
def EU:R2:=fun x y H Q=>∃z i c,x=.str z/\y=.int i/\z.length<=sizeLine/\AG z.cps.toList i=some c/\Q (.str ⟨#[c]⟩) H
theorem ay:Iu X (xK X.K):=by
 intro value F pins s σ H x y v u Q I S Y h hs;obtain⟨p,xs,i,z,rfl,rfl,Z,he,q⟩:=h;cases S;obtain⟨t,rfl⟩:=Y;obtain⟨its,r,pl,hz⟩:=I.list Z;obtain⟨j,h1,h2,h3,h4,h5⟩:=wn he;obtain⟨w,M,J⟩:=r.get h2;have hl:=r.length;have hn:=pq;have fin:EP X pins σ Q w s:=⟨z,H,I,J,q⟩;by_cases O:0<=i
 ·have L:i.toNat=j:=by
   rw[Um O h5] at h1;exact N6.inj h1
  exact item_listR pl.isList O (by lia) (by rw[L];simpa using M) fin hs
 ·have L:(i+(its.toArray.size:Int)).toNat=j:=by
   rw[TC (by lia) h4] at h1;rw[Ow,<-hl];exact N6.inj h1
  exact Sj (x:=w) pl.isList.typeIs TD.lookup
   (wpAny_getItem_list_neg (Q:=fun r s'=>r=w/\EP X pins σ Q r s') pl.isList (by lia) (by rw[Ow]<;>lia) (by lia) (by rw[L];simpa using M) ⟨rfl,fin⟩) hs
theorem gX:Iu X (IQ X.K):=by
 intro value F pins s σ H x y v u Q I L M h hs;obtain⟨p,xs,i,z,rfl,rfl,O,he,q⟩:=h;cases L;obtain⟨t,rfl⟩:=M;obtain⟨its,r,pl,Y⟩:=I.tuple O;obtain⟨j,h1,h2,Z,h4,h5⟩:=wn he;obtain⟨w,S,J⟩:=r.get h2;have hl:=r.length;have hn:=pq;have fin:EP X pins σ Q w s:=⟨z,H,I,J,q⟩
 exact Sj (x:=w) pl.typeIs slot_tuple_getitem.lookup
  (getItem_tuple (j:=j) (Q:=fun r s'=>r=w/\EP X pins σ Q r s') pl (by lia) (by lia) (by rw[Ow,<-hl];exact h1) (by simpa using S) ⟨rfl,fin⟩) hs
theorem wq:Iu X EU:=by
 intro value F pins s σ H x y v u Q I J L h hs;obtain⟨z,i,c,rfl,rfl,Z,he,q⟩:=h;obtain⟨t,rfl⟩:=J;obtain⟨t',rfl⟩:=L;obtain⟨j,h1,h2,h3,M,O⟩:=wn he;have hl:z.cps.toList.length=z.length:=by simp[N_.length]
 rw[hl] at h1 M O;have hn:=pq
 exact tail_any (QZ s z t) slot_str_getitem.lookup (getItem_str (c:=c) (by
  have S:decide (i < -(2 ^ 63:Int))=false:=decide_eq_false (by lia);have Y:decide (i>=2 ^ 63)=false:=decide_eq_false (by lia);rw[S,Y,U9]) (by rw[h1];simpa using h2) ⟨.str ⟨#[c]⟩,H,I.tok _,⟨_,rfl⟩,q⟩) hs
theorem zq(its:List NU)(n j:Nat)(u:NU):Obj.mapSeq (·.setIfInBounds j u) {cls:=.type "list",data:=.seq its.toArray n}={cls:=.type "list",data:=.seq (its.set j u).toArray n}:=by
 simp[Obj.mapSeq]
theorem Inv.lst{pins:List (Addr×Obj)}{σ:St}{H:Hp}{s:NY}{p:Addr}{xs:List V}(I:Inv X pins σ H s)(h:H p=some (.lst xs)):
  ∃(its:List NU)(n:Nat),bT xs its/\s.heap.get? p=some {cls:=.type "list",data:=.seq its.toArray n}/\xs.length<=sizeLine:=by
 obtain⟨z,its,n,r,e⟩:=I.hok p _ h;exact⟨its,n,r,e,z⟩
theorem Inv.lstUpd{pins:List (Addr×Obj)}{σ:St}{H:Hp}{s:NY}{p:Addr}{xs ys:List V}{its its':List NU}{n z:Nat}{f:Obj->Obj}(I:Inv X pins σ H s)(h:H p=some (.lst xs))(J:s.heap.get? p=some {cls:=.type "list",data:=.seq its.toArray n})(F:f {cls:=.type "list",data:=.seq its.toArray n}={cls:=.type "list",data:=.seq its'.toArray z})(r:bT ys its')(L:ys.length<=sizeLine)(t:Nat):
  Inv X pins σ (upd H p (.lst ys)) {s with heap:=s.heap.update p f,toks:=t}:=by
 have e:(s.heap.update p f).get? p=some {cls:=.type "list",data:=.seq its'.toArray z}:=by
  rw[Heap.get?_update_self f J (by rw[F]<;>rfl),F]
 refine I.write (x:=p) (e:=p) (by rw[h];trivial) (.inl rfl) (fun b u hb q=>(Heap.get?_update_other _ _ (Ne.symm hb)).trans q) ⟨_,e⟩ ?_;exact⟨L,its',z,r,e⟩
def F_:V->V->V->Hp->(Hp->Prop)->Prop:=fun o i v H Q=>∃p xs k j,o=.ref p/\i=.int k/\H p=some (.lst xs)/\ET xs.length k=some j/\Q (upd H p (.lst (xs.set j v)))
theorem Dk:ID X F_:=by
 intro pins s σ H o i v ov iv u Q I ro Y Z h;obtain⟨p,xs,k,j,rfl,rfl,J,hj,q⟩:=h;cases ro;obtain⟨t,rfl⟩:=Y;obtain⟨its,n,r,z,hz⟩:=I.lst J;obtain⟨h1,h2,L,M⟩:=AH hj;have hl:=r.length;have hn:=pq
 have O:Inv X pins σ (upd H p (.lst (xs.set j v))) {s with heap:=s.heap.update p (Obj.mapSeq (·.setIfInBounds j u))}:=
  I.lstUpd J z (zq its n j u) (r.set Z j) (by rw[UH];exact hz) s.toks
 by_cases S:0<=k
 ·have F:k.toNat=j:=by
   rw[Um S M] at h1;exact N6.inj h1
  exact PySem.W.ki_setAt z S (by lia) (by rw[Ow,<-hl];exact M) (by rw[F];exact⟨_,O,q⟩)
 ·have F:(k+(its.toArray.size:Int)).toNat=j:=by
   rw[TC (by lia) L] at h1;rw[Ow,<-hl];exact N6.inj h1
  exact PySem.W.ki_setBack z (by lia) (by rw[Ow,<-hl];exact L) (by lia) (by rw[F];exact⟨_,O,q⟩)
theorem wr(lo hi:Option Int)(n:Nat):(Q6 lo hi none n).1=((HT.sIx n 0 lo:Nat):Int)/\(Q6 lo hi none n).2.1=((HT.sIx n n hi:Nat):Int)/\(Q6 lo hi none n).2.2=1:=by
 refine⟨?_,?_,rfl⟩
 ·cases lo with
  |none=>simp[Q6,HT.sIx]
  |some i=>
   simp only[Q6,HT.sIx,Ua,show(1:Int)>0 by decide,if_true];by_cases h:i<0
   ·simp only[h,if_true]<;>lia
   ·simp only[h,if_false]<;>lia
 ·cases hi with
  |none=>simp[Q6,HT.sIx]
  |some i=>
   simp only[Q6,HT.sIx,Ua,show(1:Int)>0 by decide,if_true];by_cases h:i<0
   ·simp only[h,if_true]<;>lia
   ·simp only[h,if_false]<;>lia
theorem ux(its:List NU)(lo hi:Option Int):slicePick its.toArray lo hi none=((its.drop (HT.sIx its.length 0 lo)).take (HT.sIx its.length its.length hi-HT.sIx its.length 0 lo)).toArray:=by
 obtain⟨h1,h2,z⟩:=wr lo hi its.toArray.size;unfold slicePick;rw[h1,h2,z];simp only[sliceRange_one,pick_run,Ow]<;>rfl
def GP(K:PySem.W.Frag):V->Option Int->Option Int->Hp->VK->Prop:=fun x lo hi H Q=>∃a xs,x=.ref a/\aI K H a xs/\∀p,H p=none->Q (.ref p) (upd H p (.lst (kS xs lo hi)))
theorem gn:JR X (GP X.K):=by
 intro pins s σ H x v vl S lo hi Y Q I J hs pl L h;obtain⟨a,xs,rfl,M,q⟩:=h;cases J;obtain⟨its,r,F,O⟩:=I.list M;have z:=r.length;refine⟨"list",_,TD.lookup,F.isList.typeIs,?_⟩;refine wpAny_getItem_list_slice F.isList hs pl L .none (by simp) ?_ (by rw[Ow]<;>lia);rw[ux,<-z];refine⟨.ref s.heap.objs.size,_,I.laid (t':=s.toks) (o:=.lst (kS xs lo hi)) (fun b Z q=>Heap.get?_push_of_some _ q) (NX _) ?_,rfl,q _ (I.hok.fresh (NX _))⟩;exact⟨Od (xJ xs lo hi) O,_,0,(r.drop (HT.sIx xs.length 0 lo)).take (HT.sIx xs.length xs.length hi-HT.sIx xs.length 0 lo),Heap.get?_push_size _ rfl⟩
def mF:V->Bool
 |.non=>true
 |.bl _=>true
 |.int _=>true
 |.str _=>true
 |_=>false
def Ga:V->V->Bool
 |.non,.non=>true
 |.bl a,.bl b=>a==b
 |.bl a,.int b=>(if a then 1 else 0)==b
 |.int a,.bl b=>a==(if b then 1 else 0)
 |.int a,.int b=>a==b
 |.str a,.str b=>a==b
 |_,_=>false
theorem GQ{A:OG}{s:NY}{y x:V}{u v:NU}(F:O6 y u)(z:O6 x v)(J:mF y=true)(I:mF x=true):SeqAt.EqAt A s u v (Ga y x):=by
 cases y with
 |non=>
  cases F;cases x with
  |non=>cases z;exact SeqAt.EqAt.same _
  |bl b=>cases z;exact SeqAt.EqAt.none_bool b
  |int b=>obtain⟨t,rfl⟩:=z;exact SeqAt.EqAt.none_int b t
  |str b=>obtain⟨t,rfl⟩:=z;exact SeqAt.EqAt.none_str b t
  |_=>exact absurd (show false=true from I) N2
 |bl a=>
  cases F;cases x with
  |non=>cases z;exact SeqAt.EqAt.bool_none a
  |bl b=>cases z;exact SeqAt.EqAt.bool_bool a b
  |int b=>obtain⟨t,rfl⟩:=z;exact SeqAt.EqAt.bool_int a b t
  |str b=>obtain⟨t,rfl⟩:=z;exact SeqAt.EqAt.bool_str a b t
  |_=>exact absurd (show false=true from I) N2
 |int a=>
  obtain⟨t',rfl⟩:=F;cases x with
  |non=>cases z;exact SeqAt.EqAt.int_none a t'
  |bl b=>cases z;exact SeqAt.EqAt.int_bool a t' b
  |int b=>obtain⟨t,rfl⟩:=z;exact SeqAt.EqAt.int_int a t' b t
  |str b=>obtain⟨t,rfl⟩:=z;exact SeqAt.EqAt.int_str a t' b t
  |_=>exact absurd (show false=true from I) N2
 |str a=>
  obtain⟨t',rfl⟩:=F;cases x with
  |non=>cases z;exact SeqAt.EqAt.str_none a t'
  |bl b=>cases z;exact SeqAt.EqAt.str_bool a t' b
  |int b=>obtain⟨t,rfl⟩:=z;exact SeqAt.EqAt.str_int a t' b t
  |str b=>obtain⟨t,rfl⟩:=z;exact SeqAt.EqAt.str_str a t' b t
  |_=>exact absurd (show false=true from I) N2
 |_=>exact absurd (show false=true from J) N2
def zt(x:V)(u:NU):Bool:=match u with
 |.none=>Ga .non x
 |.bool b=>Ga (.bl b) x
 |.int i _=>Ga (.int i) x
 |.str z _=>Ga (.str z) x
 |_=>false
theorem Dl{x y:V}{u:NU}(r:O6 y u)(f:mF y=true):zt x u=Ga y x:=by
 cases y with
 |non=>cases r;rfl
 |bl b=>cases r;rfl
 |int i=>obtain⟨t,rfl⟩:=r;rfl
 |str z=>obtain⟨t,rfl⟩:=r;rfl
 |_=>exact absurd (show false=true from f) N2
theorem nT{x:V}:∀{xs:List V}{us:List NU},bT xs us->xs.all mF=true->us.any (zt x)=xs.any fun y=>Ga y x
 |_,_,.nil,_=>rfl
 |y::xs,u::us,.cons r t,f=>by
  rw[Qc,NW] at f;rw[QQ,QQ,Dl r f.1,nT t f.2]
theorem kU{A:OG}{s:NY}{x:V}{v:NU}(F:O6 x v)(I:mF x=true):∀{xs:List V}{us:List NU},bT xs us->xs.all mF=true->∀u∈us,SeqAt.EqAt A s u v (zt x u)
 |_,_,.nil,_=>fun u z=>by cases z
 |y::xs,u::us,.cons r t,f=>fun u' z=>by
  rw[Qc,NW] at f;rcases Og.mp z with rfl|z
  ·rw[Dl r f.1];exact GQ r F f.1 I
  ·exact kU F I t f.2 u' z
def EV(x:V)(xs:List V):Bool:=xs.any fun y=>Ga y x
def JS(K:PySem.W.Frag)(neg:Bool):R2:=fun x y H Q=>∃p xs,y=.ref p/\(aI K H p xs\/gI K H p xs)/\mF x=true/\xs.all mF=true/\Q (.bl (if neg then !EV x xs else EV x xs)) H
theorem BG:ng X (O2 .In) (JS X.K false):=by
 intro pins s σ H x y v u Q I J M h;obtain⟨p,xs,rfl,z,L,fs,q⟩:=h;cases M;rcases z with z|z
 ·obtain⟨its,r,pl,O⟩:=I.list z;refine SeqAt.in_listAt (zt x) pl.isList (fun w F=>kU J L r fs w (by simpa using F)) ⟨.bl _,H,I,rfl,?_⟩;rw[show its.toArray.any (zt x)=its.any (zt x) by simp,nT r fs];exact q
 ·obtain⟨its,r,pl,O⟩:=I.tuple z;refine SeqAt.in_tupleAt (zt x) pl (fun w F=>kU J L r fs w (by simpa using F)) ⟨.bl _,H,I,rfl,?_⟩;rw[show its.toArray.any (zt x)=its.any (zt x) by simp,nT r fs];exact q
theorem nV:ng X (O2 .NotIn) (JS X.K true):=by
 intro pins s σ H x y v u Q I J M h;obtain⟨p,xs,rfl,z,L,fs,q⟩:=h;cases M;rcases z with z|z
 ·obtain⟨its,r,pl,O⟩:=I.list z;refine SeqAt.notIn_listAt (zt x) pl.isList (fun w F=>kU J L r fs w (by simpa using F)) ⟨.bl _,H,I,rfl,?_⟩;rw[show its.toArray.any (zt x)=its.any (zt x) by simp,nT r fs];exact q
 ·obtain⟨its,r,pl,O⟩:=I.tuple z;refine SeqAt.notIn_tupleAt (zt x) pl (fun w F=>kU J L r fs w (by simpa using F)) ⟨.bl _,H,I,rfl,?_⟩;rw[show its.toArray.any (zt x)=its.any (zt x) by simp,nT r fs];exact q
theorem aB:g8 X (.builtin "len") (fun xs H Q=>∃p ys,xs=[.ref p]/\(aI X.K H p ys\/gI X.K H p ys)/\Q (.int ys.length) H):=by
 intro pins s σ H xs us Q I r h;obtain⟨p,ys,rfl,F,q⟩:=h;obtain⟨u,rfl,J⟩:=Vv r;cases J;have M:=pq;rcases F with F|F
 ·obtain⟨its,r',pl,L⟩:=I.list F;have z:=r'.length;exact Calls.call_len_list pl.isList (by simp only[Ow]<;>lia) ⟨.int ys.length,H,I.tok _,⟨s.toks+1,by rw[Ow,z]⟩,q⟩
 ·obtain⟨its,r',pl,L⟩:=I.tuple F;have z:=r'.length;exact len_tuple pl (by simp only[Ow]<;>lia) ⟨.int ys.length,H,I.tok _,⟨s.toks+1,by rw[Ow,z]⟩,q⟩
theorem jP:g8 X (.builtin "len") (fun xs H Q=>∃z,xs=[.str z]/\z.length<=sizeLine/\Q (.int z.length) H):=by
 intro pins s σ H xs us Q I r h;obtain⟨z,rfl,F,q⟩:=h;obtain⟨u,rfl,t,rfl⟩:=Vv r;have J:=pq;exact len_str (by lia) ⟨.int z.length,H,I.tok _,⟨_,rfl⟩,q⟩
theorem jQ:g8 X (.type "list") (fun xs H Q=>∃p ys,xs=[.ref p]/\(aI X.K H p ys\/gI X.K H p ys)/\∀l,H l=none->Q (.ref l) (upd H l (.lst ys))):=by
 intro pins s σ H xs us Q I r h;obtain⟨p,ys,rfl,F,q⟩:=h;obtain⟨u,rfl,S⟩:=Vv r;cases S
 have fin:∀(its:List NU),bT ys its->ys.length<=sizeLine->∀(h':Heap)(z:Nat),(∀b o',s.heap.get? b=some o'->h'.get? b=some o')->
   h'.get? s.heap.objs.size=some {cls:=.type "list",dict:=none,data:=.seq its.toArray z,slots:=#[]}->EP X pins σ Q (.ref s.heap.objs.size) {s with heap:=h'}:=fun its r' J h' z kp e=>
  ⟨.ref s.heap.objs.size,_,I.laid (t':=s.toks) kp (NX _) (show eY X.prog X.w _ h' _ (.lst ys) from⟨J,its,z,r',e⟩),rfl,q _ (I.hok.fresh (NX _))⟩
 rcases F with F|F
 ·obtain⟨its,r',pl,J⟩:=I.list F;have L:=r'.length;obtain⟨o,M,O,n,hd⟩:=pl.isList;exact call_list_seq p (.inl rfl) M O hd (fun h' z kp e=>fin its r' J h' z kp e) (by simp only[Ow]<;>lia)
 ·obtain⟨its,r',pl,J⟩:=I.tuple F;have L:=r'.length;obtain⟨o,M,O,n,hd⟩:=pl;exact call_list_seq p (.inr rfl) M O hd (fun h' z kp e=>fin its r' J h' z kp e) (by simp only[Ow]<;>lia)
def IR(K:PySem.W.Frag)(T:String)(x:V)(H:Hp):Prop:=match x with
 |.str _=>T="str"
 |.int _=>T="int"
 |.ref p=>(T="list"/\∃xs,aI K H p xs)\/(T="tuple"/\∃o,K.lookup p=some o/\o.cls=.type "tuple"/\o.dict=none)\/
   (T="dict"/\((∃kvs,H p=some (.dK kvs))\/∃kvs,H p=some (.dT kvs)))\/(T="set"/\∃S n,H p=some (.set S n))
 |_=>False
theorem GR{pins:List (Addr×Obj)}{σ:St}{H:Hp}{s:NY}{T:String}{x:V}{v:NU}(I:Inv X pins σ H s)(r:O6 x v)(ty:IR X.K T x H):
  s.TypeIs v T/\∀a,v=.ref a->∃L,s.heap.get? a=some L/\L.dict=none:=by
 cases x with
 |str z=>
  obtain⟨t,rfl⟩:=r;cases (show T="str" from ty);exact⟨QZ s z t,fun _ e=>nomatch e⟩
 |int i=>
  obtain⟨t,rfl⟩:=r;cases (show T="int" from ty);exact⟨UI s i t,fun _ e=>nomatch e⟩
 |ref p=>
  cases r;rcases ty with⟨rfl,xs,M⟩|⟨rfl,o,F,O,hd⟩|⟨rfl,F⟩|⟨rfl,S,n,F⟩
  ·obtain⟨its,_,pl,_⟩:=I.list M;refine⟨pl.isList.typeIs,fun a e=>?_⟩;cases e;obtain⟨o,n,e,c,hd,_⟩:=pl;exact⟨o,e,hd⟩
  ·refine⟨⟨o,I.kIn p o F,O⟩,fun a e=>?_⟩;cases e;exact⟨o,I.kIn _ o F,hd⟩
  ·have z:∃o,s.heap.get? p=some o/\o.ExactDict:=by
    rcases F with⟨kvs,F⟩|⟨kvs,F⟩
    ·obtain⟨_,_,_,_,o,_,_,e,ex,_⟩:=I.hok p _ F;exact⟨o,e,ex⟩
    ·obtain⟨_,_,_,_,o,_,_,e,ex,_⟩:=I.hok p _ F;exact⟨o,e,ex⟩
   obtain⟨o,e,ex⟩:=z;refine⟨⟨o,e,ex.1⟩,fun a J=>?_⟩;cases J;exact⟨o,e,ex.2.1⟩
  ·obtain⟨o,_,_,_,e,ex,_⟩:=I.hok p _ F;refine⟨⟨o,e,ex.1⟩,fun a J=>?_⟩;cases J;exact⟨o,e,ex.2.1⟩
 |_=>exact False.elim ty
def IS(K:PySem.W.Frag)(T:String)(r:V->List V->Hp->VK->Prop)(to:TE)(t:TA):TE:=fun σ H Q=>to σ H fun x H1=>IR K T x H1/\t σ H1 fun xs H2=>r x xs H2 Q
variable{o e:OH}{es:List OH}{to:TE}{t:TA}{name:N_}{apos cpos:Q2}{T id:String}{r:V->List V->Hp->VK->Prop}
theorem gh(Y:PlainAttrs T)(slot:Slot T name id)(L:typeOf (.builtin id)=pure (.type "method_descriptor"))(Z:Dj X id r)(ho:PE X o to)(ha:PA X (e::es) t)(z:PD o name X.env (eval o X.env)=eval o X.env:=by rfl)(J:((backTo cpos (starEach (e::es) X.env)).all (fun x=>!x.1)&&(SD cpos (Ru [] X.env)).all (fun x=>x.1.isSome)
   &&decide ((e::es).length+([]:List Vp).length+(if ([]:List Vp).isEmpty then 0 else 1)<30))=true:=by rfl)(F:(apos.endLine==cpos.line)=true:=by rfl)(hs:starEach (e::es) X.env=(false,eval e X.env)::starEach es X.env:=by rfl)(hplain:(backTo cpos (starEach es X.env)).any (·.1)=false:=by rfl):
  PE X (.Call (.Attribute o name apos) (e::es) [] cpos) (IS X.K T r to t):=by
 intro pins s σ H Q I h;refine wpAny_Call_method_late z J F rfl (dQ (ho pins s σ H _ I h) fun v s1 ⟨x,H1,M,O,ty,q1⟩=>?_);obtain⟨h1,h2⟩:=GR M O ty;refine⟨T,id,Y,slot,L,h1,h2,?_⟩;have S:=ha cpos pins s1 σ H1 _ M q1;rw[hs] at S ⊢;refine Calls.callWith_builtin (by show(false||(backTo cpos (starEach es X.env)).any (·.1))=false;rw[hplain]<;>rfl) (Calls.evalArgs_plain ?_);exact dQ S fun us s2 ⟨vs,H2,I2,r2,q2⟩=>Z pins s2 σ H2 x vs v us Q I2 O r2 q2
end
end L2
namespace L2
open PySem PySem.Spec PyProof.Rows
def JT(X:Cx)(id:String)(r:V->List V->Hp->VK->Prop):Prop:=
 ∀(pins:List (Addr×Obj))(s:NY)(σ:St)(H:Hp)(x:V)(xs:List V)(v:NU)(us:List NU)(Q:VK),Inv X pins σ H s->O6 x v->bT xs us->r x xs H Q->
  wpAny (model X.prog X.w) X.A (call (.builtin id) (v::us)) (EP X pins σ Q) X.xe s
theorem bT.one{x:V}{us:List NU}(h:bT [x] us):∃u,us=[u]/\O6 x u:=by
 cases h with|cons r z=>cases z;exact⟨_,rfl,r⟩
theorem bT.rep{xs:List V}{us:List NU}(h:bT xs us):∀k:Nat,bT (N7 k xs).flatten (N7 k us).flatten
 |0=>.nil
 |k+1=>by
  rw[QF,QF,QJ,QJ];exact bT.append h (bT.rep h k)
theorem Vh(its:List NU):∀(k:Nat)(acc:List NU),
  UJ (fun z F=>z++F) acc.toArray (N7 k its.toArray)=(acc++(N7 k its).flatten).toArray
 |0,acc=>by simp
 |k+1,acc=>by
  have e:acc.toArray++its.toArray=(acc++its).toArray:=by simp
  have I:(acc++its)++(N7 k its).flatten=acc++(N7 (k+1) its).flatten:=by
   rw[QF,QJ,Oz]
  rw[<-I,<-Vh its k (acc++its),<-e,QF,UK]
section
variable{X:Cx}{pins:List (Addr×Obj)}{σ:St}{H:Hp}{s:NY}{l b:Addr}{xs ys zs:List V}
theorem Inv.lset{its its':List NU}{n:Nat}{f:Array NU->Array NU}{t':Nat}(I:Inv X pins σ H s)(z:H l=some (.lst xs))(e:s.heap.get? l=some {cls:=.type "list",data:=.seq its.toArray n})(F:f its.toArray=its'.toArray)(hv:bT ys its')(J:ys.length<=sizeLine):
  Inv X pins σ (upd H l (.lst ys)) {s with heap:=s.heap.update l (Obj.mapSeq f),toks:=t'}:=by
 have q:=PySem.IsL.update e f;rw[F] at q;refine I.write (x:=l) (e:=l) (by rw[z];exact trivial) (.inl rfl) (fun M u hb L=>(Heap.get?_update_other s.heap (Obj.mapSeq f) (Ne.symm hb)).trans L) ⟨_,q⟩ ?_;exact⟨J,its',_,hv,q⟩
theorem Inv.lnew{its:List NU}{t':Nat}(I:Inv X pins σ H s)(hv:bT ys its)(z:ys.length<=sizeLine):
  Inv X pins σ (upd H s.heap.objs.size (.lst ys)) {s with heap:=s.heap.push {cls:=.type "list",data:=.seq its.toArray},toks:=t'}:=
 I.laid (fun _ _ q=>Heap.get?_push_of_some _ q) (NX _) ⟨z,its,0,hv,Heap.get?_push_size _ rfl⟩
theorem Inv.fresh(I:Inv X pins σ H s):H s.heap.objs.size=none:=I.hok.fresh (NX _)
theorem Inv.lstM(I:Inv X pins σ H s)(F:H l=some (.lst xs)):xs.length<=sizeLine/\∃(its:List NU)(n:Nat),bT xs its/\xs.length=its.length/\s.heap.get? l=some {cls:=.type "list",data:=.seq its.toArray n}:=by
 obtain⟨z,its,n,r,e⟩:=I.hok l _ F;exact⟨z,its,n,r,r.length,e⟩
theorem xL{n:Nat}(h:n<=sizeLine):Ox.List.listTooLong n=false:=by
 unfold Ox.List.listTooLong;exact decide_eq_false (by lia)
end
section
variable{X:Cx}
def nW:V->List V->Hp->VK->Prop:=fun x vs H Q=>∃l xs y,x=.ref l/\vs=[y]/\H l=some (.lst xs)/\xs.length<sizeLine/\Q .non (upd H l (.lst (xs++[y])))
theorem eX:JT X "list.append" nW:=by
 intro pins s σ H x vs v us Q I L M h;obtain⟨l,xs,y,rfl,rfl,J,S,q⟩:=h;cases L;obtain⟨u,rfl,O⟩:=M.one;obtain⟨z,its,n,r,hl,e⟩:=I.lstM J;refine Q0 F.slot_list_append ⟨_,e,rfl⟩ F.entry_list_append (F.args_list_append_2 _ _) (PySem.list_append l its.toArray n u (by rw[Ow];lia)) ⟨e,?_⟩;refine⟨.non,_,I.lset (its':=its++[u]) J e (by simp) (r.append (.cons O .nil)) ?_,rfl,q⟩;rw[Of,length_singleton];lia
def AK:V->List V->Hp->VK->Prop:=fun x vs H Q=>∃l b xs zs,x=.ref l/\vs=[.ref b]/\H l=some (.lst xs)/\H b=some (.lst zs)/\xs.length+zs.length<=sizeLine/\Q .non (upd H l (.lst (xs++zs)))
theorem gv:JT X "list.extend" AK:=by
 intro pins s σ H x vs v us Q I O S h;obtain⟨l,b,xs,zs,rfl,rfl,M,Y,hz,q⟩:=h;cases O;obtain⟨u,rfl,Z⟩:=S.one;cases Z;obtain⟨z,its,n,r,hl,e⟩:=I.lstM M;obtain⟨z2,J,n2,r2,al,e2⟩:=I.lstM Y;have hsz:its.toArray.size+J.toArray.size<=sizeLine:=by rw[Ow,Ow];lia
 have L:¬(!its.toArray.isEmpty&&Ox.List.listTooLong (its.toArray.size+J.toArray.size))=true:=by
  rw[xL hsz,RN];exact N2
 refine Q0 F.slot_list_extend ⟨_,e,rfl⟩ F.entry_list_extend (F.args_list_extend_2 _ _)
  (AutoSeq1.list_extend_list_list_0 l its.toArray n b J.toArray n2 L (by rw[Ow];lia) (by lia)) ⟨e,e2,?_⟩
 refine⟨.non,_,I.lset (its':=its++J) M e (by simp) (r.append r2) ?_,rfl,q⟩;rw[Of];lia
def IT:R2:=fun x y H Q=>∃l b xs zs,x=.ref l/\y=.ref b/\H l=some (.lst xs)/\H b=some (.lst zs)/\xs.length+zs.length<=sizeLine/\∀p,H p=none->Q (.ref p) (upd H p (.lst (xs++zs)))
theorem iD:ng X (RK .Add) IT:=by
 intro pins s σ H x y v u Q I J L h;obtain⟨l,b,xs,zs,rfl,rfl,M,O,hz,q⟩:=h;cases J;cases L;obtain⟨z,its,n,r,hl,e⟩:=I.lstM M;obtain⟨z2,F,n2,S,Y,Z⟩:=I.lstM O;refine PySem.P.add_list e Z ?_ (by rw[Ow,Ow];lia);have ea:its.toArray++F.toArray=(its++F).toArray:=by simp
 rw[ea];exact⟨.ref _,_,I.lnew (t':=s.toks) (r.append S) (by rw[Of];lia),rfl,q _ I.fresh⟩
def IU:R2:=fun x y H Q=>∃l k xs,x=.ref l/\y=.int k/\H l=some (.lst xs)/\-(2 ^ 63)<=k/\k<2 ^ 63/\xs.length*k.toNat<=sizeLine/\
 ∀p,H p=none->Q (.ref p) (upd H p (.lst (N7 k.toNat xs).flatten))
theorem EW{α:Type}(xs:List α)(k:Nat):(N7 k xs).flatten.length=k*xs.length:=by
 induction k with
 |zero=>simp
 |succ k z=>rw[QF,QJ,Of,z,Nat.succ_mul,Sk]
theorem pz:ng X (RK .Mult) IU:=by
 intro pins s σ H x y v u Q I rx ry h;obtain⟨l,k,xs,rfl,rfl,hH,h1,h2,hz,q⟩:=h;cases rx;obtain⟨t,rfl⟩:=ry;obtain⟨z,its,n,r,hl,e⟩:=I.lstM hH;have L:its.toArray.size*k.toNat<=sizeLine:=by rw[Ow,<-hl];exact hz
 have M:¬its.toArray.size*k.toNat>(2 ^ 63-1)/8:=by
  have:(sizeLine:Nat)<=(2 ^ 63-1)/8:=by decide
  lia
 have O:¬(!Ox.List.listFitsIndex k)=true:=by
  rw[fitsIndex_both h1 h2];exact N2
 have J:¬Ox.List.listTooLong (its.toArray.size*k.toNat)=true:=by
  rw[xL L];exact N2
 have S:UJ (fun Y Z=>Y++Z) #[] (N7 (if its.toArray.isEmpty=true then 0 else k.toNat) its.toArray)=(N7 k.toNat its).flatten.toArray:=by
  have f0:∀m:Nat,UJ (fun Y Z=>Y++Z) #[] (N7 m its.toArray)=(N7 m its).flatten.toArray:=fun m=>by
   have:=Vh its m [];rw[Pd] at this;exact this
  rw[f0];cases its with
  |nil=>simp
  |cons a r'=>rw[if_neg (by simp)]
 refine wpAny_binaryOp_repeat_ref (T:="list") (U:="int") (by decide) ⟨_,e,rfl⟩ (fun s'=>UI s' k t) noFill_list_mul F.fills_int_mul F.slot_int_rmul repeat_list F.slot_int_index.lookup
  (Q0 F.slot_int_rmul (UI s k t) F.entry_int_rmul (F.args_int_rmul_2 _ _) (int___rmul___int_list k t l its.toArray n)
   ⟨e,rfl,⟨_,e,rfl⟩,Q0 F.slot_list_mul ⟨_,e,rfl⟩ F.entry_list_mul (F.args_list_mul_2 _ _) (AutoListH.list___mul___list_int_3 l its.toArray n k t O M J) ⟨e,?_⟩⟩)
 rw[S];exact⟨.ref _,_,I.lnew (t':=s.toks) (r.rep k.toNat) (by rw[EW,TF];exact hz),rfl,q _ I.fresh⟩
end
section
variable{prog:N3}{w:Oh}{A:OG}{E:NU->NY->Prop}{s:NY}
end
section
variable{X:Cx}
end
end L2
namespace L2
open PySem PySem.Spec PyProof.Rows
theorem bT.ints:∀{ns:List Int}{us:List NU},bT (ns.map V.int) us->TH us ns
 |[],us,h=>by
  rw[QC] at h;cases h;exact TH.nil
 |n::ns,us,h=>by
  rw[Oo] at h;cases h with
  |cons r t=>
   obtain⟨k,rfl⟩:=r;exact TH.cons n k (bT.ints t)
theorem bT.bls:∀{bs:List Bool}{us:List NU},bT (bs.map V.bl) us->us=bs.map NU.bool
 |[],us,h=>by
  rw[QC] at h;cases h;rfl
 |b::bs,us,h=>by
  rw[Oo] at h;cases h with
  |cons r t=>
   cases r;rw[bT.bls t,Oo]
theorem bT.ref1{a:Addr}{us:List NU}(r:bT [V.ref a] us):us=[NU.ref a]:=by
 cases r with
 |cons r t=>
  cases t;cases r;rfl
section
variable{prog:N3}{w:Oh}{A:OG}{E:NU->NY->Prop}{s:NY}{l:Addr}{its:List NU}{ns:List Int}{Q:NU->NY->Prop}
theorem EX(F:A.handled=none)(hl:s.heap.IsList l its.toArray)(hi:TH its ns)(h:∀h' tk t',(∀b o,s.heap.get? b=some o->h'.get? b=some o)->Q (.int ns.sum t') {s with heap:=h',toks:=tk}):wpAny (model prog w) A (call (.builtin "sum") [.ref l]) Q E s:=by
 obtain⟨xs,e⟩:=hi.allInts.items;have z:numsOf (Vx xs).toList=ns:=by rw[<-e];exact hi.numsOf
 rw[Ti] at z;rw[e] at hl;refine PySem.sum_intListG F hl fun h' tk t' I=>?_;have:=h h' tk t' I;rw[preSum_eq,OD (by simp),z];exact this
theorem EY(I:A.handled=none)(hl:s.heap.IsList l its.toArray)(hi:TH its ns)(z:0<ns.length)(h:∀h' tk M t',(∀b o,s.heap.get? b=some o->h'.get? b=some o)->M∈ns->(∀a,a∈ns->a<=M)->Q (.int M t') {s with heap:=h',toks:=tk}):wpAny (model prog w) A (call (.builtin "max") [.ref l]) Q E s:=by
 obtain⟨xs,e⟩:=hi.allInts.items;have F:numsOf (Vx xs).toList=ns:=by rw[<-e];exact hi.numsOf
 rw[Ti] at F;subst F;rw[e] at hl;have hsz:0<xs.size:=by simpa using z
 refine PySem.max_intList I hl hsz fun v h' tk hv J=>?_;obtain⟨t,rfl⟩:=intItems_at hv;obtain⟨h1,h2⟩:=argBest_gt (numAt xs) (xs.size-1);refine h h' tk _ t J ?_ fun a ha=>?_
 ·rw[UL];exact PySem.getD_mem (by rw[NV,Array.length_toList];lia)
 ·obtain⟨j,L,rfl⟩:=mem_getD ha;rw[NV,Array.length_toList] at L;rw[<-UL];exact h2 j (by lia)
theorem EZ(I:A.handled=none)(hl:s.heap.IsList l its.toArray)(hi:TH its ns)(z:0<ns.length)(h:∀h' tk M t',(∀b o,s.heap.get? b=some o->h'.get? b=some o)->M∈ns->(∀a,a∈ns->M<=a)->Q (.int M t') {s with heap:=h',toks:=tk}):wpAny (model prog w) A (call (.builtin "min") [.ref l]) Q E s:=by
 obtain⟨xs,e⟩:=hi.allInts.items;have F:numsOf (Vx xs).toList=ns:=by rw[<-e];exact hi.numsOf
 rw[Ti] at F;subst F;rw[e] at hl;have hsz:0<xs.size:=by simpa using z
 refine PySem.min_intList I hl hsz fun v h' tk hv J=>?_;obtain⟨t,rfl⟩:=intItems_at hv;obtain⟨h1,h2⟩:=argBest_lt (numAt xs) (xs.size-1);refine h h' tk _ t J ?_ fun a ha=>?_
 ·rw[UL];exact PySem.getD_mem (by rw[NV,Array.length_toList];lia)
 ·obtain⟨j,L,rfl⟩:=mem_getD ha;rw[NV,Array.length_toList] at L;rw[<-UL];exact h2 j (by lia)
end
section
variable{X:Cx}
def IV(K:PySem.W.Frag):List V->Hp->VK->Prop:=fun vs H Q=>∃(a:Addr)(ns:List Int),vs=[V.ref a]/\aI K H a (ns.map V.int)/\Q (.int ns.sum) H
def IW(K:PySem.W.Frag):List V->Hp->VK->Prop:=fun vs H Q=>∃(a:Addr)(ns:List Int),vs=[V.ref a]/\aI K H a (ns.map V.int)/\0<ns.length/\∀m,m∈ns->(∀y,y∈ns->y<=m)->Q (.int m) H
def IX(K:PySem.W.Frag):List V->Hp->VK->Prop:=fun vs H Q=>∃(a:Addr)(ns:List Int),vs=[V.ref a]/\aI K H a (ns.map V.int)/\0<ns.length/\∀m,m∈ns->(∀y,y∈ns->m<=y)->Q (.int m) H
theorem wt(z:X.calm=true):g8 X (.builtin "sum") (IV X.K):=by
 intro pins s σ H vs us Q I r h;obtain⟨a,ns,rfl,hs,q⟩:=h;obtain⟨its,F,hl,_⟩:=I.list hs;rw[bT.ref1 r];exact EX (I.ok.hd z) hl.isList F.ints fun h' tk t' J=>⟨.int _,H,I.kept J,⟨_,rfl⟩,q⟩
theorem GS(F:X.calm=true):g8 X (.builtin "max") (IW X.K):=by
 intro pins s σ H vs us Q I r h;obtain⟨a,ns,rfl,hs,z,q⟩:=h;obtain⟨its,J,hl,_⟩:=I.list hs;rw[bT.ref1 r];exact EY (I.ok.hd F) hl.isList J.ints z fun h' tk m t' L h1 h2=>⟨.int _,H,I.kept L,⟨_,rfl⟩,q m h1 h2⟩
theorem Dm(F:X.calm=true):g8 X (.builtin "min") (IX X.K):=by
 intro pins s σ H vs us Q I r h;obtain⟨a,ns,rfl,hs,z,q⟩:=h;obtain⟨its,J,hl,_⟩:=I.list hs;rw[bT.ref1 r];exact EZ (I.ok.hd F) hl.isList J.ints z fun h' tk m t' L h1 h2=>⟨.int _,H,I.kept L,⟨_,rfl⟩,q m h1 h2⟩
end
section
variable{X:Cx}
end
section
variable{X:Cx}
end
theorem xM{prog:N3}{w:Oh}{A:OG}{E:NU->NY->Prop}{s:NY}{l:Addr}{items:Array NU}{Q:NU->NY->Prop}(hl:s.heap.IsList l items)(h:∀z:NY,z={s with heap:=s.heap.push {cls:=.type "list_iterator",data:=.fields #[.ref l,.int 0 0]}}->
   (z.heap.IsListIter s.heap.objs.size l 0/\z.heap.IsList l items)->l≠s.heap.objs.size->Q (.ref s.heap.objs.size) z):wpAny (model prog w) A (VE (.ref l)) Q E s:=by
 have F:l<s.heap.objs.size:=by obtain⟨_,e,_⟩:=hl;exact Heap.lt_size e
 exact RX hl (h _ rfl ⟨⟨_,Heap.get?_push_size _ rfl,rfl,rfl⟩,hl.push _⟩ (OL F))
theorem qj{prog:N3}{w:Oh}{A:OG}{bs:List Bool}{its:List NU}(e:its=bs.map NU.bool):
  TruthOf prog w A (fun i v=>its.toArray[i]?=some v) (fun i=>bs.getD i false):=fun i v s Q E hv I=>by
 have z:its[i]?=some v:=by simpa using hv
 rw[e,NZ] at z;obtain⟨b,hb,rfl⟩:=Oc.mp z;have hg:bs.getD i false=b:=by rw[OO,hb]<;>rfl
 have F:Q (bs.getD i false) s:=I;rw[hg] at F;exact O3 F
theorem Vi:∀bs:List Bool,(N0 bs.length).any (fun i=>bs.getD i false)=bs.any id
 |[]=>rfl
 |b::bs=>by
  rw[Ol,Qe,QQ,RY,QQ,<-Vi bs]
  all_goals rfl
theorem Vj:∀bs:List Bool,(N0 bs.length).all (fun i=>bs.getD i false)=bs.all id
 |[]=>rfl
 |b::bs=>by
  rw[Ol,Qe,Qc,SX,Qc,<-Vj bs]
  all_goals rfl
section
variable{X:Cx}
def IY(K:PySem.W.Frag):List V->Hp->VK->Prop:=fun vs H Q=>∃(a:Addr)(bs:List Bool),vs=[V.ref a]/\aI K H a (bs.map V.bl)/\Q (.bl (bs.any id)) H
def IZ(K:PySem.W.Frag):List V->Hp->VK->Prop:=fun vs H Q=>∃(a:Addr)(bs:List Bool),vs=[V.ref a]/\aI K H a (bs.map V.bl)/\Q (.bl (bs.all id)) H
theorem zu(L:X.calm=true):g8 X (.builtin "any") (IY X.K):=by
 intro pins s σ H vs us Q I r h;obtain⟨a,bs,rfl,hs,q⟩:=h;obtain⟨its,M,hl,_⟩:=I.list hs;rw[bT.ref1 r];have hb:=M.bls;refine call_any_walk (xM hl.isList fun Z O st F=>?_);subst O;refine⟨_,_,_,_,_,_,_,rfl,Walks.list (A:=X.A.in1) (I.ok.hd L) _ a F its.toArray,st,qj hb,fun h' tk S=>?_⟩;refine⟨.bl _,H,I.kept fun b o J=>S b o (fun z=>?_) (Heap.get?_push_of_some _ J),?_,q⟩
 ·rcases Og.mp z with Y|z
  ·exact absurd (Y ▸ Heap.lt_size J) (Pn _)
  ·cases z
 ·show NU.bool _=NU.bool _;rw[<-Vi,hb,Ow,NV]
theorem GT(L:X.calm=true):g8 X (.builtin "all") (IZ X.K):=by
 intro pins s σ H vs us Q I r h;obtain⟨a,bs,rfl,hs,q⟩:=h;obtain⟨its,M,hl,_⟩:=I.list hs;rw[bT.ref1 r];have hb:=M.bls;refine call_all_walk (xM hl.isList fun Z O st F=>?_);subst O;refine⟨_,_,_,_,_,_,_,rfl,Walks.list (A:=X.A.in1) (I.ok.hd L) _ a F its.toArray,st,qj hb,fun h' tk S=>?_⟩;refine⟨.bl _,H,I.kept fun b o J=>S b o (fun z=>?_) (Heap.get?_push_of_some _ J),?_,q⟩
 ·rcases Og.mp z with Y|z
  ·exact absurd (Y ▸ Heap.lt_size J) (Pn _)
  ·cases z
 ·show NU.bool _=NU.bool _;rw[<-Vj,hb,Ow,NV]
end
mutual
inductive Dp (K:PySem.W.Frag) (H:Hp):V->Qz->Prop
 |non:Dp K H .non .none
 |bl (b:Bool):Dp K H (.bl b) (.bool b)
 |int (i:Int):Dp K H (.int i) (.int i)
 |str (x:N_):Dp K H (.str x) (.str x)
 |lst {a:Addr} {xs:List V} {ds:List Qz}:aI K H a xs->sD K H xs ds->Dp K H (.ref a) (.list ds)
 |tup {a:Addr} {xs:List V} {ds:List Qz}:gI K H a xs->sD K H xs ds->Dp K H (.ref a) (.tuple ds)
inductive sD (K:PySem.W.Frag) (H:Hp):List V->List Qz->Prop
 |nil:sD K H [] []
 |cons {v:V} {vs:List V} {d:Qz} {ds:List Qz}:Dp K H v d->sD K H vs ds->sD K H (v::vs) (d::ds)
end
section
variable{X:Cx}{pins:List (Addr×Obj)}{σ:St}{H:Hp}{s:NY}
mutual
theorem Dp.reads (I:Inv X pins σ H s):∀(d:Qz)(v:V)(u:NU),Dp X.K H v d->O6 v u->∃as,R8 s.heap u d as
 |.none,_,_,h,r=>by
  cases h;cases r;exact⟨_,R8.none⟩
 |.bool b,_,_,h,r=>by
  cases h;cases r;exact⟨_,R8.bool b⟩
 |.int i,_,_,h,r=>by
  cases h;obtain⟨t,rfl⟩:=r;exact⟨_,R8.int i t⟩
 |.str x,_,_,h,r=>by
  cases h;obtain⟨t,rfl⟩:=r;exact⟨_,R8.str x t⟩
 |.list ds,_,_,h,r=>by
  cases h with
  |lst hs ha=>
   cases r;obtain⟨its,rv,⟨o,n,ho,hc,_,hd⟩,_⟩:=I.list hs;obtain⟨as,hr⟩:=Dp.readsAll I ds _ its ha rv;exact⟨_,R8.list ho hc hd hr⟩
 |.tuple ds,_,_,h,r=>by
  cases h with
  |tup hs ha=>
   cases r;obtain⟨its,rv,⟨o,ho,hc,n,hd⟩,_⟩:=I.tuple hs;obtain⟨as,hr⟩:=Dp.readsAll I ds _ its ha rv;exact⟨_,R8.tuple ho hc hd hr⟩
 |.dict _,_,_,h,_=>by cases h
theorem Dp.readsAll (I:Inv X pins σ H s):∀(ds:List Qz)(vs:List V)(us:List NU),sD X.K H vs ds->bT vs us->∃as,Vy s.heap us ds as
 |[],_,_,h,r=>by
  cases h;cases r;exact⟨_,Vy.nil⟩
 |d::ds,_,_,h,r=>by
  cases h with
  |cons h1 h2=>
   cases r with
   |cons r1 r2=>
    obtain⟨as,q1⟩:=Dp.reads I d _ _ h1 r1;obtain⟨bs,q2⟩:=Dp.readsAll I ds _ _ h2 r2;exact⟨_,Vy.cons q1 q2⟩
end
end
section
variable{X:Cx}
def GU(K:PySem.W.Frag):R2:=fun x y H Q=>∃d e,Dp K H x d/\Dp K H y e/\SeqAt.shaped d=true/\SeqAt.shaped e=true/\Q (.bl (Qz.eqv d e)) H
theorem wu(z:X.A.units+64<SE):ng X (O2 .Eq) (GU X.K):=by
 intro pins s σ H x y v u Q I F J h;obtain⟨d,e,hd,he,L,M,q⟩:=h;obtain⟨as,O⟩:=Dp.reads I d x v hd F;obtain⟨bs,S⟩:=Dp.reads I e y u he J;exact SeqAt.compareEq_shaped O S L M z ⟨.bl _,H,I,rfl,q⟩
end
end L2
namespace L2
open PySem PySem.Spec PyProof.Rows
abbrev Dn(h:Heap)(c:Addr)(v:Option NU):Prop:=h.IsCell c v
def JU(scope z:QA):QA:=
 {scope with names:=scope.names.map fun(n,k)=>if (k==.free&&z.kind==.function&&z.names.lookup n==some .cell) then(n,.cell) else(n,k)}
def dP(cells:List (N_×Addr)):List (N_×O4)->List (N_×Addr)->List (N_×Addr)
 |[],acc=>acc
 |(n,k)::r,acc=>if k==.free then dP cells r ((n,(cells.lookup n).getD 0)::acc) else dP cells r acc
theorem nX(env:Tk)(f:N_×O4->List (N_×Addr)->VD (ForInStep (List (N_×Addr))))(F:∀n k c,f (n,k) c=if k==.free then(do let a <-cellOf env n;pure (.yield ((n,a)::c))) else pure (.yield c)):
  ∀(names:List (N_×O4))(acc:List (N_×Addr)),(∀y∈names,y.2=.free->∃c,env.cells.lookup y.1=some c)->forIn names acc f=pure (dP env.cells names acc)
 |[],acc,_=>by rw[Ub];rfl
 |(n,k)::r,acc,h=>by
  rw[Tn,F];have I:=fun acc=>nX env f F r acc fun y L=>h y (N5 _ L);unfold dP;by_cases z:(k==O4.free)=true
  ·rw[if_pos z,if_pos z];obtain⟨c,J⟩:=h (n,k) Oi (by simpa using z);have e:cellOf env n=pure c:=by unfold cellOf;rw[J]
   rw[e];have M:(env.cells.lookup n).getD 0=c:=by rw[J];rfl
   rw[M];exact I _
  ·rw[if_neg z,if_neg z];exact I _
theorem zw{scope:QA}{env:Tk}(h:∀y∈scope.names,y.2=.free->∃c,env.cells.lookup y.1=some c):closureFor scope env=pure (dP env.cells scope.names []):=by
 simp only[closureFor];rw[nX env _ (fun n k c=>rfl) scope.names [] h];rfl
theorem To{α:Type}:∀{l:List (N_×α)}{n:N_}{c:α},(n,c)∈l->∃z,l.lookup n=some z
 |(k,v)::r,n,c,h=>by
  rw[Qs];cases hb:n==k with
  |true=>exact⟨_,rfl⟩
  |false=>
   rcases Og.mp h with e|h
   ·cases e;simp at hb
   ·exact To h
theorem iZ{cells:List (N_×Addr)}:∀{names:List (N_×O4)}{acc:List (N_×Addr)}{n:N_}{c:Addr},(n,c)∈dP cells names acc->(n,c)∈acc\/((n,.free)∈names/\c=(cells.lookup n).getD 0)
 |[],_,_,_,h=>.inl h
 |(m,k)::r,acc,n,c,h=>by
  unfold dP at h;split at h
  ·rename_i z;have z:k=.free:=by simpa using z
   rcases iZ h with h|⟨h1,h2⟩
   ·rcases Og.mp h with e|h
    ·cases e;exact .inr ⟨z ▸ Oi,rfl⟩
    ·exact .inl h
   ·exact .inr ⟨N5 _ h1,h2⟩
  ·rcases iZ h with h|⟨h1,h2⟩
   ·exact .inl h
   ·exact .inr ⟨N5 _ h1,h2⟩
theorem kX{cells:List (N_×Addr)}:∀{names:List (N_×O4)}{acc:List (N_×Addr)}{p:N_×Addr},p∈acc->p∈dP cells names acc
 |[],_,_,h=>h
 |(m,k)::r,acc,p,h=>by
  unfold dP;split
  ·exact kX (N5 _ h)
  ·exact kX h
theorem kY{cells:List (N_×Addr)}:∀{names:List (N_×O4)}{acc:List (N_×Addr)}{n:N_},(n,.free)∈names->(n,(cells.lookup n).getD 0)∈dP cells names acc
 |(m,k)::r,acc,n,h=>by
  unfold dP;rcases Og.mp h with e|h
  ·cases e;exact kX Oi
  ·split
   ·exact kY h
   ·exact kY h
theorem jt:∀{names:List (N_×O4)}{h:Heap}{acc:List (N_×Addr)}{x:N_}{c:Addr},(x,c)∈cellsFrom h.objs.size names acc->
  (x,c)∈acc\/((x,.cell)∈names/\h.objs.size<=c/\Dn (pushCells h names) c none)
 |[],_,_,_,_,h=>.inl h
 |(n,k)::r,h,acc,x,c,z=>by
  unfold cellsFrom at z;unfold pushCells;split at z
  ·rename_i F;rw[if_pos F];have F:k=.cell:=by simpa using F
   rw[<-Heap.size_push h {cls:=.type "cell",data:=.cell none}] at z;rcases jt z with z|⟨h1,h2,I⟩
   ·rcases Og.mp z with e|z
    ·cases e;exact .inr ⟨F ▸ Oi,NX _,_,RA r _ _ _ (Heap.get?_push_size _ rfl),rfl⟩
    ·exact .inl z
   ·rw[Heap.size_push] at h2;exact .inr ⟨N5 _ h1,Rb h2,I⟩
  ·rename_i F;rw[if_neg F];rcases jt z with z|⟨h1,h2,I⟩
   ·exact .inl z
   ·exact .inr ⟨N5 _ h1,h2,I⟩
theorem lX:∀{names:List (N_×O4)}{n:Nat}{acc:List (N_×Addr)}{p:N_×Addr},p∈acc->p∈cellsFrom n names acc
 |[],_,_,_,h=>h
 |(m,k)::r,n,acc,p,h=>by
  unfold cellsFrom;split
  ·exact lX (N5 _ h)
  ·exact lX h
theorem pA:∀{names:List (N_×O4)}{n:Nat}{acc:List (N_×Addr)}{x:N_},(x,.cell)∈names->∃c,(x,c)∈cellsFrom n names acc
 |(m,k)::r,n,acc,x,h=>by
  unfold cellsFrom;rcases Og.mp h with e|h
  ·cases e;exact⟨n,lX Oi⟩
  ·split
   ·exact pA h
   ·exact pA h
theorem pB:∀{names:List (N_×O4)}{h:Heap}{acc:List (N_×Addr)}{x y:N_}{c:Addr},(∀p∈acc,p.2<h.objs.size)->(∀x y c,(x,c)∈acc->(y,c)∈acc->x=y)->
  (x,c)∈cellsFrom h.objs.size names acc->(y,c)∈cellsFrom h.objs.size names acc->x=y
 |[],_,_,_,_,_,_,hi,h1,h2=>hi _ _ _ h1 h2
 |(n,k)::r,h,acc,x,y,c,hl,hi,h1,h2=>by
  unfold cellsFrom at h1 h2;split at h1
  ·rename_i z;rw[if_pos z] at h2;rw[<-Heap.size_push h {cls:=.type "cell",data:=.cell none}] at h1 h2;refine pB (h:=h.push _) (fun p F=>?_) (fun x y c a b=>?_) h1 h2
   ·rw[Heap.size_push];rcases Og.mp F with rfl|F
    ·exact Rm _
    ·exact RZ (hl p F)
   ·rcases Og.mp a with e|a<;>rcases Og.mp b with e'|b
    ·cases e;cases e';rfl
    ·cases e;exact absurd (hl _ b) (Pn _)
    ·cases e';exact absurd (hl _ a) (Pn _)
    ·exact hi _ _ _ a b
  ·rename_i z;rw[if_neg z] at h2;exact pB hl hi h1 h2
theorem xN{M:Vf}{A:OG}{E:NU->NY->Prop}{s:NY}{scope:QA}{globals:Addr}{closure:List (N_×Addr)}{z:N_}{func:Option Addr}{code:NU}{around:Tk}{builtins:Addr}{Q:Tk->NY->Prop}(h:Q (newEnv scope s.heap.objs.size globals (cellsFrom (s.heap.objs.size+1) scope.names closure) z func code (some around) builtins)
   {s with heap:=pushCells (s.heap.push {cls:=.type "dict",data:=.dict #[]}) scope.names}):
  wpAny M A (UM scope globals closure [] z func code (some around) builtins) Q E s:=by
 simp only[UM,RO,if_true];refine wpAny_bind (wpAny_alloc ?_);refine wpAny_bind (wpAny_layCells _ (fun n k c=>rfl) scope.names closure _ _ ?_);rw[show({s with heap:=s.heap.push {cls:=.type "dict",data:=.dict #[]}}:NY).heap.objs.size=s.heap.objs.size+1 from Heap.size_push ..];rw[Ub];exact wpAny_bind (wpAny_pure (wpAny_pure h))
theorem kZ{z:QA}:∀{names:List (N_×O4)}{x:N_}{k:O4},
  (names.map fun(n,k)=>if (k==O4.free&&z.kind==.function&&z.names.lookup n==some .cell) then(n,O4.cell) else(n,k)).lookup x=some k->
  ∃L,names.lookup x=some L/\(k=L\/(L=.free/\k=.cell))
 |[],_,_,h=>by simp at h
 |(n,J)::r,x,k,h=>by
  have M:=@kZ z r x k;have h':OV x ((if (J==O4.free&&z.kind==.function&&z.names.lookup n==some .cell)=true then(n,O4.cell) else(n,J))::(r.map _))=some k:=h;cases I:x==n with
  |true=>
   simp only[Qs,I];by_cases F:(J==O4.free&&z.kind==.function&&z.names.lookup n==some .cell)=true
   ·rw[if_pos F] at h';simp only[Qs,I] at h';cases h';simp only[NW,beq_iff_eq] at F;exact⟨J,rfl,.inr ⟨F.1.1,rfl⟩⟩
   ·rw[if_neg F] at h';simp only[Qs,I] at h';cases h';exact⟨_,rfl,.inl rfl⟩
  |false=>
   simp only[Qs,I];by_cases F:(J==O4.free&&z.kind==.function&&z.names.lookup n==some .cell)=true
   ·rw[if_pos F] at h';simp only[Qs,I] at h';exact M h'
   ·rw[if_neg F] at h';simp only[Qs,I] at h';exact M h'
structure xO (N:List N_) (sc scope:QA) (own:List (N_×Nat)):Prop where
 kind:scope.kind=.function
 uniq:∀y∈scope.names,scope.names.lookup y.1=some y.2
 ix:∀p∈own,N[p.2]?=some p.1
 free:∀y∈scope.names,y.2=.free->sc.names.lookup y.1=some .cell\/sc.names.lookup y.1=some .free
 own:∀y∈scope.names,y.2=.local\/y.2=.cell->y.1∈own.map (·.1)\/y.1∉N
def bV(σ:St):List Nat->St
 |[]=>σ
 |v::vs=>(bV σ vs).set v none
theorem k3(σ:St):∀vs:List Nat,(bV σ vs).length=σ.length
 |[]=>rfl
 |v::vs=>by unfold bV;rw[UH,k3 σ vs]
theorem pC{σ:St}{i:Nat}{x:V}:∀{vs:List Nat},(bV σ vs)[i]?=some (some x)->σ[i]?=some (some x)/\i∉vs
 |[],h=>⟨h,by simp⟩
 |v::vs,h=>by
  unfold bV at h;by_cases hi:v=i
  ·subst hi;by_cases hv:v<(bV σ vs).length
   ·rw[RW hv] at h;cases h
   ·rw[Qn (by simpa using hv)] at h;cases h
  ·rw[Sr hi] at h;obtain⟨h1,h2⟩:=pC h;exact⟨h1,by simp only[Og,not_or];exact⟨fun e=>hi e.symm,h2⟩⟩
abbrev Cx.blk(X:Cx)(s:NY)(H:Hp)(scope:QA)(z:Tk)(F:List Addr):Cx:={X with s_0:=s,H_0:=H,env:=z,outer:=X.stack,ex:=F,fn:=fun x=>scope.names.lookup x==some .cell,pn:=[],xe:=fun _ _=>False}
section
variable{X:Cx}{pins:List (Addr×Obj)}{σ:St}{H:Hp}{s:NY}
theorem xP{scope:QA}{own:List (N_×Nat)}{fp:List Addr}(I:Inv X pins σ H s)(ok:xO X.N X.env.scope scope own)(hN:X.N.Nodup)(M:∀b∈fp,qQ X pins H b/\b<s.heap.objs.size):
  Inv (X.blk s H scope (compEnvC scope (cellsFrom (s.heap.objs.size+1) scope.names (dP X.env.cells scope.names [])) s.heap.objs.size X.env) fp) [] (bV σ (own.map (·.2))) H {s with heap:=pushCells (s.heap.push {cls:=.type "dict",data:=.dict #[]}) scope.names}:=by
 have an:∀y∈scope.names,y.2=.free->∃c,X.env.cells.lookup y.1=some c:=fun y Y e=>by
  rcases ok.free y Y e with k|k
  ·exact I.ok.has _ (.inl k)
  ·exact I.ok.has _ (.inr k)
 generalize J:compEnvC scope (cellsFrom (s.heap.objs.size+1) scope.names (dP X.env.cells scope.names [])) s.heap.objs.size X.env=F;have kp:∀b o,s.heap.get? b=some o->(pushCells (s.heap.push {cls:=.type "dict",data:=.dict #[]}) scope.names).get? b=some o:=fun b o e=>RA _ _ _ _ (Heap.get?_push_of_some _ e);have hL:F.locals=s.heap.objs.size:=by rw[<-J];rfl
 have L:F.cells=cellsFrom (s.heap.objs.size+1) scope.names (dP X.env.cells scope.names []):=by rw[<-J];rfl
 have ar:F.scope=JU scope X.env.scope:=by rw[<-J];rfl
 rw[<-Heap.size_push s.heap {cls:=.type "dict",data:=.dict #[]}] at L
 have cm:∀{y c},(y,c)∈dP X.env.cells scope.names []->X.env.cells.lookup y=some c/\c<s.heap.objs.size:=fun{y c} O=>by
  rcases iZ O with O|⟨h1,rfl⟩
  ·cases O
  ·obtain⟨c,hc⟩:=an _ h1 rfl;rw[hc];obtain⟨w,z⟩:=I.cell _ _ hc;exact⟨rfl,z.lt⟩
 have mem:∀{y c},F.cells.lookup y=some c->(X.env.cells.lookup y=some c/\c<s.heap.objs.size)\/(s.heap.objs.size+1<=c/\Dn (pushCells (s.heap.push {cls:=.type "dict",data:=.dict #[]}) scope.names) c none):=fun{y c} e=>by
  rw[L] at e;rcases jt (PySem.mem_of_lookup e) with O|⟨_,h2,h3⟩
  ·exact .inl (cm O)
  ·rw[Heap.size_push] at h2;exact .inr ⟨h2,h3⟩
 have al:∀{y},scope.names.lookup y=some .free->∃c,F.cells.lookup y=some c/\X.env.cells.lookup y=some c:=fun{y} hl=>by
  have Y:(y,O4.free)∈scope.names:=PySem.mem_of_lookup hl;obtain⟨c',e'⟩:=To (lX (names:=scope.names) (n:=(s.heap.push {cls:=.type "dict",data:=.dict #[]}).objs.size) (kY (cells:=X.env.cells) (acc:=[]) Y));rw[<-L] at e';refine⟨c',e',?_⟩;rw[L] at e';rcases jt (PySem.mem_of_lookup e') with O|⟨h1,_,_⟩
  ·exact(cm O).1
  ·have:=ok.uniq _ h1;rw[hl] at this;cases this
 have b3:(X.blk s H scope F fp).Ok:=by
  refine⟨I.ok.mod,by show F.scope.kind=_;rw[ar];exact ok.kind,by show F.globals=_;rw[<-J];exact I.ok.glob,by show F.builtins=_;rw[<-J];exact I.ok.blt,by show s.heap.objs.size<=F.locals;rw[hL];exact NX _,
   fun y z c e1 e2=>?_,fun y Y=>?_,fun y c z e=>?_,I.ok.hd,I.ok.frames,.inl rfl,fun b hb=>⟨?_,fun y c e z=>?_⟩,I.bs,Od I.ok.bsz I.sz,fun b o e hb=>?_,fun b hb z=>?_,I.stack,I.stkFree⟩
  ·have e1:F.cells.lookup y=some c:=e1;have e2:F.cells.lookup z=some c:=e2;rw[L] at e1 e2;refine pB (fun p hp=>?_) (fun y z c a b=>I.ok.inj y z c (cm a).1 (cm b).1) (PySem.mem_of_lookup e1) (PySem.mem_of_lookup e2);rw[Heap.size_push];exact RZ (cm (y:=p.1) (c:=p.2) hp).2
  ·show ∃c,F.cells.lookup y=some c
   have key:∀k,F.kindOf y=some k->(k=.cell\/k=.free)->∃c,F.cells.lookup y=some c:=fun k hk as=>by
    unfold Tk.kindOf at hk;rw[ar] at hk;obtain⟨k',e,r⟩:=kZ hk
    have:k'=.cell\/k'=.free:=by
     rcases r with rfl|⟨rfl,_⟩
     ·exact as
     ·exact .inr rfl
    rcases this with rfl|rfl
    ·obtain⟨c,O⟩:=pA (n:=(s.heap.push {cls:=.type "dict",data:=.dict #[]}).objs.size) (acc:=dP X.env.cells scope.names []) (PySem.mem_of_lookup e);obtain⟨c',e'⟩:=To O;exact⟨c',by rw[L];exact e'⟩
    ·obtain⟨c,h1,_⟩:=al e;exact⟨c,h1⟩
   rcases Y with Y|Y
   ·exact key _ Y (.inl rfl)
   ·exact key _ Y (.inr rfl)
  ·have z:(scope.names.lookup y==some O4.cell)=true:=z;have z:scope.names.lookup y=some .cell:=by simpa using z
   have e:F.cells.lookup y=some c:=e;rw[L] at e;rcases jt (PySem.mem_of_lookup e) with O|⟨_,h2,_⟩
   ·rcases iZ O with O|⟨h1,_⟩
    ·cases O
    ·have q:=ok.uniq _ h1;rw[z] at q;cases q
   ·rw[Heap.size_push] at h2;exact Rb h2
  ·show b≠F.locals;rw[hL];exact OL (M b hb).2
  ·have e:F.cells.lookup y=some c:=e;rcases mem e with⟨h1,_⟩|⟨h1,_⟩
   ·exact(M b hb).1.2.2.2.2.1 y c h1 z
   ·have h2:s.heap.objs.size+1<=b:=by rw[<-z];exact h1
    exact absurd (Ou (M b hb).2 (Rb h2)) (Pn _)
  ·rcases(M b hb).1.2.2.2.1 with z|z
   ·exact I.ok.noex b o e z
   ·exact absurd (Ou (Heap.lt_size e) (Od I.ok.bsz z)) (Pn _)
  ·rcases Og.mp (I.stkSub b z) with z|z
   ·exact(M b hb).1.2.1 z
   ·exact(M b hb).1.2.2.1 z
 refine⟨b3,rfl,I.bare,Un.kept kp,⟨fun _=>none,?_,fun i y av e1 e2 S=>?_⟩,fun y c e=>?_,?_,fun y c e=>?_,fun p hp=>?_,I.hok.kept kp,by rw[k3];exact I.len⟩
 ·show Heap.Ns _ F.locals _;rw[hL];exact Heap.Ns.keeps (Heap.Ns.new ..) fun b o e=>RA _ _ _ _ e
 ·obtain⟨e2,b4⟩:=pC e2
  have Z:scope.names.lookup y=some .free/\(F.kindOf y=some .cell\/F.kindOf y=some .free):=by
   have key:∀k,F.scope.names.lookup y=some k->k=.local\/k=.cell\/k=.free->scope.names.lookup y=some .free/\(F.kindOf y=some .cell\/F.kindOf y=some .free):=fun k hk as=>by
    have b1:=hk;rw[ar] at hk;obtain⟨k',e,r⟩:=kZ hk
    have no:¬(k'=.local\/k'=.cell):=fun hh=>by
     rcases ok.own _ (PySem.mem_of_lookup e) hh with e'|e'
     ·obtain⟨p,hp,b5⟩:=Oq.mp e';have S:=ok.ix p hp;have:p.1=y:=b5;rw[this] at S;exact b4 (Oq.mpr ⟨p,hp,r_ hN S e1⟩)
     ·exact e' (Oe e1)
    rcases r with rfl|⟨rfl,rfl⟩
    ·rcases as with rfl|rfl|rfl
     ·exact absurd (.inl rfl) no
     ·exact absurd (.inr rfl) no
     ·exact⟨e,.inr b1⟩
    ·exact⟨e,.inl b1⟩
   have S:Ir F.scope y:=S;rcases S with S|S|S
   ·exact key _ S (.inl rfl)
   ·exact key _ S (.inr (.inl rfl))
   ·exact key _ S (.inr (.inr rfl))
  obtain⟨m,hn,hl⟩:=I.loc;have b2:Ir X.env.scope y:=(ok.free _ (PySem.mem_of_lookup Z.1) rfl).elim (fun k=>.inr (.inl k)) (fun k=>.inr (.inr k));obtain⟨w,r,q⟩:=hl i y av e1 e2 b2;refine⟨w,r,.inr ⟨Z.2,?_⟩⟩;obtain⟨c,h1,h2⟩:=al Z.1;rcases q with⟨k,_⟩|⟨_,c',e',z⟩
  ·have k:X.env.scope.names.lookup y=some .local:=k;rcases ok.free _ (PySem.mem_of_lookup Z.1) rfl with k'|k'<;>rw[show X.env.scope.names.lookup y=_ from k'] at k<;>cases k
  ·rw[h2] at e';cases e';exact⟨c,h1,z.keeps kp⟩
 ·have e:F.cells.lookup y=some c:=e;rcases mem e with⟨h1,_⟩|⟨_,z⟩
  ·obtain⟨w,z⟩:=I.cell y c h1;exact⟨w,z.keeps kp⟩
  ·exact⟨_,z⟩
 ·show H F.locals=none;rw[hL];exact I.hok.fresh (NX _)
 ·have e:F.cells.lookup y=some c:=e;rcases mem e with⟨h1,_⟩|⟨h1,_⟩
  ·exact I.freeC y c h1
  ·exact I.hok.fresh (Rb h1)
 ·exact absurd (show p∈([]:List (Addr×Obj))++[] from hp) (by simp)
theorem GV{E:NU->NY->Prop}{D:Addr}{xs:List V}{y:V}{v:NU}{Q:NU->NY->Prop}(I:Inv X pins σ H s)(F:H D=some (.lst xs))(L:xs.length<sizeLine)(r:O6 y v)(h:∀s',Inv X pins σ (upd H D (.lst (xs++[y]))) s'->Q .none s'):wpAny (model X.prog X.w) X.A (call (.builtin "list.append") [.ref D,v]) Q E s:=by
 obtain⟨M,its,n,J,e⟩:=I.hok D _ F;have hl:=J.length;refine append_at (hsz:=by rw[Ow];lia) e fun h' O z=>?_;refine h {s with heap:=h'} (I.write (t':=s.toks) (by rw[F];trivial) (.inl rfl) (fun b u hb q=>(O.2 b hb).trans q) ⟨_,z⟩ ⟨by rw[Of];exact L,its++[v],n+1,J.append (.cons r .nil),?_⟩);rw[z];simp
def I0(X:Cx)(z:List OH)(t:TT):Prop:=
 ∀(pins:List (Addr×Obj))(s:NY)(σ:St)(H:Hp)(Q:Bool->Hp->Prop),Inv X pins σ H s->t σ H Q->
  wpAny (model X.prog X.w) X.A (forIn z true fun c r=>if r=true then do let ok <-Vn c X.env (eval c X.env);pure (ForInStep.yield ok) else pure (ForInStep.yield r)) (TP X pins σ Q) X.xe s
def GW:TT:=fun _ H Q=>Q true H
theorem fA:I0 X [] GW:=fun _ _ _ H _ I h=>wpAny_tests_nil ⟨H,I,h⟩
theorem nY{c:OH}{t:TT}(h:PT X c t):I0 X [c] t:=fun pins s σ H Q I z=>wpAny_tests_one (h pins s σ H Q I z)
end
theorem BH{α:Type}{t:VD α}{Q F:α->NY->Prop}{M:Vf}{A:OG}{E:NU->NY->Prop}{s:NY}(h:wpAny M A t Q (fun _ _=>False) s)(I:∀a s,Q a s->F a s):wpAny M A t F E s:=PP h I fun _ _ z=>False.elim z
theorem ww{prog:N3}{w:Oh}{A:OG}{R:VF->NY->Prop}{s:NY}{elt target iter:OH}{z:List OH}{scope:QA}{pos:Q2}{it acc:NU}{env:Tk}(I:Nat->NY->Prop)(F:∀n s,I n s->wpAny (model prog w) A (TZ it) (fun r L=>match r with
   |none=>R (.ok .next) L
   |some v=>wpAny (model prog w) A (Rz target it v) (fun _ J=>wpAny (model prog w) A (TY target env v) (fun _ S=>
     wpAny (model prog w) A (forIn z true fun c r=>if r=true then do let ok <-Vn c env (eval c env);pure (ForInStep.yield ok) else pure (ForInStep.yield r)) (fun ok M=>
      if ok=true then wpAny (model prog w) A (eval elt env) (fun x Y=>
       wpAny (model prog w) A (call (.builtin "list.append") [acc,x]) (fun _ Z=>∃m,m<n/\I m Z) (TJ (model prog w) A env fun e s'=>R (.error e) s') Y) (TJ (model prog w) A env fun e s'=>R (.error e) s') M
      else ∃m,m<n/\I m M) (TJ (model prog w) A env fun e s'=>R (.error e) s') S) (TJ (model prog w) A env fun e s'=>R (.error e) s') J) (TJ (model prog w) A env fun e s'=>R (.error e) s') L) (TJ (model prog w) A env fun e s'=>R (.error e) s') s)(n:Nat)(h:I n s):
  codeAny (model prog w) A (.compLoop (.ListComp elt [⟨target,iter,z,0⟩] scope pos) 0 it acc env) R s:=by
 refine codeAny_loop rfl I (fun n s hI=>?_) n h;show wpAny _ A ((compTurn (.ListComp elt [⟨target,iter,z,0⟩] scope pos) 0 it acc env).onRaise (fun x=>do noteFrame x env;theTreesLotGoes x)) _ _ s;refine wpAny_noted ?_;rw[compTurn_list];refine wpAny_bind (Tg (wpAny_bind (PP (F n s hI) (fun r L h₁=>?_) fun _ _ h'=>h')));cases r with
 |none=>exact wpAny_pure h₁
 |some v=>
  refine wpAny_bind (PP h₁ (fun _ J O=>?_) fun _ _ h'=>h');refine wpAny_bind (PP O (fun _ S h₂=>wpAny_bind (PP h₂ (fun ok M h₃=>?_) fun _ _ h'=>h')) fun _ _ h'=>h');cases ok with
  |false=>exact wpAny_pure ⟨rfl,h₃⟩
  |true=>
   exact wpAny_bind (wpAny_bind (PP h₃ (fun x Y h₄=>wpAny_bind (PP h₄ (fun _ Z h₅=>wpAny_pure (wpAny_pure ⟨rfl,h₅⟩)) fun _ _ h'=>h')) fun _ _ h'=>h'))
section
variable{X:Cx}
def EH(O:TI)(g:TG)(S:TT)(te:TE)(vs:List Nat):TE:=fun σ H Q=>O σ H fun J H1=>∀D,H1 D=none->∃W:Nat->Nat->Hp->Prop,(∃m,W 0 m (upd H1 D (.lst [])))/\∀i m H,W i m H->
 (J.stop i H/\Q (.ref D) H)\/(J.go i H/\∃z:Hp->Prop,(∀H',z H'->∃I,I<m/\W (i+1) I H')/\∀x H',J.yld i H x H'->g x (bV σ vs) H' fun F H2=>bV F vs=bV σ vs/\S F H2 fun b L=>
  if b=true then te F L fun y M=>∃acc,M D=some (.lst acc)/\acc.length<sizeLine/\z (upd M D (.lst (acc++[y]))) else z L)
theorem AL{pins:List (Addr×Obj)}{s:NY}{σ:St}{H:Hp}{Q:VK}{elt tg iter:OH}{S:List OH}{scope:QA}{own:List (N_×Nat)}{pos pos':Q2}{wi:TI}{g:TG}{tt:TT}{te:TE}{use:Option (NU->VD Unit)}{Qf:NU->NY->Prop}(hc:X.calm=true)(hN:X.N.Nodup)(I:Inv X pins σ H s)(hi:PI X tg iter wi)(ok:xO X.N X.env.scope scope own)(hg:∀(s:NY)(H:Hp)(C:Addr)(cl:List (N_×Addr))(L:List Addr),PG (X.blk s H scope (compEnvC scope cl C X.env) L) tg g)(ht:∀(s:NY)(H:Hp)(C:Addr)(cl:List (N_×Addr))(L:List Addr),I0 (X.blk s H scope (compEnvC scope cl C X.env) L) S tt)(he:∀(s:NY)(H:Hp)(C:Addr)(cl:List (N_×Addr))(L:List Addr),PE (X.blk s H scope (compEnvC scope cl C X.env) L) elt te)(hs:∀x,Q_ iter X.env x=pure x)(h:EH wi g tt te (own.map (·.2)) σ H Q)(bo:∀D C s' m H',Inv X pins σ H' s'->Q (.ref D) H'->s'.heap.Ns C m->qQ X pins H' C->Vz (model X.prog X.w) X.A X.xe use Qf (.ref D) C (.ok .next) s'):
  wpAny (model X.prog X.w) X.A (U_ (.ListComp elt [⟨tg,iter,S,0⟩] scope pos) scope X.env pos' (newList []) false (eval iter X.env) use) Qf X.xe s:=by
 have an:∀y∈scope.names,y.2=.free->∃c,X.env.cells.lookup y.1=some c:=fun y hy e=>by
  rcases ok.free y hy e with k|k
  ·exact I.ok.has _ (.inl k)
  ·exact I.ok.has _ (.inr k)
 refine wpAny_comprehension_free (use:=use) rfl hs (zw an) ok.kind (fun y hy e=>by rw[ok.uniq y hy,e])
  (dQ (hi pins s σ H _ I h) fun xv s1 hx=>dQ hx fun c4 s2 h2=>?_)
 obtain⟨it,L,tn,J,H2,e,I2,T,as,f2,q⟩:=h2;subst e;refine R0 (xN ?_) (by show 0<=sizeLine;decide);generalize hD:s2.heap.objs.size=D;have bq:H2 D=none:=I2.hok.fresh (Ra hD);obtain⟨W,⟨m0,w0⟩,av⟩:=q D bq;generalize b1:({s2 with heap:=s2.heap.push {cls:=.type "list",data:=.seq ([]:List NU).toArray}}:NY)=F
 have I3:Inv X pins σ (upd H2 D (.lst [])) F:=by
  rw[<-b1];refine I2.laid (t':=s2.toks) (fun b o e=>Heap.get?_push_of_some _ e) (Ra hD) ⟨OA _,[],0,.nil,?_⟩;rw[<-hD];exact Heap.get?_push_size _ rfl
 have h3:F.heap=s2.heap.push {cls:=.type "list",data:=.seq ([]:List NU).toArray}:=by rw[<-b1]
 have sz:∀b∈L,b<s2.heap.objs.size:=fun b hb=>by
  obtain⟨o,e,_⟩:=T.obj _ _ as b hb;exact Heap.lt_size e
 have f3:∀b∈L,qQ X pins (upd H2 D (.lst [])) b/\b<F.heap.objs.size:=fun b hb=>by
  have b2:=sz b hb;refine⟨⟨?_,(f2 b hb).2⟩,by rw[h3,Heap.size_push];exact RZ b2⟩;rw[aj (by rw[<-hD];exact OL b2)];exact(f2 b hb).1
 have bs:tn 0 F.heap:=T.keep _ _ _ as fun b _ o e=>by rw[h3];exact Heap.get?_push_of_some _ e
 have I4:=xP I3 ok hN f3;have pg:=hg F (upd H2 D (.lst [])) F.heap.objs.size (cellsFrom (F.heap.objs.size+1) scope.names (dP X.env.cells scope.names [])) L;have pt:=ht F (upd H2 D (.lst [])) F.heap.objs.size (cellsFrom (F.heap.objs.size+1) scope.names (dP X.env.cells scope.names [])) L;have pe:=he F (upd H2 D (.lst [])) F.heap.objs.size (cellsFrom (F.heap.objs.size+1) scope.names (dP X.env.cells scope.names [])) L;show codeAny _ _ (.compStart (.ListComp elt [⟨tg,iter,S,0⟩] scope pos) 0 (.ref it) (.ref D) (compEnvC scope (cellsFrom (F.heap.objs.size+1) scope.names (dP X.env.cells scope.names [])) F.heap.objs.size X.env)) (Vz (model X.prog X.w) X.A X.xe use Qf (.ref D) F.heap.objs.size) {F with heap:=pushCells (F.heap.push {cls:=.type "dict",data:=.dict #[]}) scope.names};have b3:∀b∈L,(upd H2 D (.lst [])) b=none:=fun b hb=>(f3 b hb).1.1;generalize c0:compEnvC scope (cellsFrom (F.heap.objs.size+1) scope.names (dP X.env.cells scope.names [])) F.heap.objs.size X.env=M at I4 pg pt pe ⊢;have cL:M.locals=F.heap.objs.size:=by subst c0;rfl
 generalize c5:upd H2 D (.lst [])=Y at I3 I4 pg pt pe w0 b3 f3;generalize c1:({F with heap:=pushCells (F.heap.push {cls:=.type "dict",data:=.dict #[]}) scope.names}:NY)=s4 at I4 ⊢;have b4:tn 0 s4.heap:=T.keep _ _ _ bs fun b _ o e=>by rw[<-c1];exact RA _ _ _ _ (Heap.get?_push_of_some _ e)
 have O:∀{σ':St}{H':Hp}{s':NY},Inv (X.blk F Y scope M L) [] σ' H' s'->(∀b∈L,H' b=none)->∀b∈L,qQ (X.blk F Y scope M L) [] H' b:=fun{σ' H' s'} I' hn b hb=>
  ⟨hn b hb,(I'.ok.exf b hb).1,I'.ok.exfs b hb,.inl hb,fun x c e=>(I'.ok.exf b hb).2 x c e,fun p hp=>absurd (show p∈([]:List (Addr×Obj))++[] from hp) (by simp)⟩
 have Z:codeAny (model X.prog X.w) X.A (.compLoop (.ListComp elt [⟨tg,iter,S,0⟩] scope pos) 0 (.ref it) (.ref D) M) (Vz (model X.prog X.w) X.A X.xe use Qf (.ref D) F.heap.objs.size) s4:=by
  refine ww (fun n s'=>∃i H',Inv (X.blk F Y scope M L) [] (bV σ (own.map (·.2))) H' s'/\tn i s'.heap/\(∀b∈L,H' b=none)/\W i n H') ?_ m0 ⟨0,Y,I4,b4,b3,w0⟩;rintro n s5 ⟨i,H5,I5,b5,n5,w5⟩;rcases av i n H5 w5 with⟨stop,qq⟩|⟨go,Nx,c2,step⟩
  ·have td:=T.done (X.blk F Y scope M L) rfl rfl rfl hc i [] s5 _ H5 (fun _ _=>False) I5 (O I5 n5) b5 stop;refine BH td fun r s6 ⟨hr,I6⟩=>?_;subst hr;have I7:Inv X pins σ H5 s6:=I3.call' (ch:=L) I6.os I6.base I6.hok I6.bare fun b hb=>⟨(f3 b hb).1.2.2.2.1,(f3 b hb).1.2.1,(f3 b hb).1.2.2.2.2.1,(f3 b hb).1.2.2.2.2.2⟩
   have nC:H5 F.heap.objs.size=none:=by
    have z:H5 M.locals=none:=I6.free;rw[cL] at z;exact z
   obtain⟨m,hn,_⟩:=I6.loc;have hn:s6.heap.Ns M.locals m:=hn;rw[cL] at hn;exact bo D F.heap.objs.size s6 m H5 I7 qq hn (I3.fpOk (NX _) nC)
  ·have ti:=T.item (X.blk F Y scope M L) rfl rfl rfl hc i [] s5 _ H5 (fun _ _=>False) I5 (O I5 n5) b5 go;refine BH ti fun r s6 ⟨u,hr,h6⟩=>?_;subst hr;refine BH h6 fun _ s7 ⟨x,H7,I7,r7,y7,ar,n7⟩=>?_;have I7':=I7.pinned (O I7 n7) (T.obj _ _ ar);refine BH (pg _ s7 _ H7 x u _ I7' r7 (step x H7 y7)) fun _ s8 ⟨σ8,H8,I8,b6,q8⟩=>?_;refine BH (pt _ s8 σ8 H8 _ I8 q8) fun b s9 ⟨H9,I9,q9⟩=>?_
   have fin:∀{s':NY}{H':Hp},Inv (X.blk F Y scope M L) ([]++sr L s7.heap) σ8 H' s'->Nx H'->∃m,m<n/\∃i H',Inv (X.blk F Y scope M L) [] (bV σ (own.map (·.2))) H' s'/\tn i s'.heap/\(∀b∈L,H' b=none)/\W i m H':=fun{s' H'} I' nx=>by
    obtain⟨m',hm,w'⟩:=c2 H' nx
    have al:∀b∈L,∀o,s7.heap.get? b=some o->s'.heap.get? b=some o/\H' b=none:=fun b hb o e=>
     let z:=I'.pin (b,o) (Py _ (Py _ (nb hb e)))
     ⟨z.1,z.2.1⟩
    have hl:(bV σ (own.map (·.2))).length=σ8.length:=by rw[<-b6,k3]
    refine⟨m',hm,i+1,H',(I'.unpinned (pins:=[])).weak hl (fun j v e=>?_),T.keep _ _ _ ar fun b hb o e=>(al b hb o e).1,fun b hb=>?_,w'⟩
    ·rw[<-b6] at e;exact(pC e).1
    ·obtain⟨o,e,_⟩:=T.obj _ _ ar b hb;exact(al b hb o e).2
   cases b with
   |false=>
    simp only[RP,if_false] at q9 ⊢;exact fin I9 q9
   |true=>
    simp only[if_true] at q9 ⊢;refine BH (pe _ s9 σ8 H9 _ I9 q9) fun z c6 ⟨yv,H10,I10,c3,acc,bd,bk,nx⟩=>?_;exact GV (X:=X.blk F Y scope M L) I10 bd bk c3 fun c7 I11=>fin I11 nx
 exact codeAny_compStart_list Z (T.self X.A 0 _ _ _ b4 Z)
theorem iE{elt tg iter:OH}{z:List OH}{scope:QA}{own:List (N_×Nat)}{pos:Q2}{J:TI}{g:TG}{L:TT}{te:TE}(M:X.calm=true)(O:X.N.Nodup)(hi:PI X tg iter J)(ok:xO X.N X.env.scope scope own)(hg:∀(s:NY)(H:Hp)(C:Addr)(cl:List (N_×Addr))(F:List Addr),PG (X.blk s H scope (compEnvC scope cl C X.env) F) tg g)(S:∀(s:NY)(H:Hp)(C:Addr)(cl:List (N_×Addr))(F:List Addr),I0 (X.blk s H scope (compEnvC scope cl C X.env) F) z L)(he:∀(s:NY)(H:Hp)(C:Addr)(cl:List (N_×Addr))(F:List Addr),PE (X.blk s H scope (compEnvC scope cl C X.env) F) elt te)(hs:∀x,Q_ iter X.env x=pure x:=by intro _;rfl):
  PE X (.ListComp elt [⟨tg,iter,z,0⟩] scope pos) (EH J g L te (own.map (·.2))):=by
 intro pins s σ H Q I h;rw[eval_ListComp];refine AL M O I hi ok hg S he hs h fun D C s' m H' Y q Z f=>⟨m,Z,fun al sb=>?_⟩;obtain⟨f0,f1,f2,f3,f4,f5⟩:=f;exact⟨.ref D,H',Y.turned (t':=s'.toks) (fun b o hb e=>(sb.2 b hb).trans e) f0 f1 f3 f4 f5,rfl,q⟩
theorem ju{i:Nat}{y:N_}{S:Q2}{elt tg iter:OH}{F:List OH}{scope:QA}{own:List (N_×Nat)}{pos J:Q2}{Y:TI}{g:TG}{Z:TT}{te:TE}(hc:X.calm=true)(hN:X.N.Nodup)(hy:X.N[i]?=some y)(M:X.env.scope.names.lookup y=some .local)(al:Q3 (.ListComp elt [⟨tg,iter,F,0⟩] scope pos) (some (.Name y S)) J.line X.env=pure true)(hi:PI X tg iter Y)(ok:xO X.N X.env.scope scope own)(hg:∀(s:NY)(H:Hp)(C:Addr)(cl:List (N_×Addr))(O:List Addr),PG (X.blk s H scope (compEnvC scope cl C X.env) O) tg g)(ht:∀(s:NY)(H:Hp)(C:Addr)(cl:List (N_×Addr))(O:List Addr),I0 (X.blk s H scope (compEnvC scope cl C X.env) O) F Z)(he:∀(s:NY)(H:Hp)(C:Addr)(cl:List (N_×Addr))(O:List Addr),PE (X.blk s H scope (compEnvC scope cl C X.env) O) elt te)(hs:∀x,Q_ iter X.env x=pure x:=by intro _;rfl):
  PS X (.Assign [.Name y S] (.ListComp elt [⟨tg,iter,F,0⟩] scope pos) J) (xA (EH Y g Z te (own.map (·.2))) (fS i)):=by
 intro pins s σ H D I h;rw[exec_Assign_Name_used _ _ _ _ al];refine wpAny_bind (Tg (wpAny_bind ?_));show wpAny _ X.A (do let _ <-U_ (.ListComp elt [⟨tg,iter,F,0⟩] scope pos) scope X.env (firstIterPos [⟨tg,iter,F,0⟩] pos) (newList []) false (eval iter X.env) (some (TY (.Name y S) X.env))) _ _ s;have h:EH Y g Z te (own.map (·.2)) σ H (fun x H1=>fS i x σ H1 D.nx):=h;refine wpAny_bind (dQ (AL (Qf:=fun _ s'=>SP X pins D .next s') hc hN I hi ok hg ht he hs h fun L C s' m H' I' q hn f=>?_) fun _ s' hq=>wpAny_pure (wpAny_pure hq));show wpAny _ _ (TY (.Name y S) X.env (.ref L)) _ _ _;refine wpAny_assign_Name (uX (v:=V.ref L) I' hN hy (.inl M) rfl (fun s2 I2 ⟨a,sb,ha⟩=>?_) (.inr M));obtain⟨f0,f1,f2,f3,f4,f5⟩:=f
 have an:C≠a:=by
  rcases ha with z|z
  ·rw[z];exact f1
  ·exact fun e=>f4 y a z e.symm
 refine⟨m,hn.sameBut sb an,fun h3 ar=>?_⟩;exact⟨_,H',I2.turned (t':=s2.toks) (fun b o hb e=>(ar.2 b hb).trans e) f0 f1 f3 f4 f5,q⟩
theorem lY{elt:OH}{F:List Comprehension}{scope:QA}{pos z:Q2}{y:N_}{l:Nat}{env:Tk}(I:env.scope.kind=.function)(J:env.scope.names.lookup y=some .local)(hl:(z.line==pos.line)=true)(ha:(scope.names.any fun(n,k)=>n==y&&(k==.local||k==.cell))=false):Q3 (.ListComp elt F scope pos) (some (.Name y z)) l env=pure true:=by
 have ky:env.kindOf y=some .local:=J;have hb:env.blockKind=.function:=by unfold Tk.blockKind;rw[I];rfl
 unfold Q3;simp only[hb,ky,ha,OH.pos,hl];rfl
end
theorem Do{lo:Int}{n:Nat}{g:TG}{O:TT}{te:TE}{vs:List Nat}{σ:St}{H1:Hp}{D:Addr}{S:Hp->Prop}(z:Nat->Hp->Prop)(Z:z 0 (upd H1 D (.lst [])))(hs:∀i H,i<n->z i H->g (.int (lo+i)) (bV σ vs) H fun F H2=>bV F vs=bV σ vs/\O F H2 fun b J=>
   if b=true then te F J fun y L=>∃acc,L D=some (.lst acc)/\acc.length<sizeLine/\z (i+1) (upd L D (.lst (acc++[y]))) else z (i+1) J)(hd:∀H,z n H->S H):
  ∃W:Nat->Nat->Hp->Prop,(∃m,W 0 m (upd H1 D (.lst [])))/\∀i m H,W i m H->
   ((qR lo n).stop i H/\S H)\/((qR lo n).go i H/\∃M:Hp->Prop,(∀H',M H'->∃Y,Y<m/\W (i+1) Y H')/\∀x H',(qR lo n).yld i H x H'->g x (bV σ vs) H' fun F H2=>bV F vs=bV σ vs/\O F H2 fun b J=>
    if b=true then te F J fun y L=>∃acc,L D=some (.lst acc)/\acc.length<sizeLine/\M (upd L D (.lst (acc++[y]))) else M J):=by
 refine⟨fun i m H=>m=n-i/\i<=n/\z i H,⟨n,by simp,OA _,Z⟩,?_⟩;rintro i m H ⟨rfl,hi,p⟩;by_cases I:i<n
 ·refine .inr ⟨I,z (i+1),fun H' p'=>⟨n-(i+1),by lia,rfl,I,p'⟩,fun x H' y=>?_⟩;obtain⟨e,y⟩:=y;subst e y;exact hs i _ I p
 ·have e:i=n:=by lia
  subst e;exact .inl ⟨NX _,hd H p⟩
theorem E1{K:PySem.W.Frag}{a:Addr}{xs:List V}{g:TG}{O:TT}{te:TE}{vs:List Nat}{σ:St}{H1:Hp}{D:Addr}{S:Hp->Prop}(z:Nat->Hp->Prop)(Z:z 0 (upd H1 D (.lst [])))(hl:∀i H,i<=xs.length->z i H->aI K H a xs)(hs:∀i x H,xs[i]?=some x->z i H->g x (bV σ vs) H fun F H2=>bV F vs=bV σ vs/\O F H2 fun b I=>
   if b=true then te F I fun y J=>∃acc,J D=some (.lst acc)/\acc.length<sizeLine/\z (i+1) (upd J D (.lst (acc++[y]))) else z (i+1) I)(hd:∀H,z xs.length H->S H):
  ∃W:Nat->Nat->Hp->Prop,(∃m,W 0 m (upd H1 D (.lst [])))/\∀i m H,W i m H->
   ((uw K a).stop i H/\S H)\/((uw K a).go i H/\∃M:Hp->Prop,(∀H',M H'->∃Y,Y<m/\W (i+1) Y H')/\∀x H',(uw K a).yld i H x H'->g x (bV σ vs) H' fun F H2=>bV F vs=bV σ vs/\O F H2 fun b I=>
    if b=true then te F I fun y J=>∃acc,J D=some (.lst acc)/\acc.length<sizeLine/\M (upd J D (.lst (acc++[y]))) else M I):=by
 refine⟨fun i m H=>m=xs.length-i/\i<=xs.length/\z i H,⟨xs.length,by simp,OA _,Z⟩,?_⟩;rintro i m H ⟨rfl,hi,p⟩;have q:=hl i H hi p;by_cases L:i<xs.length
 ·refine .inr ⟨⟨xs,xs[i],q,by simp[L]⟩,z (i+1),fun H' p'=>⟨xs.length-(i+1),by lia,rfl,L,p'⟩,fun x H' y=>?_⟩;obtain⟨e,y⟩:=y;subst e;exact hs i x _ (y xs q) p
 ·have e:i=xs.length:=by lia
  subst e;exact .inl ⟨⟨xs,q,NX _⟩,hd H p⟩
def I_(N:List N_)(z scope:QA)(own:List (N_×Nat)):Bool:=
 (match scope.kind with|.function=>true|_=>false)&&(scope.names.all fun y=>decide (scope.names.lookup y.1=some y.2))&&(own.all fun p=>decide (N[p.2]?=some p.1))&&
  (scope.names.all fun y=>match y.2 with
   |.free=>(match z.names.lookup y.1 with|some .cell=>true|some .free=>true|_=>false)
   |.local=>decide (y.1∈own.map (·.1))||decide (y.1∉N)
   |.cell=>decide (y.1∈own.map (·.1))||decide (y.1∉N)
   |_=>true)
theorem dn{N:List N_}{F scope:QA}{own:List (N_×Nat)}(h:I_ N F scope own=true):xO N F scope own:=by
 unfold I_ at h;simp only[NW,OM,decide_eq_true_eq] at h;obtain⟨⟨⟨h1,h2⟩,J⟩,I⟩:=h;refine⟨?_,h2,J,fun y z e=>?_,fun y z e=>?_⟩
 ·split at h1
  ·assumption
  ·cases h1
 ·have q:=I y z;simp only[e] at q;split at q<;>first|exact .inl (by assumption)|exact .inr (by assumption)|cases q
 ·have q:=I y z;rcases e with e|e<;>(simp only[e,Pa,decide_eq_true_eq] at q;exact q)
end L2
namespace L2
open PySem PySem.Spec PyProof.Rows
section
variable{prog:N3}{w:Oh}{A:OG}{R:VF->NY->Prop}{s:NY}{elt t0 i0 t1 i1:OH}{ifs0 ifs1:List OH}{scope:QA}{pos:Q2}{it acc:NU}{env:Tk}
end
section
variable{X:Cx}
end
end L2
namespace L2
open PySem PySem.Spec PyProof.Rows
section
variable{κ:Type}[DecidableEq κ]
def dH(kvs:List (κ×V))(k:κ):Option V:=(kvs.find? fun z=>decide (z.1=k)).map (·.2)
def hJ(kvs:List (κ×V))(k:κ)(v:V):List (κ×V):=
 if (kvs.any fun z=>decide (z.1=k))=true then kvs.map (fun z=>if z.1=k then(z.1,v) else z) else kvs++[(k,v)]
theorem f_{p:κ×V}{r:List (κ×V)}{k:κ}(e:p.1=k):dH (p::r) k=some p.2:=by simp[dH,Pi,e]
theorem ga{p:κ×V}{r:List (κ×V)}{k:κ}(e:¬p.1=k):dH (p::r) k=dH r k:=by simp[dH,Pi,e]
theorem jv(k:κ):∀kvs:List (κ×V),(kvs.any fun z=>decide (z.1=k))=(dH kvs k).isSome
 |[]=>rfl
 |p::r=>by
  rw[QQ];by_cases e:p.1=k
  ·simp only[f_ e,decide_eq_true e,Bool.true_or,RO]
  ·rw[ga e,decide_eq_false e,Rr];exact jv k r
theorem xQ(k j:κ)(y:V):∀kvs:List (κ×V),dH (kvs.map fun F=>if F.1=k then(F.1,y) else F) j=(dH kvs j).map fun x=>if j=k then y else x
 |[]=>rfl
 |p::r=>by
  have I:=xQ k j y r;rw[Oo];by_cases h:p.1=k
  ·rw[if_pos h];by_cases e:p.1=j
   ·rw[f_ (p:=(p.1,y)) e,f_ e,QV,if_pos (e.symm.trans h)]
   ·rw[ga (p:=(p.1,y)) e,ga e,I]
  ·rw[if_neg h];by_cases e:p.1=j
   ·rw[f_ (p:=p) e,f_ e,QV,if_neg (fun z=>h (e.trans z))]
   ·rw[ga (p:=p) e,ga e,I]
theorem va(k j:κ)(y:V):∀kvs:List (κ×V),dH kvs k=none->dH (kvs++[(k,y)]) j=if j=k then some y else dH kvs j
 |[],_=>by
  by_cases e:k=j
  ·rw[if_pos e.symm];exact f_ (p:=(k,y)) e
  ·rw[if_neg (fun z=>e z.symm)];exact ga (p:=(k,y)) e
 |p::r,F=>by
  rw[QG];have I:¬p.1=k:=fun z=>by rw[f_ z] at F;cases F
  rw[ga I] at F;have J:=va k j y r F;by_cases e:p.1=j
  ·rw[f_ e,f_ e,if_neg (fun z=>I (e.trans z))]
  ·rw[ga e,ga e,J]
theorem xR(kvs:List (κ×V))(k j:κ)(y:V):dH (hJ kvs k y) j=if j=k then some y else dH kvs j:=by
 unfold hJ;by_cases a:(kvs.any fun z=>decide (z.1=k))=true
 ·rw[if_pos a,xQ];rw[jv] at a;by_cases e:j=k
  ·obtain⟨x,F⟩:=QP.mp a;rw[if_pos e,e,F,QV,if_pos rfl]
  ·rw[if_neg e];cases dH kvs j with
   |none=>rfl
   |some x=>rw[QV,if_neg e]
 ·rw[if_neg a];refine va k j y kvs ?_;rw[jv] at a;cases q:dH kvs k with
  |none=>rfl
  |some x=>rw[q] at a;exact(a rfl).elim
theorem qk(kvs:List (κ×V))(k:κ)(v:V):(hJ kvs k v).length<=kvs.length+1:=by
 unfold hJ;split
 ·rw[NV];lia
 ·rw[Of,Ol,P6];lia
theorem xS{kvs:List (κ×V)}{k:κ}(v:V)(h:dH kvs k=none):hJ kvs k v=kvs++[(k,v)]:=by
 unfold hJ;rw[jv,h];exact if_neg (by decide)
theorem kK.isSome_eq{o:Option V}{u:Option NU}(r:kK o u):o.isSome=u.isSome:=by
 cases o with
 |none=>cases u with
  |none=>rfl
  |some _=>exact(show False from r).elim
 |some _=>cases u with
  |none=>exact(show False from r).elim
  |some _=>rfl
theorem KV.val{kvs:List (κ×V)}{vs:List (κ×NU)}(r:KV kvs vs)(k:κ):kK (dH kvs k) (Sl vs k):=by
 unfold KV at r
 induction r with
 |nil=>exact True.intro
 |@cons p q ps F h t I=>
  obtain⟨h1,h2⟩:=h;by_cases e:p.1=k
  ·have e':q.1=k:=h1.symm.trans e;have b:Sl (q::F) k=some q.2:=by simp[Sl,Pi,e']
   rw[f_ e,b];exact h2
  ·have e':¬q.1=k:=fun z=>e (h1.trans z);have b:Sl (q::F) k=Sl F k:=by simp[Sl,Pi,e']
   rw[ga e,b];exact I
theorem KV.any{kvs:List (κ×V)}{vs:List (κ×NU)}(r:KV kvs vs)(k:κ):(kvs.any fun z=>decide (z.1=k))=vs.any fun z=>decide (z.1=k):=by
 unfold KV at r
 induction r with
 |nil=>rfl
 |cons h t F=>rw[QQ,QQ,F,h.1]
theorem KV.repl{kvs:List (κ×V)}{vs:List (κ×NU)}(r:KV kvs vs)(k:κ){y:V}{u:NU}(I:O6 y u):
  KV (kvs.map fun F=>if F.1=k then(F.1,y) else F) (vs.map fun F=>if F.1=k then(F.1,u) else F):=by
 unfold KV at r ⊢
 induction r with
 |nil=>exact .nil
 |@cons p q ps L h t J=>
  rw[Oo,Oo];refine .cons ?_ J;obtain⟨h1,h2⟩:=h;by_cases e:p.1=k
  ·rw[if_pos e,if_pos (h1.symm.trans e)];exact⟨h1,I⟩
  ·rw[if_neg e,if_neg (fun z=>e (h1.trans z))];exact⟨h1,h2⟩
theorem KV.put{kvs:List (κ×V)}{vs:List (κ×NU)}(r:KV kvs vs)(k:κ){y:V}{u:NU}(z:O6 y u):KV (hJ kvs k y) (stored vs k u):=by
 unfold hJ stored;rw[r.any k];by_cases e:(vs.any fun F=>decide (F.1=k))=true
 ·rw[if_pos e,if_pos e];exact r.repl k z
 ·rw[if_neg e,if_neg e];exact Q8.snoc r ⟨rfl,z⟩
theorem KV.length{kvs:List (κ×V)}{vs:List (κ×NU)}(r:KV kvs vs):kvs.length=vs.length:=Q8.length r
end
theorem sE{P:N3}{w:Oh}{k:fu}{u:NU}(r:O6 (kV k) u):(ff P w).is k u=true:=by
 cases k with
 |inl i=>obtain⟨t,e⟩:=(show ∃t,u=NU.int i t from r);subst e;exact xu P w i t
 |inr x=>obtain⟨t,e⟩:=(show ∃t,u=NU.str x t from r);subst e;exact xw P w x t
theorem vb{P:N3}{w:Oh}:∀{ks:List fu}{us:List NU},bT (ks.map kV) us->ItemsAre (ff P w) ks us
 |[],_,r=>by rw[QC] at r;cases r;exact .nil
 |k::ks,_,r=>by
  rw[Oo] at r;cases r with
  |cons h t=>exact .cons (sE h) (vb t)
abbrev KT(H:Hp):List (List fu×V)->List (List fu×Addr×NU)->Prop:=Q8 fun p q=>p.1=q.1/\H q.2.1=some (.tup (p.1.map kV))/\O6 p.2 q.2.2
theorem KT.val{H:Hp}{kvs:List (List fu×V)}{xs:List (List fu×Addr×NU)}(r:KT H kvs xs)(k:List fu):kK (dH kvs k) ((Uo xs k).map (·.2)):=by
 induction r with
 |nil=>exact True.intro
 |@cons p q ps F h t I=>
  obtain⟨h1,_,h2⟩:=h;by_cases e:p.1=k
  ·have e':q.1=k:=h1.symm.trans e;have b:Uo (q::F) k=some q.2:=by simp[Uo,Pi,e']
   rw[f_ e,b];exact h2
  ·have e':¬q.1=k:=fun z=>e (h1.trans z);have b:Uo (q::F) k=Uo F k:=by simp[Uo,Pi,e']
   rw[ga e,b];exact I
theorem KT.repl{H:Hp}{kvs:List (List fu×V)}{xs:List (List fu×Addr×NU)}(r:KT H kvs xs)(k:List fu){y:V}{u:NU}(I:O6 y u):
  KT H (kvs.map fun F=>if F.1=k then(F.1,y) else F) (xs.map (putAt k u)):=by
 induction r with
 |nil=>exact .nil
 |@cons p q ps M h t J=>
  rw[Oo,Oo];refine .cons ?_ J;obtain⟨h1,h2,L⟩:=h;unfold putAt;by_cases e:p.1=k
  ·rw[if_pos e,if_pos (h1.symm.trans e)];exact⟨h1,h2,I⟩
  ·rw[if_neg e,if_neg (fun z=>e (h1.trans z))];exact⟨h1,h2,L⟩
theorem KT.put{H:Hp}{kvs:List (List fu×V)}{xs:List (List fu×Addr×NU)}(r:KT H kvs xs)(k:List fu){b:Addr}{y:V}{u:NU}(hb:H b=some (.tup (k.map kV)))(z:O6 y u):
  KT H (hJ kvs k y) (storedH xs k b u):=by
 have e:(kvs.any fun F=>decide (F.1=k))=(Uo xs k).isSome:=by
  rw[jv,(r.val k).isSome_eq,Rc]
 unfold hJ storedH;rw[e];by_cases q:(Uo xs k).isSome=true
 ·rw[if_pos q,if_pos q];exact r.repl k z
 ·rw[if_neg q,if_neg q];exact Q8.snoc r ⟨rfl,hb,z⟩
theorem KT.keeps{H H':Hp}{kvs:List (List fu×V)}{xs:List (List fu×Addr×NU)}(r:KT H kvs xs)(F:∀b ys,H b=some (.tup ys)->H' b=some (.tup ys)):KT H' kvs xs:=
 Q8.mapP r fun _ _ z=>⟨z.1,F _ _ z.2.1,z.2.2⟩
section
variable{P:N3}{w:Oh}{H:Hp}{h:Heap}{a:Addr}
theorem Gb{u:HO}(ok:kL P w H h)(e:Rd H a u):eY P w H h a u:=e.ok ok
theorem vc{kvs:List (fu×V)}(ok:kL P w H h)(e:Rd H a (.dK kvs)):kvs.length<=sizeLine/\(a==Po)=false/\∃vs,KV kvs vs/\h.DictOf (ff P w) a vs:=
 show eY P w H h a (.dK kvs) from Gb ok e
theorem Ja{kvs:List (fu×V)}(ok:kL P w H h)(e:H a=some (.dK kvs)):kvs.length<=sizeLine/\(a==Po)=false/\∃vs,KV kvs vs/\h.DictOf (ff P w) a vs:=vc ok (.inl e)
theorem sF{ks:List fu}(ok:kL P w H h)(e:H a=some (.tup (ks.map kV))):(SV (ff P w)).is h ks a:=by
 obtain⟨_,its,r,o,h1,h2,n,z⟩:=(show eY P w H h a (.tup (ks.map kV)) from ok a _ e);exact⟨o,its.toArray,n,h1,h2,z,by simpa using vb r⟩
theorem xT{kvs:List (List fu×V)}(ok:kL P w H h)(e:Rd H a (.dT kvs)):kvs.length<=sizeLine/\(a==Po)=false/\
  ∃xs,KT H kvs xs/\h.DictOfH (SV (ff P w)) a xs:=by
 obtain⟨z,y,xs,r,o,es,ep,h1,h2,J,L,M⟩:=(show eY P w H h a (.dT kvs) from Gb ok e);refine⟨z,y,xs,r,o,es,ep,h1,h2,J,L,fun x F=>?_,M⟩
 have all:∀{l:List (List fu×V)}{m:List (List fu×Addr×NU)},KT H l m->∀x∈m,(SV (ff P w)).is h x.1 x.2.1:=by
  intro l m q
  induction q with
  |nil=>intro x F;exact nomatch F
  |@cons p q ps S I t O=>
   intro x F;rcases Og.mp F with e|F
   ·subst e;exact sF ok (by rw[<-I.1];exact I.2.1)
   ·exact O x F
 exact all r x F
theorem Jb{kvs:List (List fu×V)}(ok:kL P w H h)(e:H a=some (.dT kvs)):kvs.length<=sizeLine/\(a==Po)=false/\
  ∃xs,KT H kvs xs/\h.DictOfH (SV (ff P w)) a xs:=xT ok (.inl e)
end
def kH(H:Hp)(a:Addr)(y:V)(r:Option V):Prop:=
 (∃kvs k,Rd H a (.dK kvs)/\y=kV k/\r=dH kvs k)\/∃kvs k b,Rd H a (.dT kvs)/\y=.ref b/\H b=some (.tup (k.map kV))/\r=dH kvs k
def wx(H:Hp)(a:Addr)(y v:V)(H':Hp):Prop:=
 (∃kvs k,H a=some (.dK kvs)/\y=kV k/\kvs.length<sizeLine/\H'=upd H a (.dK (hJ kvs k v)))\/
 ∃kvs k b,H a=some (.dT kvs)/\y=.ref b/\H b=some (.tup (k.map kV))/\kvs.length<sizeLine/\H'=upd H a (.dT (hJ kvs k v))
theorem kH.k{H:Hp}{a:Addr}{kvs:List (fu×V)}{k:fu}(e:H a=some (.dK kvs)):kH H a (kV k) (dH kvs k):=.inl ⟨kvs,k,.inl e,rfl,rfl⟩
theorem kH.t{H:Hp}{a b:Addr}{kvs:List (List fu×V)}{k:List fu}(e:H a=some (.dT kvs))(z:H b=some (.tup (k.map kV))):kH H a (.ref b) (dH kvs k):=.inr ⟨kvs,k,b,.inl e,rfl,z,rfl⟩
theorem wx.k{H:Hp}{a:Addr}{kvs:List (fu×V)}{k:fu}{v:V}(e:H a=some (.dK kvs))(hl:kvs.length<sizeLine):wx H a (kV k) v (upd H a (.dK (hJ kvs k v))):=.inl ⟨kvs,k,e,rfl,hl,rfl⟩
theorem wx.t{H:Hp}{a b:Addr}{kvs:List (List fu×V)}{k:List fu}{v:V}(e:H a=some (.dT kvs))(z:H b=some (.tup (k.map kV)))(hl:kvs.length<sizeLine):
  wx H a (.ref b) v (upd H a (.dT (hJ kvs k v))):=.inr ⟨kvs,k,b,e,rfl,z,hl,rfl⟩
section
variable{X:Cx}{pins:List (Addr×Obj)}{σ:St}{H:Hp}{s:NY}{a:Addr}{y v:V}{u r:NU}{o:Option V}{A:OG}{E:NU->NY->Prop}
theorem Inv.big(I:Inv X pins σ H s):Po<s.heap.objs.size:=by
 have h:Oa<s.heap.objs.size:=(I.mod.glob.keeps I.bk).lt;exact Vq (by decide) h
theorem BI{Q:NU->NY->Prop}(hu:A.units+1<SE)(I:Inv X pins σ H s)(g:kH H a y (some v))(Z:O6 y u)(h:∀L s',Inv X pins σ H s'->O6 v L->Q L s'):
  wpAny (model X.prog X.w) A (TB (.ref a) u) Q E s:=by
 rcases g with⟨kvs,k,e,M,l⟩|⟨kvs,k,b,e,M,eb,l⟩
 ·subst M;obtain⟨z,hd,vs,F,O⟩:=vc I.hok e;obtain⟨L,S,J⟩:=kK.some_of (v:=v) (o:=Sl vs k) (by rw[l];exact F.val k);exact Ud (sE Z) O.mapOf S (h L _ (I.tok _) J)
 ·subst M;cases (show u=NU.ref b from Z);obtain⟨z,hd,xs,F,O⟩:=xT I.hok e;obtain⟨L,S,J⟩:=kK.some_of (v:=v) (o:=(Uo xs k).map (·.2)) (by rw[l];exact F.val k);obtain⟨p,hp,Y⟩:=Oc.mp S;refine wpAny_getItem_heap (Q1 hu) (sF I.hok eb) O hp ?_;rw[Y];exact h L _ (I.tok _) J
theorem JV{Q:NU->NY->Prop}(O:A.units+1<SE)(I:Inv X pins σ H s)(g:kH H a y o)(M:O6 y u)(h:∀s',Inv X pins σ H s'->Q (.bool o.isSome) s'):
  wpAny (model X.prog X.w) A (O2 .In u (.ref a)) Q E s:=by
 rcases g with⟨kvs,k,e,J,l⟩|⟨kvs,k,b,e,J,S,l⟩
 ·subst J;obtain⟨z,hd,vs,F,L⟩:=vc I.hok e;refine wpAny_in_of (sE M) hd L.mapOf ?_;rw[<-(F.val k).isSome_eq,<-l];exact h _ (I.tok _)
 ·subst J;cases (show u=NU.ref b from M);obtain⟨z,hd,xs,F,L⟩:=xT I.hok e;refine wpAny_in_heap (Q1 O) (sF I.hok S) hd L ?_;have q:=(F.val k).isSome_eq;rw[Rc] at q;rw[<-q,<-l];exact h _ (I.tok _)
theorem E2{Q:NU->NY->Prop}(O:A.units+1<SE)(I:Inv X pins σ H s)(g:kH H a y o)(M:O6 y u)(h:∀s',Inv X pins σ H s'->Q (.bool (!o.isSome)) s'):
  wpAny (model X.prog X.w) A (O2 .NotIn u (.ref a)) Q E s:=by
 rcases g with⟨kvs,k,e,J,l⟩|⟨kvs,k,b,e,J,S,l⟩
 ·subst J;obtain⟨z,hd,vs,F,L⟩:=vc I.hok e;refine wpAny_notIn_of (sE M) hd L.mapOf ?_;rw[<-(F.val k).isSome_eq,<-l];exact h _ (I.tok _)
 ·subst J;cases (show u=NU.ref b from M);obtain⟨z,hd,xs,F,L⟩:=xT I.hok e;refine wpAny_notIn_heap (Q1 O) (sF I.hok S) hd L ?_;have q:=(F.val k).isSome_eq;rw[Rc] at q;rw[<-q,<-l];exact h _ (I.tok _)
theorem AM{h':Heap}{t':Nat}{F:HO}(I:Inv X pins σ H s)(L:Iz (H a))(hs:Heap.SameBut a s.heap h')(he:∃q,h'.get? a=some q)(J:eY X.prog X.w (upd H a F) h' a F):
  Inv X pins σ (upd H a F) {s with heap:=h',toks:=t'}:=
 I.write (x:=a) (e:=a) L (.inl rfl) (fun b q hb z=>(hs.2 b hb).trans z) he J
theorem GX{P:N3}{w:Oh}{H':Hp}{h':Heap}{kvs:List (fu×V)}{vs:List (fu×NU)}(z:kvs.length<=sizeLine)(hd:(a==Po)=false)(F:KV kvs vs)(I:h'.DictOf (ff P w) a vs):
  eY P w H' h' a (.dK kvs):=⟨z,hd,vs,F,I⟩
theorem BJ{H':Hp}{Q:Unit->NY->Prop}(hu:A.units+1<SE)(I:Inv X pins σ H s)(g:wx H a y v H')(Z:O6 y u)(rv:O6 v r)(h:∀s',Inv X pins σ H' s'->Q () s'):
  wpAny (model X.prog X.w) A (setItem (.ref a) u r) Q E s:=by
 rcases g with⟨kvs,k,e,M,l,O⟩|⟨kvs,k,b,e,M,eb,l,O⟩
 ·subst M O;obtain⟨z,hd,vs,F,S⟩:=Ja I.hok e;have Y:vs.length<=sizeLine:=by rw[<-F.length];exact z
  have hl:(hJ kvs k v).length<=sizeLine:=by have:=qk kvs k v;lia
  refine wpAny_setItem_pairs (hsz:=Y) (sE Z) S fun h' J hs=>h _ ?_;have he:∃q,h'.get? a=some q:=let ⟨q,_,_,L,_⟩:=J;⟨q,L⟩;exact AM I (by rw[e];exact True.intro) hs he (GX hl hd (F.put k rv) J)
 ·subst M O;cases (show u=NU.ref b from Z);obtain⟨z,hd,xs,F,S⟩:=Jb I.hok e;have Y:xs.length<=sizeLine:=by rw[<-Q8.length F];exact z
  have hl:(hJ kvs k v).length<=sizeLine:=by have:=qk kvs k v;lia
  refine wpAny_setItem_heap (hsz:=Y) (Q1 hu) (sF I.hok eb) S fun h' J hs=>h _ ?_;obtain⟨q,es,ep,L,h2,h3,h4,_,h5⟩:=J;refine AM I (by rw[e];exact True.intro) hs ⟨q,L⟩ ⟨hl,hd,_,(F.put k eb rv).keeps fun c ys ec=>?_,q,es,ep,L,h2,h3,h4,h5⟩;rw[aj (b8 ec e (fun z=>nomatch z))];exact ec
end
section
variable{X:Cx}{pins:List (Addr×Obj)}{σ:St}{H:Hp}{s:NY}{a:Addr}{kvs:List (fu×V)}{k:fu}{u:NU}{A:OG}{E:NU->NY->Prop}
theorem Jc{Q:NU->NY->Prop}(I:Inv X pins σ H s)(e:Rd H a (.dK kvs))(h:∀t s',Inv X pins σ H s'->Q (.int kvs.length t) s'):wpAny (model X.prog X.w) A (call (.builtin "len") [.ref a]) Q E s:=by
 obtain⟨z,hd,vs,F,J⟩:=vc I.hok e;refine call_len_dict hd J (by rw[<-F.length];rw[Ul] at z;lia) ?_;rw[<-F.length];exact h _ _ (I.tok _)
end
def GY(i:OH):Prop:=∀z F,SF i false z F=operate [z,F] (TB z F)
theorem AN{prog:N3}{w:Oh}{A:OG}{E:NU->NY->Prop}{s:NY}{env:Tk}{value z:OH}{pos:Q2}{T id:String}{Q:NU->NY->Prop}(hl:typeLookup (.type T) "__getitem__"=pure (some (.builtin id)))(hs:GY z)(h:wpAny (model prog w) A (eval value env) (fun o J=>wpAny (model prog w) A (eval z env) (fun i F=>F.TypeIs o T/\wpAny (model prog w) A (TB o i) Q E F) E J) E s):
  wpAny (model prog w) A (eval (.Subscript value z pos) env) Q E s:=by
 refine UG (PP h (fun o J O=>PP O (fun i F I=>?_) fun _ _ x=>x) fun _ _ x=>x);obtain⟨L,I⟩:=I;unfold Th;refine wpAny_bind ?_;rw[getitemInPython_of_ne L.not_modules];refine wpAny_bind (wpAny_specialOf L hl ?_)
 have fin:wpAny (model prog w) A (SF z false o i) (fun r M=>wpAny (model prog w) A (letTemporaryGo value o r >>= fun _=>pure r) Q E M) E F:=by
  rw[hs o i];exact wpAny_operating (PP I (fun r M S=>wpAny_bind (wpAny_letTemporaryGo (wpAny_pure S))) fun _ _ x=>x)
 first
  |exact wpAny_pure (wpAny_bind fin)
  |exact wpAny_bind (wpAny_pure (wpAny_bind fin))
  |exact wpAny_bind fin
theorem xU{X:Cx}{pins:List (Addr×Obj)}{σ:St}{H:Hp}{s:NY}{a:Addr}{y:V}{o:Option V}(I:Inv X pins σ H s)(g:kH H a y o):s.TypeIs (.ref a) "dict":=by
 rcases g with⟨kvs,k,e,_,_⟩|⟨kvs,k,b,e,_,_,_⟩
 ·obtain⟨_,_,vs,_,z⟩:=vc I.hok e;exact z.typeIs
 ·obtain⟨_,_,xs,_,z⟩:=xT I.hok e;exact z.typeIs
def Gc(td ty:TE):TE:=fun σ H Q=>td σ H fun x H1=>ty σ H1 fun y H2=>∃a v,x=.ref a/\kH H2 a y (some v)/\Q v H2
def Jd(ty td:TE):TE:=fun σ H Q=>ty σ H fun y H1=>td σ H1 fun x H2=>∃a o,x=.ref a/\kH H2 a y o/\Q (.bl o.isSome) H2
def AO(ty td:TE):TE:=fun σ H Q=>ty σ H fun y H1=>td σ H1 fun x H2=>∃a o,x=.ref a/\kH H2 a y o/\Q (.bl (!o.isSome)) H2
def Gd(td ty tv:TE):TS:=fun D σ H=>tv σ H fun v H1=>td σ H1 fun x H2=>ty σ H2 fun y F=>∃a z,x=.ref a/\wx F a y v z/\D.nx σ z
section
variable{X:Cx}{o i e value:OH}{pos pos' tpos:Q2}{td ty tv:TE}
theorem E3(L:X.A.units+1<SE)(M:PE X o td)(hi:PE X i ty)(hs:GY i):PE X (.Subscript o i pos) (Gc td ty):=by
 intro pins s σ H Q I h;refine AN PySem.F.slot_dict_getitem.lookup hs (dQ (M pins s σ H _ I h) fun u O ⟨x,H1,S,Y,Z⟩=>dQ (hi pins O σ H1 _ S Z) fun iv s2 ⟨y,H2,J,ry,a,v,ex,g,q2⟩=>?_);subst ex;obtain rfl:u=NU.ref a:=Y;exact⟨xU J g,BI L J g ry fun w' s3 I3 z=>⟨v,H2,I3,z,q2⟩⟩
theorem GZ(z:X.A.units+1<SE)(hi:PE X i ty)(F:PE X o td):PC X .In i o (Jd ty td):=by
 intro pins s σ H Q I h;refine dQ (hi pins s σ H _ I h) fun iv J ⟨y,H1,L,M,O⟩=>dQ (F pins J σ H1 _ L O) fun u s2 ⟨x,H2,S,Y,a,Z,ex,g,q2⟩=>?_;subst ex;obtain rfl:u=NU.ref a:=Y;exact JV z S g M fun s3 I3=>⟨.bl Z.isSome,H2,I3,rfl,q2⟩
theorem BK(z:X.A.units+1<SE)(hi:PE X i ty)(F:PE X o td):PC X .NotIn i o (AO ty td):=by
 intro pins s σ H Q I h;refine dQ (hi pins s σ H _ I h) fun iv J ⟨y,H1,L,M,O⟩=>dQ (F pins J σ H1 _ L O) fun u s2 ⟨x,H2,S,Y,a,Z,ex,g,q2⟩=>?_;subst ex;obtain rfl:u=NU.ref a:=Y;exact E2 z S g M fun s3 I3=>⟨.bl (!Z.isSome),H2,I3,rfl,q2⟩
theorem AQ(z:X.A.units+1<SE)(F:PE X o td)(hi:PE X i ty)(hv:PE X value tv)(hs:Q3 value (some (.Subscript o i pos')) pos.line X.env=pure false):
  PS X (.Assign [.Subscript o i pos'] value pos) (Gd td ty tv):=by
 intro pins s σ H D I h;refine wpAny_Assign_Subscript (dQ (hv pins s σ H _ I h) fun r J ⟨v,H1,L,M,O⟩=>dQ (F pins J σ H1 _ L O) fun u S ⟨x,H2,Y,Z,q2⟩=>dQ (hi pins S σ H2 _ Y q2) fun iv s3 ⟨y,H3,I3,ry,a,H4,ex,g,q3⟩=>?_) hs;subst ex;obtain rfl:u=NU.ref a:=Z;exact BJ z I3 g ry M fun s4 I4=>⟨σ,H4,I4,q3⟩
end
theorem Dq{P:N3}{w:Oh}{H:Hp}(h:Heap)(hb:Po<h.objs.size):eY P w H (h.push {cls:=.type "dict",data:=.dict #[]}) h.objs.size (.dK []):=
 ⟨OA _,beq_eq_false_iff_ne.mpr (Ne.symm (OL hb)),[],.nil,Heap.DictOf.new h⟩
theorem Dr{P:N3}{w:Oh}{H:Hp}(h:Heap)(hb:Po<h.objs.size):eY P w H (h.push {cls:=.type "dict",data:=.dict #[]}) h.objs.size (.dT []):=
 ⟨OA _,beq_eq_false_iff_ne.mpr (Ne.symm (OL hb)),[],.nil,_,#[],0,Heap.get?_push_size _ rfl,⟨rfl,rfl,rfl⟩,rfl,rfl,SY⟩
def Ds:TE:=fun _ H Q=>∀p,H p=none->Q (.ref p) (upd H p (.dK []))
def Dt:TE:=fun _ H Q=>∀p,H p=none->Q (.ref p) (upd H p (.dT []))
section
variable{X:Cx}{pos:Q2}
theorem Du:PE X (.Dict [] [] pos) Ds:=fun pins s σ H Q I h=>
 Ue ⟨.ref s.heap.objs.size,_,I.laid (a:=s.heap.objs.size) (o:=.dK []) (t':=s.toks) (fun _ _ q=>Heap.get?_push_of_some _ q) (NX _) (Dq s.heap I.big),rfl,h _ (I.hok.fresh (NX _))⟩
theorem Dv:PE X (.Dict [] [] pos) Dt:=fun pins s σ H Q I h=>
 Ue ⟨.ref s.heap.objs.size,_,I.laid (a:=s.heap.objs.size) (o:=.dT []) (t':=s.toks) (fun _ _ q=>Heap.get?_push_of_some _ q) (NX _) (Dr s.heap I.big),rfl,h _ (I.hok.fresh (NX _))⟩
end
section
variable{X:Cx}{pins:List (Addr×Obj)}{σ:St}{H:Hp}{s:NY}{a:Addr}{y d:V}{u r:NU}{o:Option V}{A:OG}{E:NU->NY->Prop}
end
section
variable{X:Cx}{o e f:OH}{apos cpos:Q2}{td ty tx:TE}
end
section
variable{X:Cx}{pins:List (Addr×Obj)}{σ:St}{H:Hp}{s:NY}{a:Addr}{kvs:List (fu×V)}{A:OG}{E:NU->NY->Prop}
end
section
variable{X:Cx}{pins:List (Addr×Obj)}{σ:St}{H:Hp}{s:NY}{a:Addr}{y:V}{u:NU}{A:OG}{E:NU->NY->Prop}
end
end L2
namespace L2
open PySem PySem.Spec PyProof.Rows
section
variable{prog:N3}{w:Oh}{A:OG}{E:NU->NY->Prop}
end
section
variable{X:Cx}
end
end L2
namespace L2
open PySem PySem.Spec PyProof.Rows
section
variable{X:Cx}{pins:List (Addr×Obj)}{σ:St}{H:Hp}{s:NY}{h':Heap}
theorem Inv.turnedL{t':Nat}{ch:List Addr}(I:Inv X pins σ H s)(k:∀b o,b∉ch->s.heap.get? b=some o->h'.get? b=some o)(J:∀b∈ch,qQ X pins H b):Inv X pins σ H {s with heap:=h',toks:=t'}:=by
 have L:∀b u,H b=some u->b∉ch:=fun b u e z=>by
  have q:=(J b z).1;rw[q] at e;cases e
 refine I.step (g':=s.gens) (d':=s.drawn) (ch:=ch) (fun b hb=>⟨(J b hb).2.2.2.1,(J b hb).2.1,(J b hb).2.2.2.2.1,(J b hb).2.2.2.2.2⟩) (fun b o _ _ F e _=>k b o F e) (fun b o _ _ F e _=>⟨o.slots,k b o F e⟩)
  (fun _ _ _ _ n=>n) (fun b o F e=>⟨o,k b o F e⟩) (fun _ _ e=>e) (fun _ _ _ e=>e) (fun b ps e=>⟨#[],by rw[e];simp⟩) (fun m M=>?_) (fun b u e=>?_) I.bare
 ·obtain⟨o,es,ep,O,r⟩:=M;exact⟨o,es,ep,k _ o (fun z=>(J _ z).2.1 rfl) O,r⟩
 ·refine(I.hok b u e).stay (fun c v F q=>k c v ?_ q) (fun _ q=>q) fun _ _ q=>q;rcases F with z|z
  ·rw[z];exact L b u e
  ·exact L c _ z
theorem Inv.turnedNew{t':Nat}{ch:List Addr}{T:Addr}{O:HO}(I:Inv X pins σ H s)(k:∀b o,b∉ch->s.heap.get? b=some o->h'.get? b=some o)(J:∀b∈ch,qQ X pins H b)(Y:s.heap.objs.size<=T)(S:eY X.prog X.w (upd H T O) h' T O):Inv X pins σ (upd H T O) {s with heap:=h',toks:=t'}:=by
 have L:H T=none:=I.hok.fresh Y
 have M:∀b u,H b=some u->b∉ch:=fun b u e z=>by
  have q:=(J b z).1;rw[q] at e;cases e
 refine I.step (g':=s.gens) (d':=s.drawn) (ch:=ch) (fun b hb=>⟨(J b hb).2.2.2.1,(J b hb).2.1,(J b hb).2.2.2.2.1,(J b hb).2.2.2.2.2⟩) (fun b o _ _ F e _=>k b o F e) (fun b o _ _ F e _=>⟨o.slots,k b o F e⟩)
  (fun b o _ e n=>?_) (fun b o F e=>⟨o,k b o F e⟩) (fun b xs e=>?_) (fun b o u e=>?_) (fun b ps e=>⟨#[],?_⟩) (fun m Z=>?_) (fun b u e=>?_) I.bare
 ·rw[aj (OL (Ou (Heap.lt_size e) Y))];exact n
 ·rw[aj (aw e L)];exact e
 ·rw[aj (aw e L)];exact e
 ·rw[aj (aw e L),e];simp
 ·obtain⟨o,es,ep,ho,r⟩:=Z;exact⟨o,es,ep,k _ o (fun z=>(J _ z).2.1 rfl) ho,r⟩
 ·by_cases hb:b=T
  ·subst hb;rw[ac] at e;cases e;exact S
  ·rw[aj hb] at e;refine(I.hok b u e).stay (fun c v F q=>k c v ?_ q) (fun c q=>by rw[aj (aw q L)];exact q) fun c xs q=>by rw[aj (aw q L)];exact q
   rcases F with z|z
   ·rw[z];exact M b u e
   ·exact M c _ z
end
section
variable{X:Cx}
theorem G_{tg:OH}{pins:List (Addr×Obj)}{σ:St}{H:Hp}{s:NY}{R:It->Hp->Prop}{J:It}{z:Nat->Heap->Prop}{tk:Nat}(I:Inv X pins σ H s)(o:Obj)(T:xB X.prog X.w X.K tg J [s.heap.objs.size] s.heap.objs.size z)(st:z 0 (s.heap.push o))(q:R J H):JO X pins σ tg R (.ref s.heap.objs.size) {s with heap:=s.heap.push o,toks:=tk}:=by
 refine⟨s.heap.objs.size,[s.heap.objs.size],z,J,H,rfl,I.kept fun b F e=>Heap.get?_push_of_some _ e,T,st,fun b hb=>?_,q⟩;have e:b=s.heap.objs.size:=by simpa using hb
 subst e;exact I.fpOk (NX _) (I.hok.fresh (NX _))
end
def Ge(lo c:Int)(n:Nat):It:=⟨fun i _=>i<n,fun i H x H'=>H'=H/\x=.int (lo+(i:Nat)*c),fun i _=>n<=i⟩
theorem xV{P:N3}{w:Oh}{K:PySem.W.Frag}{tg:OH}(it:Addr)(lo c:Int)(n:Nat):xB P w K tg (Ge lo c n) [it] it (fun i h=>SB h it (lo+(i:Nat)*c) ((n:Int)-(i:Nat)) c) where
 mem:=by simp
 obj:=fun i h st b hb=>by
  have e:b=it:=by simpa using hb
  subst e;exact⟨_,st,fun v z=>nomatch z⟩
 keep:=fun i h h' st k=>k it (by simp) _ st
 item:=by
  intro X L M O S i pins s σ H E I J st hg;subst L M O;obtain⟨Y,Z,f2,f3,f4,f5⟩:=J it (by simp);have W:=Walks.range (prog:=X.prog) (w:=X.w) (I.ok.hd S) it lo c n;refine W.item i s _ _ hg st fun v h' tk hv F kk=>?_;obtain⟨t,rfl⟩:=hv;have I1:Inv X pins σ H {s with heap:=h',toks:=tk}:=I.turned (fun b o hb e=>kk b o (by simpa using hb) e) Y Z f3 f4 f5;exact⟨_,rfl,C_ (s:={s with heap:=h',toks:=tk}) (n:="range_iterator") F rfl rfl (by decide) ⟨.int (lo+(i:Nat)*c),H,I1,⟨t,rfl⟩,⟨rfl,rfl⟩,F,fun b hb=>(J b hb).1⟩⟩
 done:=by
  intro X L M O S i pins s σ H E I J st hg;subst L M O;obtain⟨Y,Z,f2,f3,f4,f5⟩:=J it (by simp);exact Se (I.ok.hd S) st (by have:n<=i:=hg;lia) fun h' eb=>⟨rfl,I.turned (t':=s.toks) (fun b o hb e=>eb b o hb e) Y Z f3 f4 f5⟩
 self:=fun A i s Q E st h=>Sf st h
def Iv(i j c:Int)(n:Nat):Prop:=c≠0/\c.natAbs<1073741824/\Ox.Range.small i j c=true/\Ox.Range.rangeSize i j c=n
theorem Iv.neg{i j:Int}(ha:-(2 ^ 62)<=i)(z:i<2 ^ 62)(hb:-(2 ^ 62)<=j)(F:j<2 ^ 62):Iv i j (-1) (i-j).toNat:=
 ⟨by decide,by decide,PySem.W.small_down ha z hb F,PySem.W.rangeSize_downNat i j⟩
def Gf(ta:TA):TI:=fun σ H R=>ta σ H fun vs H1=>∃(i j c:Int)(n:Nat),vs=[.int i,.int j,.int c]/\Iv i j c n/\R (Ge i c n) H1
section
variable{X:Cx}{tg:OH}
theorem vd{a b c:OH}{ta:TA}{p pos:Q2}(hg:Gl X "range")(O:X.mg "range"=none)(ha:PA X [a,b,c] ta)(hs:starEach [a,b,c] X.env=(false,eval a X.env)::starEach [b,c] X.env:=by rfl)(J:(backTo pos (starEach [b,c] X.env)).any (·.1)=false:=by rfl):
  PI X tg (.Call (.Name "range" p) [a,b,c] [] pos) (Gf ta):=by
 intro pins s σ H R I h;refine UC (jm I hg O Sg (PyProof.Rows.callWith_type1 (dQ (ha pos pins s σ H _ I h) fun us F ⟨vs,H1,S,Y,Z⟩=>?_) hs J));obtain⟨i,j,k,n,e,⟨c0,c1,c2,c3⟩,q⟩:=Z;subst e;cases Y with
 |cons r z=>
  cases z with
  |cons r' z=>
   cases z with
   |cons L z=>
    cases z;obtain⟨t,rfl⟩:=r;obtain⟨t',rfl⟩:=r';obtain⟨M,rfl⟩:=L;refine call_range_3 c0 ?_ (.inl (PyProof.noPylong_small c1));refine Tl (IsRange.new ..) c2 ?_;have I2:Inv X pins σ H1 {F with heap:=F.heap.push {cls:=.type "range",data:=.fields #[.int i t,.int j t',.int k M]}}:=S.kept (t':=F.toks) fun b o e=>Heap.get?_push_of_some _ e;refine G_ (tk:=F.toks) I2 _ (xV _ i k n) ?_ q;have e1:i+((0:Nat):Int)*k=i:=by simp
    have e2:(n:Int)-((0:Nat):Int)=Ox.Range.rangeSize i j k:=by rw[c3];simp
    show SB _ _ (i+((0:Nat):Int)*k) ((n:Int)-((0:Nat):Int)) k;rw[e1,e2];exact Heap.get?_push_size _ rfl
end
section
variable{X:Cx}{tg:OH}
end
section
variable{prog:N3}{w:Oh}{A:OG}{E:NU->NY->Prop}{s:NY}
end
section
variable{X:Cx}{pins:List (Addr×Obj)}{σ:St}{H:Hp}{s:NY}{d:Addr}{o:Obj}
end
section
variable{P:N3}{w:Oh}{K:PySem.W.Frag}{tg:OH}{d:Addr}{o:Obj}{es:Array Q4}{ep:Nat}
end
section
variable{X:Cx}{tg e:OH}{td:TE}{apos cpos:Q2}
end
def Iw(K:PySem.W.Frag)(a:Addr):It:=
 ⟨fun i H=>∃(xs:List V)(x:V),aI K H a xs/\xs[i]?=some x,fun i H v H'=>∃T x,v=.ref T/\H T=none/\H'=upd H T (.tup [.int (i:Nat),x])/\∀xs,aI K H a xs->xs[i]?=some x,fun i H=>∃xs:List V,aI K H a xs/\xs.length<=i⟩
theorem BL{P:N3}{w:Oh}{K:PySem.W.Frag}{O:List OH}{kk:Nat}{tpos:Q2}(a e it:Addr):
  xB P w K (.Tuple O kk tpos) (Iw K a) [e,it] e (fun i h=>(∃F,IsEnum h e it ((i:Nat):Int) F)/\h.IsListIter it a i/\e≠it) where
 mem:=by simp
 obj:=fun i h st b hb=>by
  obtain⟨⟨F,he⟩,⟨o,ho,hc,hd⟩,_⟩:=st;have e':b=e\/b=it:=by simpa using hb
  rcases e' with z|z
  ·rw[z];exact⟨_,he,fun v q=>nomatch q⟩
  ·rw[z];exact⟨o,ho,fun v q=>by rw[hd] at q;cases q⟩
 keep:=fun i h h' st k=>let ⟨⟨F,he⟩,hi,J⟩:=st;⟨⟨F,k e (by simp) _ he⟩,hi.at fun o q=>k it (by simp) o q,J⟩
 item:=by
  intro X hP hw hK hc i pins s σ H E I Z st hg;subst hP hw hK;obtain⟨⟨F,he⟩,L,J⟩:=st;obtain⟨xs,x,hq,hx⟩:=hg;obtain⟨its,rv,p,hz⟩:=I.list hq;obtain⟨u,hu,ru⟩:=rv.get hx;have S:e<s.heap.objs.size:=Heap.lt_size he;have al:it<s.heap.objs.size:=by obtain⟨_,q,_⟩:=L;exact Heap.lt_size q
  refine wpAny_pyNext_enum_item he L p.isList (x:=u) (by simpa using hu) J fun h' ho Y hT hsz hk=>?_;refine⟨_,rfl,wpAny_letOwnedTupleGo_enum (s:={s with heap:=h',toks:=s.toks+1}) ho fun M an sb=>?_⟩;have ar:M.get? s.heap.objs.size=some {cls:=.type "tuple",data:=.seq #[.int i s.toks,u]}:=(sb.2 _ (Q9 S)).trans hT
  have as:eY X.prog X.w (upd H s.heap.objs.size (.tup [.int (i:Nat),x])) M s.heap.objs.size (.tup [.int (i:Nat),x]):=
   ⟨by show 2<=sizeLine;decide,[.int i s.toks,u],.cons ⟨_,rfl⟩ (.cons ru .nil),⟨_,ar,rfl,_,rfl⟩⟩
  have I1:Inv X pins σ (upd H s.heap.objs.size (.tup [.int (i:Nat),x])) {s with heap:=M,toks:=s.toks+1}:=
   I.turnedNew (ch:=[e,it]) (fun b ob hb q=>(sb.2 b (fun z=>hb (by simp[z]))).trans (hk b ob (fun z=>hb (by simp[z])) (fun z=>hb (by simp[z])) q)) Z (NX _) as
  refine⟨.ref s.heap.objs.size,_,I1,rfl,⟨_,x,rfl,I.hok.fresh (NX _),rfl,fun ys hy=>by rw[I.list_inj hy hq];exact hx⟩,⟨⟨u,?_⟩,Y.at fun o q=>(sb.2 it (Ne.symm J)).trans q,J⟩,fun b hb=>?_⟩
  ·have e1:((i+1:Nat):Int)=(i:Int)+1:=by lia
   rw[e1];exact an
  ·have av:b<s.heap.objs.size:=by
    have e':b=e\/b=it:=by simpa using hb
    rcases e' with z|z
    ·rw[z];exact S
    ·rw[z];exact al
   rw[aj (OL av)];exact(Z b hb).1
 done:=by
  intro X hP hw hK hc i pins s σ H E I Z st hg;subst hP hw hK;obtain⟨⟨F,he⟩,L,J⟩:=st;obtain⟨xs,hq,hx⟩:=hg;obtain⟨its,rv,p,hz⟩:=I.list hq;obtain⟨f0,f1,f2,f3,f4,f5⟩:=Z it (by simp);have hl:=rv.length;exact wpAny_pyNext_enum_end (I.ok.hd hc) he L p.isList (by simp;lia) fun h' eb=>⟨rfl,I.turned (t':=s.toks) (fun b o hb q=>eb b o hb q) f0 f1 f3 f4 f5⟩
 self:=fun A i s Q E st h=>let ⟨⟨_,he⟩,_⟩:=st;TK he h
def Gg(K:PySem.W.Frag)(ta:TA):TI:=fun σ H R=>ta σ H fun vs H1=>∃a xs,vs=[.ref a]/\aI K H1 a xs/\R (Iw K a) H1
theorem AR{X:Cx}{e:OH}{ta:TA}{p pos tpos:Q2}{J:List OH}{S:Nat}(hg:Gl X "enumerate")(Y:X.mg "enumerate"=none)(ha:PA X [e] ta)(hs:starEach [e] X.env=[(false,eval e X.env)]:=by rfl):
  PI X (.Tuple J S tpos) (.Call (.Name "enumerate" p) [e] [] pos) (Gg X.K ta):=by
 intro pins s σ H R I h;refine UC (jm I hg Y boot_enumerate (PyProof.Rows.callWith_type1 (dQ (ha pos pins s σ H _ I h) fun us F ⟨vs,H1,M,Z,q1⟩=>?_) hs rfl));obtain⟨a,xs,ex,hq,q⟩:=q1;subst ex;cases Z with
 |cons r rr=>
  cases rr;cases r;obtain⟨its,rv,p',hz⟩:=M.list hq;refine call_enumerate_list p'.isList fun h' he O hsz hk=>TK he ?_;have I2:Inv X pins σ H1 {F with heap:=h'}:=M.kept (t':=F.toks) hk;refine⟨F.heap.objs.size+1,[F.heap.objs.size+1,F.heap.objs.size],_,_,H1,rfl,I2,BL a (F.heap.objs.size+1) F.heap.objs.size,⟨⟨.none,he⟩,O,Nat.succ_ne_self _⟩,fun b hb=>?_,q⟩;have e':b=F.heap.objs.size+1\/b=F.heap.objs.size:=by simpa using hb
  have L:F.heap.objs.size<=b:=by
   rcases e' with z|z
   ·rw[z];exact P0 _ _
   ·rw[z];exact NX _
  exact M.fpOk L (M.hok.fresh L)
theorem ve:Pp "zip"=some (.type "zip"):=by decide+kernel
def Ix(K:PySem.W.Frag)(a b:Addr):It:=
 ⟨fun i H=>∃(xs ys:List V)(x y:V),aI K H a xs/\aI K H b ys/\xs[i]?=some x/\ys[i]?=some y,
  fun i H v H'=>∃T x y,v=.ref T/\H T=none/\H'=upd H T (.tup [x,y])/\(∀xs,aI K H a xs->xs[i]?=some x)/\∀ys,aI K H b ys->ys[i]?=some y,
  fun i H=>∃xs ys:List V,aI K H a xs/\aI K H b ys/\(xs.length<=i\/ys.length<=i)⟩
theorem Dx{P:N3}{w:Oh}{K:PySem.W.Frag}{ar:List OH}{kk:Nat}{tpos:Q2}{a b z TI TO i1 M:Addr}(D:SG z TI TO i1 M a b):
  xB P w K (.Tuple ar kk tpos) (Ix K a b) [z,TI,TO,i1,M] z (fun i h=>RD h z TI TO .none/\P7 h TI (.ref i1) (.ref M)/\(∃x y,P7 h TO x y)/\h.IsListIter i1 a i/\h.IsListIter M b i) where
 mem:=by simp
 obj:=fun i h st c hc=>by
  obtain⟨Y,F,⟨x,y,J⟩,⟨o1,e1,_,d1⟩,⟨o2,e2,_,d2⟩⟩:=st;have e':c=z\/c=TI\/c=TO\/c=i1\/c=M:=by simpa using hc
  rcases e' with q|q|q|q|q
  ·rw[q];exact⟨_,Y,fun v q=>nomatch q⟩
  ·rw[q];exact⟨_,F,fun v q=>nomatch q⟩
  ·rw[q];exact⟨_,J,fun v q=>nomatch q⟩
  ·rw[q];exact⟨o1,e1,fun v q=>by rw[d1] at q;cases q⟩
  ·rw[q];exact⟨o2,e2,fun v q=>by rw[d2] at q;cases q⟩
 keep:=fun i h h' st k=>by
  obtain⟨Y,F,⟨x,y,J⟩,h1,h2⟩:=st;exact⟨k z (by simp) _ Y,k TI (by simp) _ F,⟨x,y,k TO (by simp) _ J⟩,h1.at fun o q=>k i1 (by simp) o q,h2.at fun o q=>k M (by simp) o q⟩
 item:=by
  intro X hP hw hK hc i pins s σ H E I hf st hg;subst hP hw hK;obtain⟨Y,F,⟨x0,y0,J⟩,h1,h2⟩:=st;obtain⟨xs,ys,x,y,O,S,hx,hy⟩:=hg;obtain⟨its,rv,p,_⟩:=I.list O;obtain⟨Z,al,p2,_⟩:=I.list S;obtain⟨u,hu,ru⟩:=rv.get hx;obtain⟨u2,b2,b3⟩:=al.get hy;have as:z<s.heap.objs.size:=Heap.lt_size Y;refine wpAny_pyNext_zip_item D Y F J h1 h2 p.isList p2.isList (x:=u) (y:=u2) (by simpa using hu) (by simpa using b2) fun h' z' TO' b4 b5 hT hsz hk=>?_;refine⟨_,rfl,RV (s:={s with heap:=h'}) z' fun an b6 sb=>?_⟩;have bd:an.get? s.heap.objs.size=some {cls:=.type "tuple",data:=.seq #[u,u2]}:=(sb.2 _ (Q9 as)).trans hT
  have bk:eY X.prog X.w (upd H s.heap.objs.size (.tup [x,y])) an s.heap.objs.size (.tup [x,y]):=
   ⟨by show 2<=sizeLine;decide,[u,u2],.cons ru (.cons b3 .nil),⟨_,bd,rfl,_,rfl⟩⟩
  have I1:Inv X pins σ (upd H s.heap.objs.size (.tup [x,y])) {s with heap:=an}:=
   I.turnedNew (t':=s.toks) (ch:=[z,TI,TO,i1,M]) (fun c o hb q=>(sb.2 c (fun L=>hb (by simp[L]))).trans (hk c o (fun L=>hb (by simp[L])) (fun L=>hb (by simp[L])) (fun L=>hb (by simp[L])) (fun L=>hb (by simp[L])) q)) hf (NX _) bk
  refine⟨.ref s.heap.objs.size,_,I1,rfl,⟨_,x,y,rfl,I.hok.fresh (NX _),rfl,fun l hl=>by rw[I.list_inj hl O];exact hx,fun l hl=>by rw[I.list_inj hl S];exact hy⟩,⟨b6,?_,⟨u,u2,?_⟩,?_,?_⟩,fun c av=>?_⟩
  ·exact(sb.2 _ D.TIz).trans (hk _ _ D.TIz D.TITO D.TIi1 D.TIi2 F)
  ·exact(sb.2 _ D.TOz).trans TO'
  ·exact b4.at fun o q=>(sb.2 _ D.i1z).trans q
  ·exact b5.at fun o q=>(sb.2 _ D.i2z).trans q
  ·have bo:c<s.heap.objs.size:=by
    have e':c=z\/c=TI\/c=TO\/c=i1\/c=M:=by simpa using av
    rcases e' with q|q|q|q|q
    ·rw[q];exact as
    ·rw[q];exact Heap.lt_size F
    ·rw[q];exact Heap.lt_size J
    ·rw[q];obtain⟨_,e1,_⟩:=h1;exact Heap.lt_size e1
    ·rw[q];obtain⟨_,e2,_⟩:=h2;exact Heap.lt_size e2
   rw[aj (OL bo)];exact(hf c av).1
 done:=by
  intro X hP hw hK hc i pins s σ H E I hf st hg;subst hP hw hK;obtain⟨Y,F,⟨x0,y0,J⟩,h1,h2⟩:=st;obtain⟨xs,ys,O,S,b1⟩:=hg;obtain⟨its,rv,p,_⟩:=I.list O;obtain⟨Z,al,p2,_⟩:=I.list S;have l1:=rv.length;have l2:=al.length
  have he:its.toArray[i]?=none\/Z.toArray[i]?=none:=by
   rcases b1 with q|q
   ·exact .inl (by simp;lia)
   ·exact .inr (by simp;lia)
  exact wpAny_pyNext_zip_end (I.ok.hd hc) D Y F J h1 h2 p.isList p2.isList he fun h' hk=>⟨rfl,I.turnedL (t':=s.toks) (ch:=[z,TI,TO,i1,M]) (fun c o hb q=>
   hk c o (fun L=>hb (by simp[L])) (fun L=>hb (by simp[L])) (fun L=>hb (by simp[L])) (fun L=>hb (by simp[L])) q) hf⟩
 self:=fun A i s Q E st h=>Rn st.1 h
def Je(K:PySem.W.Frag)(ta:TA):TI:=fun σ H R=>ta σ H fun vs H1=>∃a b xs ys,vs=[.ref a,.ref b]/\aI K H1 a xs/\aI K H1 b ys/\R (Ix K a b) H1
theorem Dy{X:Cx}{e J:OH}{ta:TA}{p pos tpos:Q2}{L:List OH}{kk:Nat}(hg:Gl X "zip")(hm:X.mg "zip"=none)(ha:PA X [e,J] ta)(hs:starEach [e,J] X.env=(false,eval e X.env)::starEach [J] X.env:=by rfl)(S:(backTo pos (starEach [J] X.env)).any (·.1)=false:=by rfl):
  PI X (.Tuple L kk tpos) (.Call (.Name "zip" p) [e,J] [] pos) (Je X.K ta):=by
 intro pins s σ H R I h;refine UC (jm I hg hm ve (PyProof.Rows.callWith_type1 (dQ (ha pos pins s σ H _ I h) fun us F ⟨vs,H1,M,r1,q1⟩=>?_) hs S));obtain⟨a,b,xs,ys,ex,Y,Z,q⟩:=q1;subst ex;cases r1 with
 |cons r rr=>
  cases rr with
  |cons r' rr=>
   cases rr;cases r;cases r';obtain⟨its,rv,p1,_⟩:=M.list Y;obtain⟨as,av,p2,_⟩:=M.list Z;have la:a<F.heap.objs.size:=p1.lt;have lb:b<F.heap.objs.size:=p2.lt;refine call_zip_2 p1.isList p2.isList fun h' hz al an h1 h2 hsz hk=>Rn hz ?_;have I2:Inv X pins σ H1 {F with heap:=h'}:=M.kept (t':=F.toks) hk;refine⟨F.heap.objs.size+4,[F.heap.objs.size+4,F.heap.objs.size+2,F.heap.objs.size+3,F.heap.objs.size,F.heap.objs.size+1],_,_,H1,rfl,I2,Dx (PySem.W.ktu_apart F.heap.objs.size a b la lb),⟨hz,al,⟨_,_,an⟩,h1,h2⟩,fun c ar=>?_,q⟩;have e':c=F.heap.objs.size+4\/c=F.heap.objs.size+2\/c=F.heap.objs.size+3\/c=F.heap.objs.size\/c=F.heap.objs.size+1:=by simpa using ar
   have O:F.heap.objs.size<=c:=by
    rcases e' with z|z|z|z|z
    ·rw[z];exact P0 _ _
    ·rw[z];exact P0 _ _
    ·rw[z];exact P0 _ _
    ·rw[z];exact NX _
    ·rw[z];exact P0 _ _
   exact M.fpOk O (M.hok.fresh O)
end L2
section
namespace Bits
open PySem PyProof.Rows
end Bits
end
section
namespace TL
open PySem PySem.Builtin PySem.Builtin.Str PySem.StrLaws
abbrev tl(x:N_):List Nat:=x.cps.toList
theorem pD(x:N_):x.length=(tl x).length:=by simp[tl,N_.length]
theorem vf(x y:N_):tl (x++y)=tl x++tl y:=by
 show(x++y).cps.toList=_;rw[N_.cps_append,Array.toList_append]
theorem tl_ofString(s:String):tl (N_.ofString s)=s.toList.map Char.toNat:=PyProof.Rows.signs_ofString s
def pre(S l:List Nat):Bool:=l.take S.length==S
def spl(S:List Nat):Nat->List Nat->List Nat->List (List Nat)
 |_,acc,[]=>[acc]
 |0,acc,c::r=>if pre S (c::r)=true then acc::spl S (S.length-1) [] r else spl S 0 (acc++[c]) r
 |k+1,acc,_::r=>spl S k acc r
def par(S:List Nat):List Nat->List Nat->Option (List Nat×List Nat)
 |_,[]=>none
 |acc,c::r=>if pre S (c::r)=true then some (acc,(c::r).drop S.length) else par S (acc++[c]) r
theorem spl_nil(S:List Nat)(k:Nat)(acc:List Nat):spl S k acc []=[acc]:=by cases k<;>rfl
theorem spl_hit{S acc r:List Nat}{c:Nat}(h:pre S (c::r)=true):spl S 0 acc (c::r)=acc::spl S (S.length-1) [] r:=by
 show(if pre S (c::r)=true then acc::spl S (S.length-1) [] r else spl S 0 (acc++[c]) r)=_;rw[if_pos h]
theorem spl_miss{S acc r:List Nat}{c:Nat}(h:pre S (c::r)=false):spl S 0 acc (c::r)=spl S 0 (acc++[c]) r:=by
 show(if pre S (c::r)=true then acc::spl S (S.length-1) [] r else spl S 0 (acc++[c]) r)=_;rw[if_neg (by rw[h];exact N2)]
theorem xW(S:List Nat):∀(k:Nat)(acc l:List Nat),spl S k acc l=spl S 0 acc (l.drop k)
 |0,_,_=>by rw[RJ]
 |k+1,acc,[]=>by rw[drop_nil,spl_nil,spl_nil]
 |k+1,acc,c::r=>by
  show spl S k acc r=spl S 0 acc (r.drop k);exact xW S k acc r
theorem E4{S:List Nat}(z:S≠[]):pre S []=false:=by
 cases S with
 |nil=>exact absurd rfl z
 |cons s S=>rfl
theorem nZ{L:List Nat}{a:Nat}(h:a<L.length):∃c,L.drop a=c::L.drop (a+1):=⟨L[a],Pk h⟩
theorem wy(S L:List Nat):∀(m a:Nat)(acc:List Nat),a+m<=L.length->(∀k,a<=k->k<a+m->pre S (L.drop k)=false)->
  spl S 0 acc (L.drop a)=spl S 0 (acc++(L.drop a).take m) (L.drop (a+m))
 |0,a,acc,_,_=>by rw[take_zero,OC,Nat.add_zero]
 |m+1,a,acc,h,F=>by
  have z:a<L.length:=by lia
  obtain⟨c,e⟩:=nZ z;have I:=F a (NX _) (by lia);have J:=wy S L m (a+1) (acc++[c]) (by lia) (fun k h1 h2=>F k (by lia) (by lia));have M:a+1+m=a+(m+1):=by lia
  rw[M] at J;rw[e] at I;rw[e,spl_miss I,J,RQ,Oz]<;>rfl
theorem Dz(L:List Nat)(a b:Nat):(L.drop a).drop b=L.drop (a+b):=by
 first
  |rw[SZ]
  |rw[SZ,Sk]
theorem HA{S L:List Nat}(z:S≠[]){c:Nat}{acc:List Nat}(h:pre S (L.drop c)=true):spl S 0 acc (L.drop c)=acc::spl S 0 [] (L.drop (c+S.length)):=by
 rw[<-Dz];cases e:L.drop c with
 |nil=>rw[e,E4 z] at h;cases h
 |cons d r=>
  rw[e] at h;rw[spl_hit h,xW];cases S with
  |nil=>exact absurd rfl z
  |cons s S=>rfl
theorem DA{x y:N_}(z:tl y≠[])(i:Nat):At x y x.length i↔pre (tl y) ((tl x).drop i)=true:=by
 have I:=pD x;have hl:=pD y;constructor
 ·intro h;have h2:=h.2;rw[subAt_eq,hl] at h2;exact h2
 ·intro h;have e:((tl x).drop i).take (tl y).length=tl y:=eq_of_beq h;have F:=congrArg Os e;rw[QE,Q5] at F;have J:0<(tl y).length:=RR.mpr z;refine⟨by lia,?_⟩;rw[subAt_eq,hl];exact h
theorem Gh{x y:N_}(z:tl y≠[]){i:Nat}(h:¬At x y x.length i):pre (tl y) ((tl x).drop i)=false:=by
 cases F:pre (tl y) ((tl x).drop i) with
 |false=>rfl
 |true=>exact absurd ((DA z i).mpr F) h
theorem c_{y:N_}(z:tl y≠[]):1<=y.length:=by
 have F:0<(tl y).length:=RR.mpr z;rw[pD y];exact F
theorem vg(x:N_)(i j:Nat):tl (strSub x i j)=((tl x).drop i).take (j-i):=strSub_toList x i j
theorem uy(x:N_)(i:Nat):tl (strSub x i x.length)=(tl x).drop i:=by
 rw[vg,pD x];exact OD (by rw[Q5]<;>lia)
theorem vh{x y:N_}(F:tl y≠[]):∀(z:List Nat)(a f:Nat),a<=(tl x).length->ChainG x y x.length a z f->(∀k,f<=k->¬At x y x.length k)->
  (partsFrom x y.length a z).map tl=spl (tl y) 0 [] ((tl x).drop a)
 |[],a,f,ha,h,I=>by
  have e:f=a:=h;subst e;show[tl (strSub x f x.length)]=_;have run:=wy (tl y) (tl x) ((tl x).length-f) f [] (by lia) (fun k h1 _=>Gh F (I k h1));have J:f+((tl x).length-f)=(tl x).length:=by lia
  rw[J,drop_length,spl_nil,Pd,OD (by rw[Q5]<;>lia)] at run;rw[run,uy]
 |c::r,a,f,ha,h,I=>by
  obtain⟨h1,h2,L,M⟩:=h;have Y:c+y.length<=x.length:=h2.1;have Z:=pD x;have hl:=pD y;have O:=vh F r (c+y.length) f (by lia) M I;show tl (strSub x a c)::(partsFrom x y.length (c+y.length) r).map tl=_;have run:=wy (tl y) (tl x) (c-a) a [] (by lia) (fun k S k2=>Gh F (L k S (by lia)));have J:a+(c-a)=c:=by lia
  rw[J,Pd,HA F ((DA F c).mp h2)] at run;rw[run,O,vg,hl]
theorem split_spl(x y:N_)(F:tl y≠[])(I:¬Ox.Str.strKind x<Ox.Str.strKind y):(Txt.split x y).map tl=spl (tl y) 0 [] (tl x):=by
 obtain⟨f,g,J⟩:=occ_tight x y (c_ F);have key:=vh F _ 0 f (OA _) g J;rw[RJ] at key
 have none_case:occurrences x y 0 x.length (x.length+1)=[]->[x].map tl=spl (tl y) 0 [] (tl x):=fun z=>by
  rw[z] at key;rw[<-key];show[tl x]=[tl (strSub x 0 x.length)];rw[sub_whole]
 unfold Txt.split;by_cases h1:(decide (x.length<y.length)||decide (Ox.Str.strKind x<Ox.Str.strKind y))=true
 ·rw[if_pos h1]
  have L:x.length<y.length:=by
   simp only[Pa,decide_eq_true_eq] at h1;rcases h1 with h|h
   ·exact h
   ·exact absurd h I
  refine none_case ?_;cases z:occurrences x y 0 x.length (x.length+1) with
  |nil=>rfl
  |cons c r=>
   rw[z] at g;have M:c+y.length<=x.length:=g.2.1.1;lia
 ·rw[if_neg h1];by_cases h2:(occurrences x y 0 x.length (x.length+1)).isEmpty=true
  ·rw[if_pos h2];exact none_case (isEmpty_iff.mp h2)
  ·rw[if_neg h2,partsBetween_eq];exact key
def joinL(S:List Nat):List (List Nat)->List Nat
 |[]=>[]
 |[p]=>p
 |p::q::r=>p++(S++joinL S (q::r))
theorem tl_join(y:N_):∀F:List N_,tl (N_.join y F)=joinL (tl y) (F.map tl)
 |[]=>rfl
 |[_]=>rfl
 |x::z::r=>by
  show tl (x++y++N_.join y (z::r))=tl x++(tl y++joinL (tl y) ((z::r).map tl));rw[vf,vf,tl_join y (z::r),Oz]
theorem join_eq(y:N_)(z:List N_):Txt.join y z=N_.join y z:=glued_eq_join y z
end TL
end
namespace L2
open PySem PySem.Spec PyProof.Rows
theorem vi:∀l:List (N_×Ve),bT ((l.map (·.1)).map V.str) (Vk l)
 |[]=>.nil
 |p::r=>.cons ⟨p.2,rfl⟩ (vi r)
theorem jR:∀{ys:List N_}{us:List NU},bT (ys.map V.str) us->StrsAre us ys
 |[],_,.nil=>.nil
 |y::ys,_,.cons r t=>by
  obtain⟨k,rfl⟩:=r;exact .cons y k (jR t)
def iF(ys:List N_):Hp->VK->Prop:=fun H Q=>∀p,H p=none->Q (.ref p) (upd H p (.lst (ys.map V.str)))
section
variable{X:Cx}{pins:List (Addr×Obj)}{σ:St}{H:Hp}{s:NY}{Q:VK}
theorem pE{l:List (N_×Ve)}{ys:List N_}{k:Nat}(I:Inv X pins σ H s)(e:l.map (·.1)=ys)(z:ys.length<=sizeLine)(h:iF ys H Q):
  EP X pins σ Q (.ref s.heap.objs.size) {s with toks:=k,heap:=s.heap.push {cls:=.type "list",data:=.seq (Vk l).toArray}}:=by
 have F:=I.hok.fresh (NX _);refine⟨.ref s.heap.objs.size,upd H s.heap.objs.size (.lst (ys.map V.str)),I.laid (fun b u q=>Heap.get?_push_of_some _ q) (NX _) ⟨by rw[NV];exact z,Vk l,_,?_,Heap.get?_push_size _ rfl⟩,rfl,h _ F⟩;rw[<-e];exact vi l
end
section
variable{X:Cx}
theorem DB:Dj X "str.split" (fun x xs H Q=>∃a b,x=.str a/\xs=[.str b]/\(b.length==0)=false/\a.length+2<=sizeLine/\iF (Txt.split a b) H Q):=by
 intro pins s σ H x xs v us Q I J rs h;obtain⟨a,b,rfl,rfl,hb,L,h⟩:=h;obtain⟨t,rfl⟩:=J;cases rs with
 |cons M rs=>
  cases rs;obtain⟨u,rfl⟩:=M;have hl:(Txt.split a b).length<=sizeLine:=Od (PyProof.Rows.split_le a b) L
  have O:(Ox.Str.partsBetween a (Ox.Str.occurrences a b 0 a.length (a.length+1)) b.length).length<=sizeLine:=by
   have S:=StrLaws.occ_length_le a b 0 a.length (a.length+1);rw[length_partsBetween];lia
  cases h1:(decide (a.length<b.length)||decide (Ox.Str.strKind a<Ox.Str.strKind b))
  ·cases z:(Ox.Str.occurrences a b 0 a.length (a.length+1)).isEmpty
   ·refine Q0 F.slot_str_split (QZ _ _ _) F.entry_str_split (F.args_str_split_2 _ _) (meets_str_split_sep a b t u h1 hb z (by lia) O) ?_;show EP X pins σ Q (.ref s.heap.objs.size) {s with toks:=_,heap:=s.heap.push {cls:=.type "list",data:=.seq (strsFrom s.toks (Ox.Str.partsBetween a (Ox.Str.occurrences a b 0 a.length (a.length+1)) b.length)).toArray}};rw[strsFrom_eq];exact pE (ys:=Txt.split a b) I ((numbered_texts _ _).trans ((if_neg (ne_true_of_eq_false h1)).trans (if_neg (ne_true_of_eq_false z))).symm) hl h
   ·refine Q0 F.slot_str_split (QZ _ _ _) F.entry_str_split (F.args_str_split_2 _ _) (meets_str_split_not_found a b t u h1 hb z) ?_;exact pE (l:=[(a,t)]) (ys:=Txt.split a b) (k:=s.toks) I ((if_neg (ne_true_of_eq_false h1)).trans (if_pos z)).symm hl h
  ·refine Q0 F.slot_str_split (QZ _ _ _) F.entry_str_split (F.args_str_split_2 _ _) (meets_str_split_cannot_occur a b t u h1) ?_;exact pE (l:=[(a,t)]) (ys:=Txt.split a b) (k:=s.toks) I (if_pos h1).symm hl h
theorem E5:Dj X "str.join" (fun x xs H Q=>∃a p,∃ys:List N_,x=.str a/\xs=[.ref p]/\(aI X.K H p (ys.map V.str)\/gI X.K H p (ys.map V.str))/\
  (ys.map (·.length)).sum+ys.length*a.length<=16777216/\Q (.str (Txt.join a ys)) H):=by
 intro pins s σ H x xs v us Q I J rs h;obtain⟨a,p,ys,rfl,rfl,z,F,h⟩:=h;obtain⟨t,rfl⟩:=J;cases rs with
 |cons L rs=>
  cases rs;cases L;rcases z with z|z
  ·obtain⟨its,r,⟨o,n,M,O,_,hd⟩,_⟩:=I.list z;exact PyProof.Rows.join_list (items:=its.toArray) ⟨o,M,O,n,hd⟩ (by rw[UN];exact jR r) F fun t' k=>⟨.str _,H,I.tok k,⟨t',rfl⟩,h⟩
  ·obtain⟨its,r,S,_⟩:=I.tuple z;exact PyProof.Rows.join_tuple (items:=its.toArray) S (by rw[UN];exact jR r) F fun t' k=>⟨.str _,H,I.tok k,⟨t',rfl⟩,h⟩
theorem JW{id:String}{C:N_->Prop}{g:N_->V}(rule:∀(a:N_)(t:Ve)(s:NY)(Q:NU->NY->Prop),C a->(∀(u:NU)(k:Nat),O6 (g a) u->Q u {s with toks:=k})->
  wpAny (model X.prog X.w) X.A (call (.builtin id) [.str a t]) Q X.xe s):Dj X id (fun x xs H Q=>∃a,x=.str a/\xs=[]/\C a/\Q (g a) H):=by
 intro pins s σ H x xs v us Q I z rs h;obtain⟨a,rfl,rfl,F,h⟩:=h;obtain⟨t,rfl⟩:=z;cases rs;exact rule a t s _ F fun u k r=>⟨g a,H,I.tok k,r,h⟩
theorem zx:Dj X "str.isdigit" (fun x xs H Q=>∃a,x=.str a/\xs=[]/\True/\Q (.bl (Txt.isdigit a)) H):=
 JW (C:=fun _=>True) (g:=fun a=>.bl (Txt.isdigit a)) fun _ _ s _ _ h=>PySem.SC.isdigit (h _ s.toks rfl)
theorem zy:Dj X "str.isalpha" (fun x xs H Q=>∃a,x=.str a/\xs=[]/\True/\Q (.bl (Txt.isalpha a)) H):=
 JW (C:=fun _=>True) (g:=fun a=>.bl (Txt.isalpha a)) fun _ _ s _ _ h=>PySem.SC.isalpha (h _ s.toks rfl)
theorem zz:Dj X "str.isalnum" (fun x xs H Q=>∃a,x=.str a/\xs=[]/\True/\Q (.bl (Txt.isalnum a)) H):=
 JW (C:=fun _=>True) (g:=fun a=>.bl (Txt.isalnum a)) fun _ _ s _ _ h=>PySem.SC.isalnum (h _ s.toks rfl)
theorem Kp{id:String}{g:N_->N_->V}(rule:∀(a b:N_)(t u:Ve)(s:NY)(Q:NU->NY->Prop),(∀(v:NU)(k:Nat),O6 (g a b) v->Q v {s with toks:=k})->
  wpAny (model X.prog X.w) X.A (call (.builtin id) [.str a t,.str b u]) Q X.xe s):Dj X id (fun x xs H Q=>∃a b,x=.str a/\xs=[.str b]/\Q (g a b) H):=by
 intro pins s σ H x xs v us Q I z rs h;obtain⟨a,b,rfl,rfl,h⟩:=h;obtain⟨t,rfl⟩:=z;cases rs with
 |cons F rs=>
  cases rs;obtain⟨u,rfl⟩:=F;exact rule a b t u s _ fun v k r=>⟨g a b,H,I.tok k,r,h⟩
theorem xX:Dj X "str.count" (fun x xs H Q=>∃a b,x=.str a/\xs=[.str b]/\Q (.int (Txt.count a b)) H):=
 Kp (g:=fun a b=>.int (Txt.count a b)) fun _ _ _ _ s _ h=>PySem.SC.count (h _ (s.toks+1) ⟨_,rfl⟩)
theorem b7:g8 X (.type "int") (fun xs H Q=>∃a n,xs=[.str a]/\PySem.intText? a=some n/\a.length<=640/\Q (.int n) H):=by
 intro pins s σ H xs us Q I rs h;obtain⟨a,n,rfl,z,hl,h⟩:=h;cases rs with
 |cons F rs=>
  cases rs;obtain⟨t,rfl⟩:=F;exact PySem.W.KIN.call_text z hl ⟨.int n,H,I.tok _,⟨_,rfl⟩,h⟩
end
section
variable{X:Cx}{o e:OH}{to te:TE}
def Jf(r:V->List V->Hp->VK->Prop)(to:TE):TE:=fun σ H Q=>to σ H fun x H1=>(∃a,x=.str a)/\r x [] H1 Q
def HB(r:V->List V->Hp->VK->Prop)(to te:TE):TE:=fun σ H Q=>to σ H fun x H1=>(∃a,x=.str a)/\te σ H1 fun y H2=>r x [y] H2 Q
theorem DC{id:String}{name:N_}{apos pos:Q2}{r:V->List V->Hp->VK->Prop}(slot:Slot "str" name id)(ty:typeOf (.builtin id)=pure (.type "method_descriptor"))(rule:Dj X id r)(O:PE X o to)(z:PD o name X.env (eval o X.env)=eval o X.env:=by rfl)(J:(apos.endLine==pos.line)=true:=by rfl):PE X (.Call (.Attribute o name apos) [] [] pos) (Jf r to):=by
 intro pins s σ H Q I h;refine PySem.Call_method0 z J (dQ (O pins s σ H _ I h) fun v S ⟨x,H1,Y,M,L⟩=>?_);obtain⟨⟨a,rfl⟩,L⟩:=L;obtain⟨t,rfl⟩:=_root_.id M;exact⟨"str",_,F.plainAttrs_str,slot,ty,QZ _ _ _,(fun _ e=>nomatch e),Calls.callWith_builtin rfl (PySem.evalArgs_none (rule pins S σ H1 _ [] _ [] Q Y M .nil L))⟩
theorem AS{id:String}{name:N_}{apos pos:Q2}{r:V->List V->Hp->VK->Prop}(slot:Slot "str" name id)(ty:typeOf (.builtin id)=pure (.type "method_descriptor"))(rule:Dj X id r)(O:PE X o to)(he:PE X e te)(hs:starEach [e] X.env=[(false,eval e X.env)]:=by rfl)(z:PD o name X.env (eval o X.env)=eval o X.env:=by rfl)(J:(apos.endLine==pos.line)=true:=by rfl):
  PE X (.Call (.Attribute o name apos) [e] [] pos) (HB r to te):=by
 intro pins s σ H Q I h;refine PySem.Call_method1 z hs J (dQ (O pins s σ H _ I h) fun v S ⟨x,H1,Y,M,L⟩=>?_);obtain⟨⟨a,rfl⟩,L⟩:=L;obtain⟨t,rfl⟩:=_root_.id M;refine⟨"str",_,F.plainAttrs_str,slot,ty,QZ _ _ _,(fun _ e=>nomatch e),Calls.callWith_builtin rfl (Calls.evalArgs_plain (Calls.spliced_cons ?_))⟩;exact dQ (he pins S σ H1 _ Y L) fun u Z ⟨y,H2,I2,r2,q2⟩=>Calls.spliced_nil (rule pins Z σ H2 _ [y] _ [u] Q I2 M (.cons r2 .nil) q2)
theorem iG{apos pos:Q2}(J:PE X o to)(he:PE X e te)(hs:starEach [e] X.env=[(false,eval e X.env)]:=by rfl)(z:PD o "split" X.env (eval o X.env)=eval o X.env:=by rfl)(I:(apos.endLine==pos.line)=true:=by rfl):
  PE X (.Call (.Attribute o "split" apos) [e] [] pos) (HB (fun x xs H Q=>∃a b,x=.str a/\xs=[.str b]/\(b.length==0)=false/\a.length+2<=sizeLine/\iF (Txt.split a b) H Q) to te):=
 AS F.slot_str_split F.type_str_split DB J he hs z I
theorem E6{apos pos:Q2}(J:PE X o to)(he:PE X e te)(hs:starEach [e] X.env=[(false,eval e X.env)]:=by rfl)(z:PD o "join" X.env (eval o X.env)=eval o X.env:=by rfl)(I:(apos.endLine==pos.line)=true:=by rfl):
  PE X (.Call (.Attribute o "join" apos) [e] [] pos) (HB (fun x xs H Q=>∃a p,∃ys:List N_,x=.str a/\xs=[.ref p]/\(aI X.K H p (ys.map V.str)\/gI X.K H p (ys.map V.str))/\
   (ys.map (·.length)).sum+ys.length*a.length<=16777216/\Q (.str (Txt.join a ys)) H) to te):=
 AS F.slot_str_join F.type_str_join E5 J he hs z I
end
end L2
namespace L2
open PySem PySem.Spec PyProof.Rows
section
variable{X:Cx}
end
theorem T_.raw{v:NU}{o:Option Int}(p:T_ v o):∃l:Option (Int×Ve),v=partValue l/\l.map (·.1)=o:=by
 cases p with
 |none=>exact⟨none,rfl,rfl⟩
 |int i t=>exact⟨some (i,t),rfl,rfl⟩
def xY(n d:Nat):Option Int->Int
 |none=>(d:Int)
 |some i=>max 0 (min (if i<0 then i+(n:Int) else i) (n:Int))
theorem xZ(n d:Nat)(o:Option Int):xY n d o=((HT.sIx n d o:Nat):Int):=by
 cases o with
 |none=>rfl
 |some v=>
  show max (0:Int) (min (if v<0 then v+(n:Int) else v) (n:Int))=(((if v<0 then(v+(n:Int)).toNat else min v.toNat n):Nat):Int);by_cases hv:v<0
  ·simp only[if_pos hv];lia
  ·simp only[if_neg hv];lia
theorem BM(a b:Option Int)(n:Nat):Ox.Str.strSliceIndices a b 1 n=sliceRange (xY n 0 a) (xY n n b) 1:=by
 have h1:((1:Int)>0)=True:=by simp
 cases a<;>cases b<;>first
  |rfl
  |(simp only[Ox.Str.strSliceIndices,xY,h1,if_true];rfl)
  |simp[Ox.Str.strSliceIndices,xY]
theorem JX(a b:Option Int)(n:Nat):Ox.Str.strSliceIndices a b 1 n=(N0 (HT.sIx n n b-HT.sIx n 0 a)).map (fun k=>HT.sIx n 0 a+k):=by
 rw[BM,xZ,xZ];generalize HT.sIx n 0 a=p;generalize HT.sIx n n b=q;simp only[sliceRange,show((1:Int)>0)=True from by simp,if_true];by_cases z:(p:Int)<q
 ·have F:(((q:Int)-p+1-1)/1).toNat=q-p:=by first|lia|(simp;done)|(simp;lia)
  simp only[z,if_true,F];refine Om fun k _=>?_;lia
 ·have:q-p=0:=by lia
  simp[z,this]
def zA(z:N_)(lo hi:Option Int):N_:=
 ⟨((z.cps.toList.drop (HT.sIx z.length 0 lo)).take (HT.sIx z.length z.length hi-HT.sIx z.length 0 lo)).toArray⟩
theorem mG(z:N_)(lo hi:Option Int):PySem.StrLaws.sliceText z lo hi=zA z lo hi:=by
 have h1:HT.sIx z.length 0 lo<=z.length:=HT.sIx_le _ _ (OA _) _;have h2:HT.sIx z.length z.length hi<=z.length:=HT.sIx_le _ _ (NX _) _;have F:HT.sIx z.length 0 lo<=max (HT.sIx z.length 0 lo) (HT.sIx z.length z.length hi):=Nat.le_max_left _ _;have I:max (HT.sIx z.length 0 lo) (HT.sIx z.length z.length hi)<=z.length:=Nat.max_le.mpr ⟨h1,h2⟩;have hd:max (HT.sIx z.length 0 lo) (HT.sIx z.length z.length hi)-HT.sIx z.length 0 lo=HT.sIx z.length z.length hi-HT.sIx z.length 0 lo:=by lia
 have e:Ox.Str.strSliceIndices lo hi 1 z.length=
   Ox.Str.strSliceIndices (some ((HT.sIx z.length 0 lo:Nat):Int)) (some ((max (HT.sIx z.length 0 lo) (HT.sIx z.length z.length hi):Nat):Int)) 1 z.length:=by
  rw[PySem.StrLaws.strSliceIndices_plain F I,hd,JX]
 have J:PySem.StrLaws.sliceText z lo hi=
   PySem.StrLaws.sliceText z (some ((HT.sIx z.length 0 lo:Nat):Int)) (some ((max (HT.sIx z.length 0 lo) (HT.sIx z.length z.length hi):Nat):Int)):=by
  unfold PySem.StrLaws.sliceText;rw[e]
 rw[J,PySem.StrLaws.sliceText_nat z F I,hd];rfl
theorem x4(z:N_)(lo hi:Option Int):(zA z lo hi).length<=z.length:=by
 show(((z.cps.toList.drop (HT.sIx z.length 0 lo)).take (HT.sIx z.length z.length hi-HT.sIx z.length 0 lo)).toArray).size<=z.cps.size;rw[Ow,QE,Q5,Array.length_toList];lia
def E7:V->Option Int->Option Int->Hp->VK->Prop:=fun x lo hi H Q=>∃z,x=.str z/\z.length<=sizeLine/\Q (.str (zA z lo hi)) H
theorem HC{X:Cx}:JR X E7:=by
 intro pins s σ H x v vl Z lo hi sl Q I O hs pl S h;obtain⟨z,rfl,Y,q⟩:=h;obtain⟨t,rfl⟩:=O;obtain⟨os,J,L,M⟩:=hs;obtain⟨l,rfl,rfl⟩:=T_.raw pl;obtain⟨u,rfl,rfl⟩:=T_.raw S;refine⟨"str",_,F.slot_str_getitem.lookup,QZ _ _ _,?_⟩;refine wpAny_getItem_str_slice (l:=l) (u:=u) (st:=none) ⟨os,J,L,M⟩ rfl ?_
 have hl:(PySem.StrLaws.sliceText z (l.map (·.1)) (u.map (·.1))).length<=sizeLine:=by
  rw[mG];exact Od (x4 z _ _) Y
 rw[<-mG] at q;unfold PySem.StrLaws.sliceText at q hl
 show Made.post (if ((1:Int)==1&&(Ox.Str.strSliceIndices (l.map (·.1)) (u.map (·.1)) 1 z.length).length==z.length)=true then Made.val (.str z t)
  else Made.str ⟨((Ox.Str.strSliceIndices (l.map (·.1)) (u.map (·.1)) 1 z.length).filterMap (z.cps[·]?)).toArray⟩) (EP X pins σ Q) s
 by_cases c:((1:Int)==1&&(Ox.Str.strSliceIndices (l.map (·.1)) (u.map (·.1)) 1 z.length).length==z.length)=true
 ·rw[if_pos c] at q ⊢;exact⟨.str z,H,I,⟨t,rfl⟩,q⟩
 ·rw[if_neg c] at q hl ⊢;exact⟨hl,.str _,H,I.tok _,⟨_,rfl⟩,q⟩
end L2
namespace Att
open PySem PySem.W PySem.Calls PyProof.Rows
section
variable{prog:N3}{w:Oh}{A:OG}{E:NU->NY->Prop}{s:NY}{K:Tp}
end
end Att
namespace L2
open PySem PySem.Spec PyProof.Rows
end L2
namespace L2
open PySem PySem.Spec PyProof.Rows
end L2
namespace L2
open PySem PySem.Spec PyProof.Rows
def hZ(s:OE)(j:Nat):OE:=match s with
 |.ClassDef _ _ _ z _ _ _ _ _ _ _=>z.getD j (.Pass ⟨0,0,0,0⟩)
 |_=>.Pass ⟨0,0,0,0⟩
def i5(s:OE):Arguments:=match s with
 |.FunctionDef _ a _ _ _ _ _ _ _ _=>a
 |_=>{posonlyargs:=[],args:=[],vararg:=none,kwonlyargs:=[],kw_defaults:=[],kwarg:=none,defaults:=[]}
def gN(s:OE):List OE:=match s with
 |.FunctionDef _ _ b _ _ _ _ _ _ _=>b
 |_=>[]
def ap(s:OE):QA:=match s with
 |.FunctionDef _ _ _ _ _ _ z _ _ _=>z
 |_=>{kind:=.function,names:=[],isGenerator:=false,isCoroutine:=false}
abbrev CZ:BE:=fun _ _ _ _ _ _=>False
abbrev E0:XK:=fun _ _ _=>False
theorem i6{X:Cx}:nh CZ X E0:=fun _ _ _ _ _ _ _ h=>h.elim
structure E8 (K:PySem.W.Frag) (x qual:N_) (st:OE) (f:Addr) (fd:Qm):Prop where
 ex:∃(oc:NU)(od:Option Addr)(kV doc pm:NU)(an:Option Addr)(cdv ct:NU)(osl:Array (Option NU)),
  fd=PySem.W.fnOf x qual (i5 st) (gN st) (ap st) .none kV doc pm an cdv ct/\K.lookup f=some ⟨oc,od,.func fd,osl⟩/\PySem.W.codeIn K cdv qual=true
 kp:PySem.W.keepIn K (.ref f)=true
section
variable{P:N3}{w:Oh}{K:PySem.W.Frag}{mg:N_->Option NU}{base:Heap}
theorem E8.ok{x z:N_}{st:OE}{f:Addr}{fd:Qm}{N ps:List N_}{k:Nat}{sp:Sp}(F:E8 K x z st f fd)(S:ax N ps (ap st))(len:∀vs H Q E,sp vs H Q E->vs.length=ps.length)(J:∀(I:NU)(A:OG)(outer:List Tk)(s:NY)(H:Hp)(vs:List V)(Q:VK)(E:XK),gr k (A.deeper (Si z (ap st) s.heap.objs.size f I))->sp vs H Q E->
   ∃t,Ay (xG CZ P w K mg base N z (ap st) f I A outer s H E).nox (gN st) t/\t {nx:=fun _ H'=>Q .non H',rt:=Q} (start N vs) H):jO P w K mg base CZ (k+1) f fd ps sp:=by
 obtain⟨oc,od,kV,O,pm,an,I,ct,Y,rfl,Z,L⟩:=F.ex;refine IN Z L S len fun A outer s H vs Q E hr M=>?_;obtain⟨t,h,q⟩:=J I A outer s H vs Q E hr M;exact⟨t,h.nox,q⟩
def lnA(P:List NU->Prop):List N_->Prop
 |[]=>P []
 |_::l=>∀a,lnA (fun us=>P (a::us)) l
theorem lnB:∀(l:List N_){P:List NU->Prop},lnA P l->∀us,us.length=l.length->P us
 |[],_,h,[],_=>h
 |_::l,_,h,a::us,e=>lnB l (h a) us (Nat.succ.inj e)
def D9(x q:N_)(st:OE)(ps:List N_):Prop:=∀(kV z I:NU)(J:Option Addr)(F ct:NU),lnA (fun us=>Vw (PySem.W.fnOf x q (i5 st) (gN st) (ap st) .none kV z I J F ct) ⟨us,[]⟩=pure (ps.zip us)) ps
theorem E8.binds{x z:N_}{st:OE}{f:Addr}{fd:Qm}{ps:List N_}(F:E8 K x z st f fd)(h:D9 x z st ps:=by (repeat intro _);rfl):Binds K fd ps []:=by
 obtain⟨Y,Z,kV,I,L,M,J,ct,O,rfl,lk,S⟩:=F.ex;exact .all (lnB _ (h kV I L M J ct))
theorem zB{x z:N_}{st:OE}{f:Addr}{O:NU}{S L:Option Addr}{J:Array (Option NU)}{kV I M F ct:NU}(l:K.lookup f=some ⟨O,S,.func (PySem.W.fnOf x z (i5 st) (gN st) (ap st) .none kV I M L F ct),J⟩)(c:PySem.W.codeIn K F z=true)(k:PySem.W.keepIn K (.ref f)=true):E8 K x z st f (PySem.W.fnOf x z (i5 st) (gN st) (ap st) .none kV I M L F ct):=⟨⟨O,S,kV,I,M,L,F,ct,J,rfl,l,c⟩,k⟩
end
theorem x8{A:OG}{k:Nat}(z:gr k A):A.units+1<SE:=O8 (Nat.add_le_add_left (by decide:1<=64) _) z.units
section
variable{X:Cx}
theorem pv(i:Nat){x:N_}{pos:Q2}(F:X.N[i]?=some x:=by rfl)(hv:Ir X.env.scope x:=by first|exact Or.inl rfl|exact Or.inr (Or.inl rfl)|exact Or.inr (Or.inr rfl))(hd:(x==("__debug__":N_))=false:=by decide)(z:(x==("__classdict__":N_))=false:=by decide):PE X (.Name x pos) (fX i):=GF F hv hd z
theorem vj:g8 X (.builtin "len") (fun xs H Q=>∃a kvs,xs=[V.ref a]/\H a=some (.dK kvs)/\Q (.int kvs.length) H):=by
 intro pins s σ H xs us Q I r h;obtain⟨a,kvs,rfl,ha,q⟩:=h;obtain⟨u,rfl,z⟩:=Vv r;cases z;exact Jc I (.inl ha) fun t s' F=>⟨.int kvs.length,H,F,⟨t,rfl⟩,q⟩
end
theorem qS{c A B:Prop}[Decidable c](h1:c->A)(h2:¬c->B):if c then A else B:=by
 by_cases h:c
 ·rw[if_pos h];exact h1 h
 ·rw[if_neg h];exact h2 h
def Same(H H':Hp):Prop:=∀b o,H b=some o->H' b=some o
theorem Same.refl(H:Hp):Same H H:=fun _ _ h=>h
theorem Same.trans{H H1 H2:Hp}(a:Same H H1)(b:Same H1 H2):Same H H2:=fun c o h=>b c o (a c o h)
theorem Same.free{H H':Hp}(e:Same H H'){l:Addr}(h:H' l=R1):H l=R1:=by
 cases q:H l with
 |none=>rfl
 |some o=>
  rw[e l o q] at h;cases h
theorem Same.seq{K:PySem.W.Frag}{H H':Hp}{a:Addr}{xs:List V}(e:Same H H')(h:aI K H a xs):aI K H' a xs:=by
 rcases h with(h|⟨o,h⟩)|h
 ·exact .inl (.inl (e _ _ h))
 ·exact .inl (.inr ⟨o,e _ _ h⟩)
 ·exact .inr h
section
variable{κ:Type}[DecidableEq κ]
theorem DD{kvs:List (κ×V)}{k:κ}(h:dH kvs k=none):¬k∈kvs.map (·.1):=by
 intro m;obtain⟨p,z,e⟩:=Oq.mp m;have q:(kvs.any fun F=>decide (F.1=k))=true:=SH.mpr ⟨p,z,decide_eq_true e⟩;rw[jv,h] at q;exact absurd q (by simp)
theorem AT:∀{l:List κ}{k:κ},l.Nodup->¬k∈l->(l++[k]).Nodup
 |[],k,_,_=>by simp
 |a::r,k,h,z=>by
  obtain⟨h1,h2⟩:=Pq.mp h;show(a::(r++[k])).Nodup;refine Pq.mpr ⟨fun m=>?_,AT h2 fun m=>z (Og.mpr (Or.inr m))⟩;rcases OK.mp m with q|q
  ·exact h1 q
  ·exact z (Og.mpr (Or.inl (OT.mp q).symm))
theorem E9{kvs:List (κ×V)}{k:κ}(v:V)(z:(kvs.map (·.1)).Nodup)(h:dH kvs k=none):((hJ kvs k v).map (·.1)).Nodup:=by
 rw[xS v h,Oj];exact AT z (DD h)
end
theorem Gi{xs:List V}{z:Int}{j:Nat}{v:V}(e:z=(j:Int))(h:xs[j]?=some v):AG xs z=some v:=by
 rw[e];exact rO h
theorem DE{α:Type}{l:List α}(z:l.Nodup){i j:Nat}{x:α}(a:l[i]?=some x)(b:l[j]?=some x):i=j:=by
 obtain⟨h1,F⟩:=N4.mp a;obtain⟨h2,I⟩:=N4.mp b;exact(getElem_inj z).mp (F.trans I.symm)
theorem Same.made{H H1:Hp}{x dx C:Addr}(nx:H x=R1)(nd:H dx=R1)(k:∀b o,(upd (upd H dx (.own x)) x (.ins C dx [])) b=some o->b≠x->H1 b=some o):Same H H1:=fun b o e=>
 k b o (by rw[aj (aw e nx),aj (aw e nd)];exact e) (aw e nx)
end L2
namespace L2
open PySem PySem.Spec PyProof.Rows
open PySem.W (WData Codec OpenSpec Well WellAll ReadsW ReadsAllW)
mutual
inductive Dw (K:PySem.W.Frag) (H:Hp):V->PZ->Prop
 |non:Dw K H .non .none
 |bl (b:Bool):Dw K H (.bl b) (.bool b)
 |int (i:Int):Dw K H (.int i) (.int i)
 |str (x:N_):Dw K H (.str x) (.str x)
 |byt (b:Array UInt8):Dw K H (.byt b) (.bytes b.toList)
 |lst {a:Addr} {xs:List V} {ds:List PZ}:aI K H a xs->jw K H xs ds->Dw K H (.ref a) (.list ds)
 |tup {a:Addr} {xs:List V} {ds:List PZ}:gI K H a xs->jw K H xs ds->Dw K H (.ref a) (.tuple ds)
inductive jw (K:PySem.W.Frag) (H:Hp):List V->List PZ->Prop
 |nil:jw K H [] []
 |cons {v:V} {vs:List V} {d:PZ} {ds:List PZ}:Dw K H v d->jw K H vs ds->jw K H (v::vs) (d::ds)
end
theorem AU{K:PySem.W.Frag}{H:Hp}:∀ns:List Int,jw K H (ns.map V.int) (ns.map PZ.int)
 |[]=>.nil
 |n::r=>.cons (.int n) (AU r)
theorem AV{K:PySem.W.Frag}{H:Hp}:∀(ns:List Int)(xs:List V),jw K H xs (ns.map PZ.int)->xs=ns.map V.int
 |[],xs,h=>by
  cases h;rfl
 |n::r,xs,h=>by
  cases h with
  |cons h1 h2=>
   cases h1;rw[AV r _ h2]<;>rfl
section
variable{P:N3}{w:Oh}{K:PySem.W.Frag}{H:Hp}{h:Heap}{R:PySem.W.WRecords}{cl:N_->Option Addr}
theorem HD{a:Addr}{xs:List V}(hok:kL P w H h)(z:K.In h)(q:aI K H a xs):∃(its:List NU)(o:Obj)(n:Nat),bT xs its/\h.get? a=some o/\o.cls=.type "list"/\o.data=.seq its.toArray n:=by
 rcases q with q|⟨o,its,n,e,F,_,hd,_,hv⟩
 ·obtain⟨_,its,n,hv,e⟩:=(show eY P w H h a (.lst xs) from q.ok hok);exact⟨its,_,n,hv,e,rfl,rfl⟩
 ·exact⟨its.toList,o,n,hv,z _ _ e,F,by simp[hd]⟩
theorem HE{a:Addr}{xs:List V}(hok:kL P w H h)(F:K.In h)(q:gI K H a xs):∃(its:List NU)(o:Obj)(n:Nat),bT xs its/\h.get? a=some o/\o.cls=.type "tuple"/\o.data=.seq its.toArray n:=by
 rcases q with q|⟨o,its,n,e,z,hd,_,hv⟩
 ·obtain⟨_,its,hv,o,e,z,n,hd⟩:=(show eY P w H h a (.tup xs) from q.ok hok);exact⟨its,o,n,hv,e,z,hd⟩
 ·exact⟨its.toList,o,n,hv,F _ _ e,z,by simp[hd]⟩
mutual
theorem Dw.reads (hok:kL P w H h) (KX:K.In h):∀(d:PZ)(v:V)(u:NU),Dw K H v d->O6 v u->∃as,SI R cl h u d as
 |.none,_,_,x,r=>by
  cases x;cases r;exact⟨_,SI.none⟩
 |.bool b,_,_,x,r=>by
  cases x;cases r;exact⟨_,SI.bool b⟩
 |.int i,_,_,x,r=>by
  cases x;obtain⟨t,rfl⟩:=r;exact⟨_,SI.int i t⟩
 |.str s,_,_,x,r=>by
  cases x;obtain⟨t,rfl⟩:=r;exact⟨_,SI.str s t⟩
 |.bytes b,_,_,x,r=>by
  cases x;obtain⟨t,rfl⟩:=r;exact⟨_,SI.bytes _ t⟩
 |.list ds,_,_,x,r=>by
  cases x with
  |lst hs ha=>
   cases r;obtain⟨its,o,n,rv,ho,hc,hd⟩:=HD hok KX hs;obtain⟨as,hr⟩:=Dw.readsAll hok KX ds _ its ha rv;exact⟨_,SI.list ho hc hd hr⟩
 |.tuple ds,_,_,x,r=>by
  cases x with
  |tup hs ha=>
   cases r;obtain⟨its,o,n,rv,ho,hc,hd⟩:=HE hok KX hs;obtain⟨as,hr⟩:=Dw.readsAll hok KX ds _ its ha rv;exact⟨_,SI.tuple ho hc hd hr⟩
 |.float _,_,_,x,_=>by cases x
 |.dict _,_,_,x,_=>by cases x
 |.bytearray _,_,_,x,_=>by cases x
 |.set _,_,_,x,_=>by cases x
 |.frozenset _,_,_,x,_=>by cases x
 |.obj _ _,_,_,x,_=>by cases x
theorem Dw.readsAll (hok:kL P w H h) (KX:K.In h):∀(ds:List PZ)(vs:List V)(us:List NU),jw K H vs ds->bT vs us->∃as,Vl R cl h us ds as
 |[],_,_,x,r=>by
  cases x;cases r;exact⟨_,Vl.nil⟩
 |d::ds,_,_,x,r=>by
  cases x with
  |cons h1 h2=>
   cases r with
   |cons r1 r2=>
    obtain⟨as,q1⟩:=Dw.reads hok KX d _ _ h1 r1;obtain⟨bs,q2⟩:=Dw.readsAll hok KX ds _ _ h2 r2;exact⟨_,Vl.cons q1 q2⟩
end
end
mutual
def AW:PZ->Bool
 |.none=>true
 |.bool _=>true
 |.int _=>true
 |.str _=>true
 |.bytes _=>true
 |.list xs=>qT xs
 |.tuple xs=>qT xs
 |_=>false
def qT:List PZ->Bool
 |[]=>true
 |x::r=>AW x&&qT r
end
theorem x9{α:Type}{f:α->PZ}(h:∀a,AW (f a)=true):∀l:List α,qT (l.map f)=true
 |[]=>rfl
 |x::r=>by
  show(AW (f x)&&qT (r.map f))=true;rw[h x,x9 h r]<;>rfl
theorem k4:∀(c:QD)(a:c.denote),AW (c.enc a)=true
 |.unit,_=>rfl
 |.bool,_=>rfl
 |.int _ _,_=>rfl
 |.nat _ _,_=>rfl
 |.u8,_=>rfl
 |.bytes _ _,_=>rfl
 |.text _ _ _ _,_=>rfl
 |.list _ _ c,a=>x9 (fun x=>k4 c x) a
 |.pair c d,a=>by
  show(AW (c.enc a.1)&&(AW (d.enc a.2)&&true))=true;rw[k4 c a.1,k4 d a.2]<;>rfl
 |.triple c d e,a=>by
  show(AW (c.enc a.1)&&(AW (d.enc a.2.1)&&(AW (e.enc a.2.2)&&true)))=true;rw[k4 c a.1,k4 d a.2.1,k4 e a.2.2]<;>rfl
 |.option c,none=>rfl
 |.option c,some x=>k4 c x
theorem vm:∀(z:List QD)(a:QD.denoteAll z),qT (QD.encAll z a)=true
 |[],_=>rfl
 |c::z,a=>by
  show(AW (c.enc a.1)&&qT (QD.encAll z a.2))=true;rw[k4 c a.1,vm z a.2]<;>rfl
theorem ni:∀{xs:List PZ}{d:PZ},d∈xs->d.weight<=PZ.weightAll xs
 |[],d,h=>absurd h (by simp)
 |x::r,d,h=>by
  show d.weight<=x.weight+1+PZ.weightAll r;rcases Og.mp h with e|m
  ·rw[e];lia
  ·have z:=ni m;lia
def x_:NU->V
 |.none=>.non
 |.bool b=>.bl b
 |.int i _=>.int i
 |.str x _=>.str x
 |.bytes b _=>.byt b
 |.ref a=>.ref a
 |_=>.non
def BN(A:List Addr):NU->Prop
 |.none=>True
 |.bool _=>True
 |.int _ _=>True
 |.str _ _=>True
 |.bytes _ _=>True
 |.ref a=>a∈A
 |_=>False
theorem BN.mono{A B:List Addr}(h:∀a∈A,a∈B):∀{u:NU},BN A u->BN B u:=fun{u} x=>by
 cases u with
 |ref a=>exact h a x
 |none=>trivial
 |bool b=>trivial
 |int i t=>trivial
 |str s t=>trivial
 |bytes b t=>trivial
 |_=>exact False.elim x
theorem DF{A:List Addr}{u:NU}(x:BN A u):O6 (x_ u) u:=by
 cases u with
 |ref a=>rfl
 |none=>rfl
 |bool b=>rfl
 |int i t=>exact⟨t,rfl⟩
 |str s t=>exact⟨t,rfl⟩
 |bytes b t=>exact⟨t,rfl⟩
 |_=>exact False.elim x
theorem jx{A:List Addr}:∀{vs:List NU},(∀u∈vs,BN A u)->bT (vs.map x_) vs
 |[],_=>.nil
 |u::r,h=>.cons (DF (h u (Oi ..))) (jx fun x z=>h x (N5 _ z))
def kl(h:Heap)(A:List Addr)(a:Addr):Prop:=∃vs:List NU,vs.length<=sizeLine/\(∀u∈vs,BN A u)/\
 (h.get? a=some {cls:=.type "list",data:=.seq vs.toArray}\/h.get? a=some {cls:=.type "tuple",data:=.seq vs.toArray})
theorem kl.mono{h:Heap}{A B:List Addr}{a:Addr}(k:∀a∈A,a∈B)(x:kl h A a):kl h B a:=by
 obtain⟨vs,h1,h2,z⟩:=x;exact⟨vs,h1,fun u F=>(h2 u F).mono k,z⟩
theorem i7{P:SJ}{h:Heap}:∀{vs:List NU}{ds:List PZ},Sm P h vs ds->vs.length=ds.length
 |_,_,.nil=>rfl
 |_,_,.cons _ b=>by
  show _+1=_+1;rw[i7 b]
theorem vn{P:SJ}{h:Heap}{v:NU}{ds:List PZ}(x:Well P h v (.list ds)):∃(a:Addr)(vs:List NU),v=.ref a/\h.get? a=some {cls:=.type "list",data:=.seq vs.toArray}/\Sm P h vs ds:=by
 cases x with
 |list F z=>exact⟨_,_,rfl,F,z⟩
theorem sG{P:SJ}{h:Heap}{v:NU}{ds:List PZ}(x:Well P h v (.tuple ds)):∃(a:Addr)(vs:List NU),v=.ref a/\h.get? a=some {cls:=.type "tuple",data:=.seq vs.toArray}/\Sm P h vs ds:=by
 cases x with
 |tuple F z=>exact⟨_,_,rfl,F,z⟩
theorem vo{P:SJ}{h:Heap}{us:List NU}{d:PZ}{ds:List PZ}(x:Sm P h us (d::ds)):∃(v:NU)(vs:List NU),us=v::vs/\Well P h v d/\Sm P h vs ds:=by
 cases x with
 |cons a b=>exact⟨_,_,rfl,a,b⟩
theorem AX{n:Nat}(h:n<=1048576):n<=sizeLine:=Od h (by decide)
section
variable{P:SJ}{h:Heap}
mutual
theorem DG:∀(d:PZ)(v:NU),Well P h v d->AW d=true->d.weight<=1048576->∃A:List Addr,BN A v/\∀a∈A,kl h A a
 |.none,_,x,_,_=>by
  cases x;exact⟨[],trivial,fun a m=>absurd m (by simp)⟩
 |.bool b,_,x,_,_=>by
  cases x;exact⟨[],trivial,fun a m=>absurd m (by simp)⟩
 |.int i,_,x,_,_=>by
  cases x;exact⟨[],trivial,fun a m=>absurd m (by simp)⟩
 |.str s,_,x,_,_=>by
  cases x;exact⟨[],trivial,fun a m=>absurd m (by simp)⟩
 |.bytes b,_,x,_,_=>by
  cases x;exact⟨[],trivial,fun a m=>absurd m (by simp)⟩
 |.list ds,_,x,p,z=>by
  obtain⟨a,vs,rfl,ho,hall⟩:=vn x;have z2:PZ.weightAll ds<=1048576:=z;obtain⟨A,h1,h2⟩:=n_ ds _ hall p fun d hd=>Od (ni hd) z2;have k:∀b∈A,b∈a::A:=fun b hb=>N5 _ hb;refine⟨a::A,Oi ..,fun b hb=>?_⟩;rcases Og.mp hb with e|m
  ·rw[e];exact⟨vs,AX (by rw[i7 hall];exact Od (PySem.W.length_le_weightAllW ds) z2),fun u hu=>(h1 u hu).mono k,.inl ho⟩
  ·exact(h2 b m).mono k
 |.tuple ds,_,x,p,z=>by
  obtain⟨a,vs,rfl,ho,hall⟩:=sG x;have z2:PZ.weightAll ds<=1048576:=z;obtain⟨A,h1,h2⟩:=n_ ds _ hall p fun d hd=>Od (ni hd) z2;have k:∀b∈A,b∈a::A:=fun b hb=>N5 _ hb;refine⟨a::A,Oi ..,fun b hb=>?_⟩;rcases Og.mp hb with e|m
  ·rw[e];exact⟨vs,AX (by rw[i7 hall];exact Od (PySem.W.length_le_weightAllW ds) z2),fun u hu=>(h1 u hu).mono k,.inr ho⟩
  ·exact(h2 b m).mono k
 |.float _,_,_,p,_=>Bool.noConfusion (show false=true from p)
 |.dict _,_,_,p,_=>Bool.noConfusion (show false=true from p)
 |.bytearray _,_,_,p,_=>Bool.noConfusion (show false=true from p)
 |.set _,_,_,p,_=>Bool.noConfusion (show false=true from p)
 |.frozenset _,_,_,p,_=>Bool.noConfusion (show false=true from p)
 |.obj _ _,_,_,p,_=>Bool.noConfusion (show false=true from p)
theorem n_:∀(ds:List PZ)(vs:List NU),Sm P h vs ds->qT ds=true->(∀d∈ds,d.weight<=1048576)->∃A:List Addr,(∀u∈vs,BN A u)/\∀a∈A,kl h A a
 |[],_,x,_,_=>by
  cases x;exact⟨[],fun u m=>absurd m (by simp),fun a m=>absurd m (by simp)⟩
 |d::ds,_,x,p,z=>by
  obtain⟨v,vs,rfl,x1,x2⟩:=vo x;have q:AW d=true/\qT ds=true:=O9.mp p;obtain⟨A,a1,a2⟩:=DG d v x1 q.1 (z d (Oi ..));obtain⟨B,b1,b2⟩:=n_ ds vs x2 q.2 fun e he=>z e (N5 _ he);have kA:∀b∈A,b∈A++B:=fun b hb=>OK.mpr (.inl hb);have kB:∀b∈B,b∈A++B:=fun b hb=>OK.mpr (.inr hb);refine⟨A++B,fun u hu=>?_,fun b hb=>?_⟩
  ·rcases Og.mp hu with e|m
   ·rw[e];exact a1.mono kA
   ·exact(b1 u m).mono kB
  ·rcases OK.mp hb with m|m
   ·exact(a2 b m).mono kA
   ·exact(b2 b m).mono kB
end
end
def E_(o:Obj):Option HO:=match o.data with
 |.seq vs _=>if (o.cls==NU.type "list")=true then some (.frz o (.lst (vs.toList.map x_))) else some (.frz o (.tup (vs.toList.map x_)))
 |_=>none
def jS(K:PySem.W.Frag)(h:Heap)(A:List Addr):Hp:=fun b=>if b∈A then(if (K.lookup b).isNone=true then(h.get? b).bind E_ else none) else none
def ya(H:Hp):Prop:=∀b,H b=none\/∃o u,H b=some (.frz o u)
theorem yb(vs:List NU):E_ {cls:=.type "list",data:=.seq vs.toArray}=some (.frz {cls:=.type "list",data:=.seq vs.toArray} (.lst (vs.map x_))):=by
 show(if (NU.type "list"==NU.type "list")=true then some (HO.frz {cls:=.type "list",data:=.seq vs.toArray} (.lst (vs.toArray.toList.map x_))) else some (HO.frz {cls:=.type "list",data:=.seq vs.toArray} (.tup (vs.toArray.toList.map x_))))=_;rw[if_pos (beq_self_eq_true _)]
theorem yc(vs:List NU):E_ {cls:=.type "tuple",data:=.seq vs.toArray}=some (.frz {cls:=.type "tuple",data:=.seq vs.toArray} (.tup (vs.map x_))):=by
 show(if (NU.type "tuple"==NU.type "list")=true then some (HO.frz {cls:=.type "tuple",data:=.seq vs.toArray} (.lst (vs.toArray.toList.map x_))) else some (HO.frz {cls:=.type "tuple",data:=.seq vs.toArray} (.tup (vs.toArray.toList.map x_))))=_;rw[if_neg (by decide)]
section
variable{P:N3}{w:Oh}{K:PySem.W.Frag}{h:Heap}{A:List Addr}
theorem rP{b:Addr}{o:Obj}(hb:b∈A)(z:K.lookup b=none)(e:h.get? b=some o):jS K h A b=E_ o:=by
 unfold jS;rw[if_pos hb,z,if_pos (show(none:Option Obj).isNone=true from rfl),e]<;>rfl
theorem Fa{b:Addr}{u:HO}(q:jS K h A b=some u):b∈A/\K.lookup b=none:=by
 unfold jS at q;by_cases hb:b∈A
 ·rw[if_pos hb] at q;cases z:K.lookup b with
  |none=>exact⟨hb,rfl⟩
  |some o=>
   rw[z,if_neg (by simp)] at q;cases q
 ·rw[if_neg hb] at q;cases q
theorem rQ(F:∀a∈A,kl h A a){b:Addr}{u:HO}(q:jS K h A b=some u):K.lookup b=none/\∃vs:List NU,vs.length<=sizeLine/\(∀u∈vs,BN A u)/\
  ((h.get? b=some {cls:=.type "list",data:=.seq vs.toArray}/\u=.frz {cls:=.type "list",data:=.seq vs.toArray} (.lst (vs.map x_)))\/
   (h.get? b=some {cls:=.type "tuple",data:=.seq vs.toArray}/\u=.frz {cls:=.type "tuple",data:=.seq vs.toArray} (.tup (vs.map x_)))):=by
 obtain⟨hb,z⟩:=Fa q;obtain⟨vs,h1,h2,I⟩:=F b hb;refine⟨z,vs,h1,h2,?_⟩;rcases I with e|e
 ·rw[rP hb z e,yb] at q;exact .inl ⟨e,(N6.inj q).symm⟩
 ·rw[rP hb z e,yc] at q;exact .inr ⟨e,(N6.inj q).symm⟩
theorem BO(z:∀a∈A,kl h A a):ya (jS K h A):=fun b=>by
 cases q:jS K h A b with
 |none=>exact .inl rfl
 |some u=>
  obtain⟨_,vs,_,_,⟨_,e⟩|⟨_,e⟩⟩:=rQ z q
  ·exact .inr ⟨_,_,by rw[e]⟩
  ·exact .inr ⟨_,_,by rw[e]⟩
theorem Fb(z:∀a∈A,kl h A a):kL P w (jS K h A) h:=fun b u q=>by
 obtain⟨_,vs,h1,h2,⟨e,rfl⟩|⟨e,rfl⟩⟩:=rQ z q
 ·exact⟨e,by rw[NV];exact h1,vs,_,jx h2,e⟩
 ·exact⟨e,by rw[NV];exact h1,vs,jx h2,_,e,rfl,_,rfl⟩
theorem rR{c z:NU}{vs us:List NU}(e:(some {cls:=c,data:=.seq vs.toArray}:Option Obj)=some {cls:=z,data:=.seq us.toArray}):c=z/\vs=us:=by
 have F:=N6.inj e;have I:c=z:=congrArg Obj.cls F;have J:Data.seq vs.toArray=Data.seq us.toArray:=congrArg Obj.data F;injection J with L;refine⟨I,?_⟩;have M:=congrArg Array.toList L;simpa using M
theorem JY(I:K.In h)(J:∀a∈A,kl h A a){a:Addr}{vs:List NU}(ha:a∈A)(e:h.get? a=some {cls:=.type "list",data:=.seq vs.toArray}):(∀u∈vs,BN A u)/\aI K (jS K h A) a (vs.map x_):=by
 obtain⟨us,h1,h2,L⟩:=J a ha
 have M:us=vs:=by
  rcases L with q|q
  ·rw[e] at q;exact(rR q).2.symm
  ·rw[e] at q;exact absurd (NU.type.inj (rR q).1) (by decide)
 subst M;refine⟨h2,?_⟩;cases z:K.lookup a with
 |none=>exact .inl (.inr ⟨_,by rw[rP ha z e,yb]⟩)
 |some o=>
  have F:=I a o z;rw[e] at F;obtain rfl:=N6.inj F;exact .inr ⟨_,us.toArray,_,z,rfl,rfl,rfl,by rw[Ow];exact h1,by simpa using jx h2⟩
theorem JZ(I:K.In h)(J:∀a∈A,kl h A a){a:Addr}{vs:List NU}(ha:a∈A)(e:h.get? a=some {cls:=.type "tuple",data:=.seq vs.toArray}):(∀u∈vs,BN A u)/\gI K (jS K h A) a (vs.map x_):=by
 obtain⟨us,h1,h2,L⟩:=J a ha
 have M:us=vs:=by
  rcases L with q|q
  ·rw[e] at q;exact absurd (NU.type.inj (rR q).1) (by decide)
  ·rw[e] at q;exact(rR q).2.symm
 subst M;refine⟨h2,?_⟩;cases z:K.lookup a with
 |none=>exact .inl (.inr ⟨_,by rw[rP ha z e,yc]⟩)
 |some o=>
  have F:=I a o z;rw[e] at F;obtain rfl:=N6.inj F;exact .inr ⟨_,us.toArray,_,z,rfl,rfl,by rw[Ow];exact h1,by simpa using jx h2⟩
mutual
theorem HF {Pm:SJ} (KX:K.In h) (ar:∀a∈A,kl h A a):∀(d:PZ)(v:NU),Well Pm h v d->AW d=true->BN A v->Dw K (jS K h A) (x_ v) d
 |.none,_,x,_,_=>by
  cases x;exact .non
 |.bool b,_,x,_,_=>by
  cases x;exact .bl b
 |.int i,_,x,_,_=>by
  cases x;exact .int i
 |.str s,_,x,_,_=>by
  cases x;exact .str s
 |.bytes b,_,x,_,_=>by
  cases x;have z:=Dw.byt (K:=K) (H:=jS K h A) b.toArray;exact z
 |.list ds,_,x,p,hu=>by
  obtain⟨a,vs,rfl,ho,hall⟩:=vn x;obtain⟨h2,hs⟩:=JY KX ar hu ho;exact .lst hs (wz KX ar ds _ hall p h2)
 |.tuple ds,_,x,p,hu=>by
  obtain⟨a,vs,rfl,ho,hall⟩:=sG x;obtain⟨h2,hs⟩:=JZ KX ar hu ho;exact .tup hs (wz KX ar ds _ hall p h2)
 |.float _,_,_,p,_=>Bool.noConfusion (show false=true from p)
 |.dict _,_,_,p,_=>Bool.noConfusion (show false=true from p)
 |.bytearray _,_,_,p,_=>Bool.noConfusion (show false=true from p)
 |.set _,_,_,p,_=>Bool.noConfusion (show false=true from p)
 |.frozenset _,_,_,p,_=>Bool.noConfusion (show false=true from p)
 |.obj _ _,_,_,p,_=>Bool.noConfusion (show false=true from p)
theorem wz {Pm:SJ} (KX:K.In h) (ar:∀a∈A,kl h A a):∀(ds:List PZ)(vs:List NU),Sm Pm h vs ds->qT ds=true->(∀u∈vs,BN A u)->jw K (jS K h A) (vs.map x_) ds
 |[],_,x,_,_=>by
  cases x;exact .nil
 |d::ds,_,x,p,hu=>by
  obtain⟨v,vs,rfl,x1,x2⟩:=vo x;have q:AW d=true/\qT ds=true:=O9.mp p;exact .cons (HF KX ar d v x1 q.1 (hu _ (Oi ..))) (wz KX ar ds vs x2 q.2 fun u m=>hu u (N5 _ m))
end
end
theorem BP{P:N3}{w:Oh}{K:PySem.W.Frag}{mg mb:N_->Option NU}{CX:BE}{k:Nat}{fa:Addr}{fd:Qm}{ps:List N_}{sp:Sp}{I:NY}{J:List NU}{ds:List PZ}{R:PySem.W.WRecords}{cl:N_->Option Addr}{d0:PZ}(KX:K.In I.heap)(Y:I.heap.Ns Oa mg)(hb:I.heap.Ns Uz mb)(b2:∀x:N_,x≠"__name__"->mb x=Pp x)(Z:I.heap.NoLimit)(hg:I.gens=#[])(O:Sm w.params I.heap J ds)(al:qT ds=true)(b3:∀d∈ds,d.weight<=1048576)(hr:gr k TM)(F:∀base:Heap,K.In base->base.Ns Oa mg->jO P w K mg base CX k fa fd ps sp)(S:∀(s:NY)(us:List NU),us.length=ps.length->Tz s fd ⟨us,[]⟩ (ps.zip us))(an:ds.length=ps.length)(b4:∀(H:Hp)(xs:List V),ya H->jw K H xs ds->sp xs H (fun v H'=>Dw K H' v d0) fun _ _ _=>False)(b5:∀H e s',CX [] H I (fun _ _ _=>False) e s'->False):
  codeAny (model P w) TM (.call (.ref fa) ⟨J,[]⟩) (fun r s'=>∃u as,r=.ok (.ret u)/\SI R cl s'.heap u d0 as/\OldK I.heap s'.heap/\s'.os=I.os/\SW s'.gens) I:=by
 obtain⟨A,ho,ar⟩:=n_ ds J O al b3;have hO:ya (jS K I.heap A):=BO ar;have hok:kL P w (jS K I.heap A) I.heap:=Fb ar;have hS:=wz KX ar ds J O al ho;have hV:=jx ho;have hK:∀b u,jS K I.heap A b=some u->K.lookup b=none:=fun b u q=>(rQ ar q).1
 have av:∀{b:Addr}{o:Obj}{es:Array Q4}{ep:Nat},I.heap.get? b=some o->o.data=.dict es ep->jS K I.heap A b=none:=fun{b o es ep} e d=>by
  cases q:jS K I.heap A b with
  |none=>rfl
  |some u=>
   obtain⟨_,vs,_,_,⟨e2,_⟩|⟨e2,_⟩⟩:=rQ ar q
   ·rw[e2] at e;cases e;have d':Data.seq vs.toArray _=Data.dict es ep:=d;cases d'
   ·rw[e2] at e;cases e;have d':Data.seq vs.toArray _=Data.dict es ep:=d;cases d'
 generalize jS K I.heap A=H at hO hok hS hK av;have base_of:∀{b:Addr}{o:Obj},I.heap.get? b=some o->H b=none->(wd I.heap H).get? b=some o:=fun e n=>C3 e n;have L:∀{b:Addr}{m:N_->Option NU},I.heap.Ns b m->(wd I.heap H).Ns b m:=fun{b m} ⟨o,es,ep,e,d,r⟩=>⟨o,es,ep,base_of e (av e d),d,r⟩
 have nK:∀b o,K.lookup b=some o->H b=none:=fun b o e=>by
  cases q:H b with
  |none=>rfl
  |some u=>
   rw[hK b u q] at e;cases e
 have b1:K.In (wd I.heap H):=fun b o e=>base_of (KX b o e) (nK b o e);have hM:Mod K mg (wd I.heap H):=⟨b1,L Y,⟨mb,L hb,b2⟩,let ⟨mc,h1,h2⟩:=Z;⟨mc,L h1,h2⟩⟩;have e0:zn P w K mg (wd I.heap H) TM [] I H:=⟨rfl,hM,fun b o e=>EJ e,Ra (Bt _ _),trivial,fun b hb=>absurd (show b∈([]:List Addr) from hb) (by simp),hok,.of_eq hg⟩;have hl:J.length=ps.length:=by rw[i7 O];exact an
 refine Sh ((F _ b1 (L Y)).run TM [] I H ⟨J,[]⟩ J (J.map x_) _ _ hr e0 (S I J hl) hV (b4 H _ hO hS)) fun r s' x=>?_;cases r with
 |error e=>exact(b5 H e s' x).elim
 |ok fl=>
  cases fl with
  |next=>exact False.elim x
  |brk=>exact False.elim x
  |cont=>exact False.elim x
  |ret u=>
   obtain⟨v,H',os,bare,un,M,r',q⟩:=x
   have kept:∀b o,I.heap.get? b=some o->s'.heap.get? b=some o:=fun b o e=>by
    cases q2:H b with
    |none=>exact un.keep b o e q2 (by intro z;exact absurd (show b∈([]:List Addr) from z) (by simp)) (by simp)
    |some u2=>
     rcases hO b with z|⟨ob,u3,z⟩
     ·rw[q2] at z;cases z
     ·have z2:=un.frzs b ob _ z;obtain⟨e1,_⟩:=hok b _ z;obtain⟨e2,_⟩:=M b _ z2;rw[e] at e1;cases e1;exact e2
   have KX':K.In s'.heap:=fun b o e=>kept b o (KX b o e);obtain⟨as,b6⟩:=Dw.reads (R:=R) (cl:=cl) M KX' d0 v u q r';exact⟨u,as,rfl,b6,OldK.of_keep kept,os,bare⟩
theorem sH{ds:List PZ}(h:PZ.layableAll ds=true):∀d∈ds,d.weight<=1048576:=fun d hd=>
 (PySem.W.layableW_iff.mp (OM.mp h d hd)).2.2
theorem sI:∀(z:List QD)(a:QD.denoteAll z),(QD.encAll z a).length=z.length
 |[],_=>rfl
 |c::z,a=>by
  show(QD.encAll z a.2).length+1=z.length+1;rw[sI z a.2]
theorem BQ{r:VA}{k:Nat}{q:N3}{I:List N_}{XP:(N_->Option NU)->Heap->Prop}{YP:Oh->Heap->Prop}{d:DefRec}{K:SJ->PySem.W.Frag}{CX:Oh->BE}{ps:List N_}{sp:Oh->Sp}(J:r.wellSaid=true)(b3:d.params.defaults=[])(L:r.args.length=ps.length)(hr:gr k TM)(hY:∀(w:Oh)(h:Heap),YP w h->(K w.params).In h)(F:∀(w:Oh)(mg:N_->Option NU)(Z:Addr)(h:Heap),YP w h->(K w.params).In h->h.Ns Oa mg->mg d.name=some (.ref Z)->
   ∃fd:Qm,(∀(s:NY)(us:List NU),us.length=ps.length->Tz s fd ⟨us,[]⟩ (ps.zip us))/\
    ∀base:Heap,(K w.params).In base->base.Ns Oa mg->jO r.prog w (K w.params) mg base (CX w) k Z fd ps (sp w))(al:∀(w:Oh)(H:Hp)(xs:List V)(a:QD.denoteAll r.args),ya H->QD.withinAll r.args a=true->QD.app r.args r.asked a=true->jw (K w.params) H xs (QD.encAll r.args a)->
   sp w xs H (fun v H'=>Dw (K w.params) H' v (r.ret.enc (QD.app r.args r.f a))) fun _ _ _=>False)(an:∀(w:Oh)(H:Hp)(s:NY)(e:NU)(s':NY),CX w [] H s (fun _ _ _=>False) e s'->False):
  PySem.W.WalkOS q I XP YP r d [] (fun f vs=>PySem.call f vs):=by
 intro w s_0 s₁ mg mb G Y Z o pm cd b4 dV kV ho hd b5 hD ar hg args b2 as M O b6 av bd;obtain⟨a,e1,e2⟩:=PySem.W.os_pre_some M;obtain⟨e3,S⟩:=QD.encAll_of_decAll r.args args a e1;subst e3;have KX:=hY w _ Y;obtain⟨fd,hb,hF⟩:=F w mg Z _ Y KX G.T.g ar
 refine PySem.W.enter_call (Sh (BP (R:=[]) (cl:=classAt s_0.heap) (d0:=r.ret.enc (QD.app r.args r.f a)) KX G.T.g G.T.b G.T.builtins G.T.nolimit hg av (vm _ _) (sH O) hr hF hb (by rw[sI];exact L)
  (fun H xs hO hS=>al w H xs a hO S e2 hS) fun H e s'=>an w H s₁ e s') fun r' s' hq=>?_)
 obtain⟨u,b1,rfl,h1,h2,h3,h4⟩:=hq;exact⟨.inl ⟨u,_,b1,rfl,fun _=>rfl,h1,(VA.post_iff J S _ _).mpr rfl,fun z=>Bool.noConfusion (show false=true from z)⟩,h2,h3,h4⟩
theorem HG{r:VA}{k:Nat}{q:N3}{z:List N_}{Z:(N_->Option NU)->Heap->Prop}{L:Oh->Heap->Prop}{d:DefRec}{K:SJ->PySem.W.Frag}{CX:BE}{ps:List N_}{sp:PySem.W.Frag->Sp}(I:r.wellSaid=true)(M:d.params.defaults=[])(J:r.args.length=ps.length)(hr:gr k TM)(hY:∀(w:Oh)(h:Heap),L w h->(K w.params).In h)(F:∀(w:Oh)(mg:N_->Option NU)(Y:Addr)(h:Heap),L w h->(K w.params).In h->h.Ns Oa mg->mg d.name=some (.ref Y)->
   ∃fd:Qm,(∀(s:NY)(us:List NU),us.length=ps.length->Tz s fd ⟨us,[]⟩ (ps.zip us))/\
    ∀base:Heap,(K w.params).In base->base.Ns Oa mg->jO r.prog w (K w.params) mg base CX k Y fd ps (sp (K w.params)))(O:∀(K:PySem.W.Frag)(H:Hp)(xs:List V)(a:QD.denoteAll r.args),ya H->QD.withinAll r.args a=true->QD.app r.args r.asked a=true->jw K H xs (QD.encAll r.args a)->
   sp K xs H (fun v H'=>Dw K H' v (r.ret.enc (QD.app r.args r.f a))) fun _ _ _=>False)(S:∀(H:Hp)(s:NY)(e:NU)(s':NY),CX [] H s (fun _ _ _=>False) e s'->False):
  PySem.W.WalkOS q z Z L r d [] (fun f vs=>PySem.call f vs):=
 BQ (K:=K) (CX:=fun _=>CX) (sp:=fun w=>sp (K w.params)) I M J hr hY F (fun w H xs a h1 h2 h3 h4=>O (K w.params) H xs a h1 h2 h3 h4) fun _ H s e s'=>S H s e s'
end L2
end
noncomputable section
namespace Fare
open PySem PySem.Spec PyProof.Rows L2
def fD(i:Nat):OE:=PySem.Challenge.pw_pallethallfare_s01_answers.main.body.getD i (.Pass ⟨0,0,0,0⟩)
def aR(K:PySem.W.Frag)(mg:N_->Option NU)(x:N_)(st:OE):Prop:=∃f fd,E8 K x x st f fd/\mg x=some (.ref f)
def di(mg:N_->Option NU)(x:N_)(n:Int):Prop:=∃t,mg x=some (.int n t)
def AY(mg:N_->Option NU)(x:N_)(n:N_):Prop:=∃t,mg x=some (.str n t)
def Vm(K:PySem.W.Frag)(mg:N_->Option NU)(x:N_)(xs:List V):Prop:=∃a,mg x=some (.ref a)/\∀H,gI K H a xs
def iH(K:PySem.W.Frag)(C:Addr)(q:N_)(st:OE):Prop:=∃f fd,Mk K C f/\E8 K "__init__" q st f fd
def Vr(K:PySem.W.Frag)(C:Addr)(m q:N_)(st:OE):Prop:=∃f fd,Dg K C m f/\E8 K m q st f fd
abbrev sK:OE:=fD 32
abbrev yd:OE:=fD 33
abbrev i8:OE:=fD 34
abbrev ql:OE:=fD 35
abbrev vq:OE:=fD 41
abbrev vt:OE:=fD 42
abbrev vw:OE:=fD 43
abbrev qm:OE:=fD 44
abbrev ye:OE:=fD 49
abbrev sL:OE:=fD 50
abbrev yf:OE:=fD 51
abbrev k6:OE:=fD 52
abbrev mH:OE:=fD 53
abbrev qo:OE:=fD 54
abbrev sM:OE:=fD 55
abbrev sN:OE:=fD 56
abbrev i9:OE:=fD 57
abbrev k7:OE:=fD 58
abbrev yg:OE:=fD 59
abbrev og:OE:=fD 60
abbrev vx:OE:=fD 61
abbrev iI:OE:=fD 62
abbrev oh:OE:=fD 75
abbrev k8:OE:=fD 76
abbrev qp:OE:=fD 77
abbrev iJ:OE:=fD 78
abbrev iK:OE:=fD 79
abbrev km:OE:=fD 80
abbrev jy:OE:=fD 81
abbrev qr:OE:=fD 82
abbrev mI:OE:=fD 83
abbrev sO:OE:=fD 84
abbrev k9:OE:=fD 91
abbrev oi:OE:=fD 92
abbrev oj:OE:=fD 93
abbrev vy:OE:=fD 94
abbrev qt:OE:=fD 95
abbrev vz:OE:=fD 96
abbrev qu:OE:=fD 97
abbrev sP:OE:=fD 98
abbrev om:OE:=fD 99
abbrev vA:OE:=fD 100
abbrev vB:OE:=fD 101
abbrev qv:OE:=fD 104
abbrev sQ:OE:=fD 105
abbrev vC:OE:=fD 106
abbrev qw:OE:=fD 107
abbrev mJ:OE:=fD 108
abbrev jz:OE:=fD 109
abbrev ko:OE:=fD 110
abbrev k_:OE:=fD 111
abbrev lf:OE:=fD 112
abbrev lh:OE:=fD 113
abbrev oo:OE:=fD 114
abbrev li:OE:=fD 115
abbrev mK:OE:=fD 116
abbrev kq:OE:=fD 117
abbrev lj:OE:=fD 118
abbrev jA:OE:=fD 119
abbrev mL:OE:=fD 120
abbrev mM:OE:=fD 121
abbrev jB:OE:=fD 122
abbrev sR:OE:=fD 123
abbrev oq:OE:=fD 124
abbrev mN:OE:=fD 125
abbrev lm:OE:=fD 126
abbrev kr:OE:=fD 127
abbrev lq:OE:=fD 128
abbrev jC:OE:=fD 129
abbrev lr:OE:=fD 130
abbrev kt:OE:=fD 131
abbrev mO:OE:=fD 136
abbrev qx:OE:=fD 137
abbrev pF:OE:=fD 138
abbrev ku:OE:=hZ (fD 47) 0
abbrev jD:OE:=hZ (fD 48) 0
abbrev iL:OE:=hZ (fD 73) 0
abbrev i_:OE:=hZ (fD 74) 0
abbrev kx:OE:=hZ (fD 89) 0
abbrev ja:OE:=hZ (fD 90) 0
abbrev kz:OE:=hZ (fD 103) 0
abbrev jb:OE:=hZ (fD 103) 1
abbrev g9:OE:=hZ (fD 103) 2
structure cX where
 Stay:Addr
 Offer:Addr
 Product:Addr
 Tariff:Addr
 Card:Addr
 Ticket:Addr
 Park:Addr
structure Txt (K:PySem.W.Frag) (mg:N_->Option NU) (A:cX):Prop where
 Kx:di mg "DAY" 1440
 KO:di mg "WEEK" 10080
 Lg:di mg "LATEST_MINUTE" 5000000
 L3:di mg "LATEST_DAY" 3472
 Lh:di mg "MOST_CENTS" 99999
 Li:di mg "MOST_CLASS" 4
 L4:di mg "MOST_BYTES" 4096
 L5:di mg "COIN_KINDS" 8
 Lj:di mg "MOST_COINS" 40
 L6:di mg "MOST_COINS_PAID" 20
 Lk:di mg "MOST_GIVEN_BACK" 1000
 Ll:di mg "MOST_PROOF_MINUTES" 1440
 L7:di mg "MOST_CARDS" 32
 L8:di mg "MOST_TICKETS" 200
 L9:di mg "MOST_VOUCHERS" 3
 Ky:di mg "WRONG" (-1)
 L_:di mg "TOO_LONG" (-2)
 Ma:di mg "NO_TARIFF" (-3)
 Lm:di mg "NOT_THERE" (-4)
 Mb:di mg "OWES_NOTHING" (-5)
 Mc:di mg "LOST_ALREADY" (-5)
 Md:di mg "FAULTY" (-6)
 Me:di mg "WANTING" (-6)
 KW:di mg "FULL" (-7)
 Mf:di mg "TOO_MUCH_BACK" (-7)
 Mg:di mg "IN_USE" (-8)
 Ln:di mg "NO_CHANGE" (-8)
 Mh:di mg "OWING" (-9)
 Mi:di mg "OVERFULL" (-10)
 KF:Vm K mg "CENTS" [(.int 1),(.int 2),(.int 5),(.int 10),(.int 20),(.int 50),(.int 100),(.int 200)]
 Lo:di mg "TOO_MANY" 10000
 Mj:AY mg "LETTERS" "abcdefghijklmnopqrstuvwxyz"
 Ml:AY mg "DIGITS" "0123456789"
 Mm:di mg "MOST_NAME_SIGNS" 12
 Mn:di mg "MOST_DIGITS" 9
 Mo:di mg "TOO_MUCH" 10000000000
 KY:Vm K mg "HEAD_WORDS" [(.str "tariff"),(.str "free"),(.str "grace"),(.str "lost")]
 Mp:Vm K mg "HEAD_BOUNDS" [(.int 0),(.int 120),(.int 60),(.int 99999)]
 Mq:di mg "MOST_PRODUCTS" 12
 KG:di mg "NO_FAULT" 0
 KI:di mg "NO_SUCH_LINE" 1
 Lp:di mg "OUT_OF_BOUNDS" 2
 Mr:di mg "NAME_TWICE" 3
 Ms:di mg "ONE_TOO_MANY" 4
 Mt:di mg "NONE_OF_ANY_TIME" 5
 Lq:di mg "LATER" 0
 Mu:di mg "HUNDREDTHS" 1
 Lr:Vm K mg "MOST_OF_VOUCHER" [(.int 1440),(.int 100),(.int 99999)]
 Mv:di mg "TARIFF" 1
 Ks:mg "len"=none
 Kz:mg "min"=none
 KJ:mg "max"=none
 KP:mg "sum"=none
 KZ:mg "any"=none
 Mw:mg "all"=none
 Kw:mg "int"=none
 KL:mg "list"=none
 KA:mg "range"=none
 Ls:mg "enumerate"=none
 K5:mg "zip"=none
 KQ:mg "Stay"=some (.ref A.Stay)
 KC:rN K A.Stay
 Lu:aX K A.Stay "begin"
 Lv:aX K A.Stay "end"
 Lw:aX K A.Stay "car_class"
 Lx:aX K A.Stay "card"
 Mx:iH K A.Stay "Stay.__init__" ku
 My:mg "Offer"=some (.ref A.Offer)
 KD:rN K A.Offer
 Ly:aX K A.Offer "product"
 K6:aX K A.Offer "spans"
 Lz:aX K A.Offer "ends"
 Mz:iH K A.Offer "Offer.__init__" jD
 MA:mg "Product"=some (.ref A.Product)
 Ku:rN K A.Product
 LA:aX K A.Product "number"
 LB:aX K A.Product "cents"
 K7:aX K A.Product "minutes"
 K8:aX K A.Product "till"
 LC:aX K A.Product "weekdays"
 LD:aX K A.Product "begins_from"
 LG:aX K A.Product "begins_before"
 LH:aX K A.Product "most_class"
 LI:aX K A.Product "first_only"
 LJ:aX K A.Product "card"
 K9:iH K A.Product "Product.__init__" iL
 MB:mg "Tariff"=some (.ref A.Tariff)
 KB:rN K A.Tariff
 LK:aX K A.Tariff "text"
 LL:aX K A.Tariff "free"
 LM:aX K A.Tariff "grace"
 LN:aX K A.Tariff "lost_cents"
 LO:aX K A.Tariff "products"
 K_:iH K A.Tariff "Tariff.__init__" i_
 MC:mg "Card"=some (.ref A.Card)
 KH:rN K A.Card
 LP:aX K A.Card "first_day"
 LQ:aX K A.Card "last_day"
 LR:aX K A.Card "name"
 La:iH K A.Card "Card.__init__" kx
 MD:mg "Ticket"=some (.ref A.Ticket)
 Kt:rN K A.Ticket
 LS:aX K A.Ticket "car_class"
 LU:aX K A.Ticket "card"
 LV:aX K A.Ticket "parks_by"
 LW:aX K A.Ticket "minute"
 Lb:aX K A.Ticket "vouchers"
 Lc:aX K A.Ticket "paid"
 KR:aX K A.Ticket "paid_at"
 Ld:aX K A.Ticket "is_lost"
 Le:aX K A.Ticket "is_gone"
 KM:iH K A.Ticket "Ticket.__init__" ja
 ME:mg "Park"=some (.ref A.Park)
 Kv:rN K A.Park
 KS:aX K A.Park "tariff"
 Lf:aX K A.Park "coins"
 KU:aX K A.Park "now"
 LX:aX K A.Park "cards"
 LY:aX K A.Park "tickets"
 LZ:aX K A.Park "payments"
 KN:iH K A.Park "Park.__init__" kz
 MF:Vr K A.Park "begin_anew" "Park.begin_anew" jb
 MG:Vr K A.Park "take_payment" "Park.take_payment" g9
 MH:aR K mg "worth_of" sK
 L1:aR K mg "fewest" yd
 MI:aR K mg "count_in_change" i8
 MJ:aR K mg "change_of" ql
 MK:aR K mg "sign_of" vq
 ML:aR K mg "text_of" vt
 MM:aR K mg "is_name" vw
 MN:aR K mg "is_number" qm
 MO:aR K mg "is_for" ye
 MP:aR K mg "spans_of" sL
 MQ:aR K mg "end_of" yf
 MR:aR K mg "ends_in_span" k6
 MS:aR K mg "latest_ends" mH
 MT:aR K mg "offers_of" qo
 MU:aR K mg "rests_of" sM
 MV:aR K mg "price_of" sN
 MW:aR K mg "first_that_fits" i9
 MX:aR K mg "latest_begin" k7
 MY:aR K mg "row_of" yg
 MZ:aR K mg "weights_of" og
 M0:aR K mg "sums_of" vx
 M1:aR K mg "first_overweight" iI
 M2:aR K mg "head_fault" oh
 M3:aR K mg "are_weekdays" k8
 M4:aR K mg "is_ending" qp
 M5:aR K mg "has_product_form" iJ
 M6:aR K mg "is_within_bounds" iK
 M7:aR K mg "product_fault" km
 M8:aR K mg "is_of_any_time" jy
 M9:aR K mg "end_fault" qr
 M_:aR K mg "first_fault" mI
 Na:aR K mg "lines_of" sO
 Nb:aR K mg "kind_by_card" k9
 Nc:aR K mg "is_voucher" oi
 Nd:aR K mg "price_from" oj
 Nf:aR K mg "base_of" vy
 Ng:aR K mg "taken_off" qt
 Nh:aR K mg "left_by" vz
 Ni:aR K mg "orders_of" qu
 Nj:aR K mg "in_order" sP
 Nk:aR K mg "best_order" om
 Nl:aR K mg "due_for" vA
 Nm:aR K mg "owed_of" vB
 Nn:aR K mg "are_coins" qv
 No:aR K mg "is_class" sQ
 Np:aR K mg "is_stay" vC
 Nq:aR K mg "told_stay" qw
 Nr:aR K mg "open_ticket" mJ
 Nt:aR K mg "is_card_in_use" jz
 Nu:aR K mg "answer_tariff" ko
 Nv:aR K mg "answer_print" k_
 Nw:aR K mg "answer_clock" lf
 Ny:aR K mg "answer_price" lh
 Nz:aR K mg "answer_row" oo
 NA:aR K mg "answer_proof" li
 NB:aR K mg "answer_fair" mK
 NC:aR K mg "answer_season" kq
 ND:aR K mg "answer_enter" lj
 NE:aR K mg "answer_voucher" jA
 NF:aR K mg "answer_owes" mL
 NG:aR K mg "answer_best" mM
 NH:aR K mg "answer_arrange" jB
 NI:aR K mg "owed_now" sR
 NJ:aR K mg "answer_pay" oq
 NK:aR K mg "answer_lost" mN
 NL:aR K mg "answer_leave" lm
 NM:aR K mg "answer_ticket" kr
 NN:aR K mg "answer_coins" lq
 NO:aR K mg "answer_takings" jC
 NP:aR K mg "answer_stays" lr
 NQ:aR K mg "answer_change" kt
 NR:aR K mg "answer_call" mO
 NS:aR K mg "rows_from" qx
 NT:aR K mg "answers" pF
def qy(P:N3)(w:Oh)(K:PySem.W.Frag)(a:Addr)(kvs:List (fu×V)):Prop:=(a==Po)=false/\∃vs,KV kvs vs/\∀h:Heap,K.In h->h.DictOf (ff P w) a vs
def nj(P:N3)(w:Oh)(K:PySem.W.Frag)(mg:N_->Option NU)(x:N_)(kvs:List (fu×V)):Prop:=∃a,mg x=some (.ref a)/\qy P w K a kvs
@[reducible] def nv(n:Nat):V:=.int (n:Int)
def ur:List (Nat×Nat×Nat):=[(1,0,2),(2,0,0),(3,1,0),(4,3,1),(5,3,1),(6,3,1),(7,2,2),(8,2,1),(9,2,0),(10,3,0),(11,1,0),(12,1,0),(13,1,0),(14,1,1),(15,1,0),(16,1,0),(17,1,0),(18,0,0),(19,2,0),(20,0,0),(21,1,0)]
def gT:List (Nat×N_):=[(1,"answer_tariff"),(2,"answer_print"),(3,"answer_clock"),(4,"answer_price"),(5,"answer_row"),(6,"answer_proof"),(7,"answer_fair"),(8,"answer_season"),(9,"answer_enter"),(18,"answer_coins"),(19,"answer_takings"),(20,"answer_stays"),(21,"answer_change")]
def eW:List (Nat×N_):=[(10,"answer_voucher"),(11,"answer_owes"),(12,"answer_best"),(13,"answer_arrange"),(14,"answer_pay"),(15,"answer_lost"),(16,"answer_leave"),(17,"answer_ticket")]
structure Ip (P:N3) (w:Oh) (K:PySem.W.Frag) (mg:N_->Option NU):Prop where
 forms:∃kvs,nj P w K mg "FORMS" kvs/\∀z∈ur,∃t,dH kvs (.inl (z.1:Int))=some (.ref t)/\∀H,gI K H t [nv z.2.1,nv z.2.2]
 work:∃kvs,nj P w K mg "WORK" kvs/\(∀z∈gT,∃f,mg z.2=some (.ref f)/\dH kvs (.inl (z.1:Int))=some (.ref f))/\∀z∈eW,dH kvs (.inl (z.1:Int))=none
 twork:∃kvs,nj P w K mg "TICKET_WORK" kvs/\∀z∈eW,∃f,mg z.2=some (.ref f)/\dH kvs (.inl (z.1:Int))=some (.ref f)
open PySem.W
theorem Kh{K:Tp}{h:Heap}{mg:N_->Option NU}{x:N_}{st:OE}{f:Addr}{J:NU}{L M:Option Addr}{F:Array (Option NU)}{kV I O z ct:NU}(X:K.In h)(G:h.Ns Oa mg)(a:QN K Oa x=some (some (.ref f)))(l:K.lookup f=some ⟨J,L,.func (fnOf x x (i5 st) (gN st) (ap st) .none kV I O M z ct),F⟩)(c:codeIn K z x=true)(k:VI K (.ref f)=true):aR K mg x st:=
 ⟨f,_,zB l c k,Qr X G a⟩
theorem Ki{K:Tp}{h:Heap}{mg:N_->Option NU}{x:N_}{n:Int}{t:Ve}(X:K.In h)(G:h.Ns Oa mg)(a:QN K Oa x=some (some (.int n t))):di mg x n:=⟨t,Qr X G a⟩
theorem Kj{K:Tp}{h:Heap}{mg:N_->Option NU}{x:N_}{n:N_}{t:Ve}(X:K.In h)(G:h.Ns Oa mg)(a:QN K Oa x=some (some (.str n t))):AY mg x n:=⟨t,Qr X G a⟩
theorem Kk{K:Tp}{h:Heap}{mg:N_->Option NU}{x:N_}{xs:List V}{a:Addr}{F:Option Addr}{its:Array NU}{n:Nat}{I:Array (Option NU)}(X:K.In h)(G:h.Ns Oa mg)(e:QN K Oa x=some (some (.ref a)))(l:K.lookup a=some ⟨.type "tuple",F,.seq its n,I⟩)(z:its.size<=sizeLine)(v:bT xs its.toList):Vm K mg x xs:=
 ⟨a,Qr X G e,fun H=>.inr ⟨_,its,n,l,rfl,rfl,z,v⟩⟩
theorem JG{K:Tp}{C f:Addr}{q:N_}{st:OE}{J:NU}{L M:Option Addr}{F:Array (Option NU)}{kV I O z ct:NU}(m:makesIn K C=true)(a:findIn K (.ref C) "__init__"=some (some (.ref f)))(i:isFn K (.ref f)=true)(S:VI K (.ref C)=true)(l:K.lookup f=some ⟨J,L,.func (fnOf "__init__" q (i5 st) (gN st) (ap st) .none kV I O M z ct),F⟩)(c:codeIn K z q=true)(k:VI K (.ref f)=true):iH K C q st:=⟨f,_,⟨m,a,i,S⟩,zB l c k⟩
theorem JH{K:Tp}{C f:Addr}{m q:N_}{st:OE}{J:NU}{L M:Option Addr}{F:Array (Option NU)}{kV I O z ct:NU}(a:findIn K (.ref C) m=some (some (.ref f)))(i:isFn K (.ref f)=true)(l:K.lookup f=some ⟨J,L,.func (fnOf m q (i5 st) (gN st) (ap st) .none kV I O M z ct),F⟩)(c:codeIn K z q=true)(k:VI K (.ref f)=true):Vr K C m q st:=⟨f,_,⟨a,i,k⟩,zB l c k⟩
inductive js:List Q4->List (fu×V)->List (fu×NU)->Prop
 |nil:js [] [] []
 |cons {i:Int} {t:Ve} {f:Addr} {es:List Q4} {kvs:List (fu×V)} {vs:List (fu×NU)} (hi:i=hashInt i) (r:js es kvs vs):js (⟨i,.int i t,.ref f⟩::es) ((.inl i,.ref f)::kvs) ((.inl i,.ref f)::vs)
section
variable{P:N3}{w:Oh}{K:Tp}
theorem js.keys{es:List Q4}{kvs:List (fu×V)}{vs:List (fu×NU)}(h:js es kvs vs):∀e∈es,∃k,(ff P w).is k e.key=true/\e.hash=(ff P w).hash k:=by
 induction h with
 |nil=>intro e he;cases he
 |@cons i t f es kvs vs hi r z=>
  intro e he;rcases Og.mp he with q|q
  ·subst q;exact⟨.inl i,o9 i t,hi⟩
  ·exact z e q
theorem js.pairs{es:List Q4}{kvs:List (fu×V)}{vs:List (fu×NU)}(h:js es kvs vs):Pairs (ff P w) es vs:=by
 induction h with
 |nil=>exact Pairs.nil
 |@cons i t f es kvs vs hi r z=>exact Pairs.cons (o9 i t) rfl z
theorem js.kv{es:List Q4}{kvs:List (fu×V)}{vs:List (fu×NU)}(h:js es kvs vs):KV kvs vs/\kvs.map (·.1)=vs.map (·.1):=by
 induction h with
 |nil=>exact⟨.nil,rfl⟩
 |cons hi r z=>exact⟨.cons ⟨rfl,rfl⟩ z.1,by rw[Oo,Oo,z.2]⟩
theorem uv{a:Addr}{es:Array Q4}{ep:Nat}{kvs:List (fu×V)}{vs:List (fu×NU)}(l:K.lookup a=some ⟨.type "dict",none,.dict es ep,#[]⟩)(hs:(a==Po)=false)(h:js es.toList kvs vs)(nd:(kvs.map (·.1)).Nodup):qy P w K a kvs:=by
 refine⟨hs,vs,h.kv.1,fun z X=>?_⟩;refine⟨_,es,ep,X _ _ l,⟨rfl,rfl,rfl⟩,rfl,fun e he=>?_,h.pairs,?_⟩
 ·exact h.keys e (Array.mem_toList_iff.mpr he)
 ·rw[<-h.kv.2];exact nd
end
theorem JI{P:N3}{w:Oh}{K:Tp}{h:Heap}{mg:N_->Option NU}{d:Addr}{ep:Nat}{M O S Y Z f6 f7 f8 f9 F I J L:Addr}{t1 t2 t3 t4 t5 t6 t7 t8 t9 al an ar as:Ve}(X:K.In h)(G:h.Ns Oa mg)(a:QN K Oa "WORK"=some (some (.ref d)))(l:K.lookup d=some ⟨.type "dict",none,.dict #[⟨1,.int 1 t1,.ref M⟩,⟨2,.int 2 t2,.ref O⟩,⟨3,.int 3 t3,.ref S⟩,⟨4,.int 4 t4,.ref Y⟩,⟨5,.int 5 t5,.ref Z⟩,⟨6,.int 6 t6,.ref f6⟩,⟨7,.int 7 t7,.ref f7⟩,⟨8,.int 8 t8,.ref f8⟩,⟨9,.int 9 t9,.ref f9⟩,⟨18,.int 18 al,.ref F⟩,⟨19,.int 19 an,.ref I⟩,⟨20,.int 20 ar,.ref J⟩,⟨21,.int 21 as,.ref L⟩] ep,#[]⟩)(hs:(d==Po)=false)(a1:QN K Oa "answer_tariff"=some (some (.ref M)))(a2:QN K Oa "answer_print"=some (some (.ref O)))(a3:QN K Oa "answer_clock"=some (some (.ref S)))(a4:QN K Oa "answer_price"=some (some (.ref Y)))(a5:QN K Oa "answer_row"=some (some (.ref Z)))(a6:QN K Oa "answer_proof"=some (some (.ref f6)))(a7:QN K Oa "answer_fair"=some (some (.ref f7)))(a8:QN K Oa "answer_season"=some (some (.ref f8)))(a9:QN K Oa "answer_enter"=some (some (.ref f9)))(av:QN K Oa "answer_coins"=some (some (.ref F)))(b1:QN K Oa "answer_takings"=some (some (.ref I)))(b2:QN K Oa "answer_stays"=some (some (.ref J)))(b3:QN K Oa "answer_change"=some (some (.ref L))):∃kvs,nj P w K mg "WORK" kvs/\(∀z∈gT,∃f,mg z.2=some (.ref f)/\dH kvs (.inl (z.1:Int))=some (.ref f))/\∀z∈eW,dH kvs (.inl (z.1:Int))=none:=by
 refine⟨[(.inl 1,.ref M),(.inl 2,.ref O),(.inl 3,.ref S),(.inl 4,.ref Y),(.inl 5,.ref Z),(.inl 6,.ref f6),(.inl 7,.ref f7),(.inl 8,.ref f8),(.inl 9,.ref f9),(.inl 18,.ref F),(.inl 19,.ref I),(.inl 20,.ref J),(.inl 21,.ref L)],⟨d,Qr X G a,uv l hs (vs:=[(.inl 1,.ref M),(.inl 2,.ref O),(.inl 3,.ref S),(.inl 4,.ref Y),(.inl 5,.ref Z),(.inl 6,.ref f6),(.inl 7,.ref f7),(.inl 8,.ref f8),(.inl 9,.ref f9),(.inl 18,.ref F),(.inl 19,.ref I),(.inl 20,.ref J),(.inl 21,.ref L)]) (.cons rfl (.cons rfl (.cons rfl (.cons rfl (.cons rfl (.cons rfl (.cons rfl (.cons rfl (.cons rfl (.cons rfl (.cons rfl (.cons rfl (.cons rfl .nil))))))))))))) (by show([.inl 1,.inl 2,.inl 3,.inl 4,.inl 5,.inl 6,.inl 7,.inl 8,.inl 9,.inl 18,.inl 19,.inl 20,.inl 21]:List fu).Nodup;decide)⟩,?_,?_⟩
 ·unfold gT;simp only[RC];exact⟨⟨M,Qr X G a1,rfl⟩,⟨O,Qr X G a2,rfl⟩,⟨S,Qr X G a3,rfl⟩,⟨Y,Qr X G a4,rfl⟩,⟨Z,Qr X G a5,rfl⟩,⟨f6,Qr X G a6,rfl⟩,⟨f7,Qr X G a7,rfl⟩,⟨f8,Qr X G a8,rfl⟩,⟨f9,Qr X G a9,rfl⟩,⟨F,Qr X G av,rfl⟩,⟨I,Qr X G b1,rfl⟩,⟨J,Qr X G b2,rfl⟩,⟨L,Qr X G b3,rfl⟩,fun z hz=>by cases hz⟩
 ·unfold eW;simp only[RC];exact⟨rfl,rfl,rfl,rfl,rfl,rfl,rfl,rfl,fun z hz=>by cases hz⟩
theorem JD{P:N3}{w:Oh}{K:Tp}{h:Heap}{mg:N_->Option NU}{d:Addr}{ep:Nat}{F I J L M O S Y:Addr}{Z al an ar as av b1 b2:Ve}(X:K.In h)(G:h.Ns Oa mg)(a:QN K Oa "TICKET_WORK"=some (some (.ref d)))(l:K.lookup d=some ⟨.type "dict",none,.dict #[⟨10,.int 10 Z,.ref F⟩,⟨11,.int 11 al,.ref I⟩,⟨12,.int 12 an,.ref J⟩,⟨13,.int 13 ar,.ref L⟩,⟨14,.int 14 as,.ref M⟩,⟨15,.int 15 av,.ref O⟩,⟨16,.int 16 b1,.ref S⟩,⟨17,.int 17 b2,.ref Y⟩] ep,#[]⟩)(hs:(d==Po)=false)(a10:QN K Oa "answer_voucher"=some (some (.ref F)))(a11:QN K Oa "answer_owes"=some (some (.ref I)))(a12:QN K Oa "answer_best"=some (some (.ref J)))(a13:QN K Oa "answer_arrange"=some (some (.ref L)))(b3:QN K Oa "answer_pay"=some (some (.ref M)))(b4:QN K Oa "answer_lost"=some (some (.ref O)))(b5:QN K Oa "answer_leave"=some (some (.ref S)))(b6:QN K Oa "answer_ticket"=some (some (.ref Y))):∃kvs,nj P w K mg "TICKET_WORK" kvs/\∀z∈eW,∃f,mg z.2=some (.ref f)/\dH kvs (.inl (z.1:Int))=some (.ref f):=by
 refine⟨[(.inl 10,.ref F),(.inl 11,.ref I),(.inl 12,.ref J),(.inl 13,.ref L),(.inl 14,.ref M),(.inl 15,.ref O),(.inl 16,.ref S),(.inl 17,.ref Y)],⟨d,Qr X G a,uv l hs (vs:=[(.inl 10,.ref F),(.inl 11,.ref I),(.inl 12,.ref J),(.inl 13,.ref L),(.inl 14,.ref M),(.inl 15,.ref O),(.inl 16,.ref S),(.inl 17,.ref Y)]) (.cons rfl (.cons rfl (.cons rfl (.cons rfl (.cons rfl (.cons rfl (.cons rfl (.cons rfl .nil)))))))) (by show([.inl 10,.inl 11,.inl 12,.inl 13,.inl 14,.inl 15,.inl 16,.inl 17]:List fu).Nodup;decide)⟩,?_⟩;unfold eW;simp only[RC];exact⟨⟨F,Qr X G a10,rfl⟩,⟨I,Qr X G a11,rfl⟩,⟨J,Qr X G a12,rfl⟩,⟨L,Qr X G a13,rfl⟩,⟨M,Qr X G b3,rfl⟩,⟨O,Qr X G b4,rfl⟩,⟨S,Qr X G b5,rfl⟩,⟨Y,Qr X G b6,rfl⟩,fun z hz=>by cases hz⟩
theorem JE{P:N3}{w:Oh}{K:Tp}{h:Heap}{mg:N_->Option NU}{d:Addr}{ep:Nat}{f1 f2 f3 f4 f5 f6 f7 f8 f9 F I J L M O S Y Z al an ar:Addr}{t1 t2 t3 t4 t5 t6 t7 t8 t9 cf ch cm co cs ct cv cL d0 d1 d2 d7:Ve}{d8 da dc dd dp dv dK dT dV as av b1 b2 b3 b4 b5 b6 bd bk bo bq:Option Addr}{n1 n2 n3 n4 n5 n6 n7 n8 n9 e0 e1 e2 e3 e4 e5 e6 e7 e8 ea eb ec:Nat}{ed ef eg eh ei ej ek el em bs c0 c1 c2 c3 c4 c5 c6 c7 c8 ca ce:Array (Option NU)}{u1 v1 u2 v2 u3 v3 u4 v4 u5 v5 u6 v6 u7 v7 u8 v8 u9 v9 en eo eq et eu ev ew ey ez eH eL f0 fa fc fe fg fl fm fn fp fq fr ft fv:Ve}(X:K.In h)(G:h.Ns Oa mg)(a:QN K Oa "FORMS"=some (some (.ref d)))(l:K.lookup d=some ⟨.type "dict",none,.dict #[⟨1,.int 1 t1,.ref f1⟩,⟨2,.int 2 t2,.ref f2⟩,⟨3,.int 3 t3,.ref f3⟩,⟨4,.int 4 t4,.ref f4⟩,⟨5,.int 5 t5,.ref f5⟩,⟨6,.int 6 t6,.ref f6⟩,⟨7,.int 7 t7,.ref f7⟩,⟨8,.int 8 t8,.ref f8⟩,⟨9,.int 9 t9,.ref f9⟩,⟨10,.int 10 cf,.ref F⟩,⟨11,.int 11 ch,.ref I⟩,⟨12,.int 12 cm,.ref J⟩,⟨13,.int 13 co,.ref L⟩,⟨14,.int 14 cs,.ref M⟩,⟨15,.int 15 ct,.ref O⟩,⟨16,.int 16 cv,.ref S⟩,⟨17,.int 17 cL,.ref Y⟩,⟨18,.int 18 d0,.ref Z⟩,⟨19,.int 19 d1,.ref al⟩,⟨20,.int 20 d2,.ref an⟩,⟨21,.int 21 d7,.ref ar⟩] ep,#[]⟩)(hs:(d==Po)=false)(l1:K.lookup f1=some ⟨.type "tuple",d8,.seq #[.int 0 u1,.int 2 v1] n1,ed⟩)(l2:K.lookup f2=some ⟨.type "tuple",da,.seq #[.int 0 u2,.int 0 v2] n2,ef⟩)(l3:K.lookup f3=some ⟨.type "tuple",dc,.seq #[.int 1 u3,.int 0 v3] n3,eg⟩)(l4:K.lookup f4=some ⟨.type "tuple",dd,.seq #[.int 3 u4,.int 1 v4] n4,eh⟩)(l5:K.lookup f5=some ⟨.type "tuple",dp,.seq #[.int 3 u5,.int 1 v5] n5,ei⟩)(l6:K.lookup f6=some ⟨.type "tuple",dv,.seq #[.int 3 u6,.int 1 v6] n6,ej⟩)(l7:K.lookup f7=some ⟨.type "tuple",dK,.seq #[.int 2 u7,.int 2 v7] n7,ek⟩)(l8:K.lookup f8=some ⟨.type "tuple",dT,.seq #[.int 2 u8,.int 1 v8] n8,el⟩)(l9:K.lookup f9=some ⟨.type "tuple",dV,.seq #[.int 2 u9,.int 0 v9] n9,em⟩)(fx:K.lookup F=some ⟨.type "tuple",as,.seq #[.int 3 en,.int 0 eo] e0,bs⟩)(fy:K.lookup I=some ⟨.type "tuple",av,.seq #[.int 1 eq,.int 0 et] e1,c0⟩)(fz:K.lookup J=some ⟨.type "tuple",b1,.seq #[.int 1 eu,.int 0 ev] e2,c1⟩)(g1:K.lookup L=some ⟨.type "tuple",b2,.seq #[.int 1 ew,.int 0 ey] e3,c2⟩)(g2:K.lookup M=some ⟨.type "tuple",b3,.seq #[.int 1 ez,.int 1 eH] e4,c3⟩)(g3:K.lookup O=some ⟨.type "tuple",b4,.seq #[.int 1 eL,.int 0 f0] e5,c4⟩)(g4:K.lookup S=some ⟨.type "tuple",b5,.seq #[.int 1 fa,.int 0 fc] e6,c5⟩)(go:K.lookup Y=some ⟨.type "tuple",b6,.seq #[.int 1 fe,.int 0 fg] e7,c6⟩)(gs:K.lookup Z=some ⟨.type "tuple",bd,.seq #[.int 0 fl,.int 0 fm] e8,c7⟩)(gt:K.lookup al=some ⟨.type "tuple",bk,.seq #[.int 2 fn,.int 0 fp] ea,c8⟩)(h0:K.lookup an=some ⟨.type "tuple",bo,.seq #[.int 0 fq,.int 0 fr] eb,ca⟩)(h3:K.lookup ar=some ⟨.type "tuple",bq,.seq #[.int 1 ft,.int 0 fv] ec,ce⟩):∃kvs,nj P w K mg "FORMS" kvs/\∀z∈ur,∃t,dH kvs (.inl (z.1:Int))=some (.ref t)/\∀H,gI K H t [nv z.2.1,nv z.2.2]:=by
 refine⟨[(.inl 1,.ref f1),(.inl 2,.ref f2),(.inl 3,.ref f3),(.inl 4,.ref f4),(.inl 5,.ref f5),(.inl 6,.ref f6),(.inl 7,.ref f7),(.inl 8,.ref f8),(.inl 9,.ref f9),(.inl 10,.ref F),(.inl 11,.ref I),(.inl 12,.ref J),(.inl 13,.ref L),(.inl 14,.ref M),(.inl 15,.ref O),(.inl 16,.ref S),(.inl 17,.ref Y),(.inl 18,.ref Z),(.inl 19,.ref al),(.inl 20,.ref an),(.inl 21,.ref ar)],⟨d,Qr X G a,uv l hs (vs:=[(.inl 1,.ref f1),(.inl 2,.ref f2),(.inl 3,.ref f3),(.inl 4,.ref f4),(.inl 5,.ref f5),(.inl 6,.ref f6),(.inl 7,.ref f7),(.inl 8,.ref f8),(.inl 9,.ref f9),(.inl 10,.ref F),(.inl 11,.ref I),(.inl 12,.ref J),(.inl 13,.ref L),(.inl 14,.ref M),(.inl 15,.ref O),(.inl 16,.ref S),(.inl 17,.ref Y),(.inl 18,.ref Z),(.inl 19,.ref al),(.inl 20,.ref an),(.inl 21,.ref ar)]) (.cons rfl (.cons rfl (.cons rfl (.cons rfl (.cons rfl (.cons rfl (.cons rfl (.cons rfl (.cons rfl (.cons rfl (.cons rfl (.cons rfl (.cons rfl (.cons rfl (.cons rfl (.cons rfl (.cons rfl (.cons rfl (.cons rfl (.cons rfl (.cons rfl .nil))))))))))))))))))))) (by show([.inl 1,.inl 2,.inl 3,.inl 4,.inl 5,.inl 6,.inl 7,.inl 8,.inl 9,.inl 10,.inl 11,.inl 12,.inl 13,.inl 14,.inl 15,.inl 16,.inl 17,.inl 18,.inl 19,.inl 20,.inl 21]:List fu).Nodup;decide)⟩,?_⟩;unfold ur;simp only[RC];exact⟨⟨f1,rfl,fun H=>.inr ⟨_,_,_,l1,rfl,rfl,(by show 2<=sizeLine;decide),.cons ⟨_,rfl⟩ (.cons ⟨_,rfl⟩ .nil)⟩⟩,⟨f2,rfl,fun H=>.inr ⟨_,_,_,l2,rfl,rfl,(by show 2<=sizeLine;decide),.cons ⟨_,rfl⟩ (.cons ⟨_,rfl⟩ .nil)⟩⟩,⟨f3,rfl,fun H=>.inr ⟨_,_,_,l3,rfl,rfl,(by show 2<=sizeLine;decide),.cons ⟨_,rfl⟩ (.cons ⟨_,rfl⟩ .nil)⟩⟩,⟨f4,rfl,fun H=>.inr ⟨_,_,_,l4,rfl,rfl,(by show 2<=sizeLine;decide),.cons ⟨_,rfl⟩ (.cons ⟨_,rfl⟩ .nil)⟩⟩,⟨f5,rfl,fun H=>.inr ⟨_,_,_,l5,rfl,rfl,(by show 2<=sizeLine;decide),.cons ⟨_,rfl⟩ (.cons ⟨_,rfl⟩ .nil)⟩⟩,⟨f6,rfl,fun H=>.inr ⟨_,_,_,l6,rfl,rfl,(by show 2<=sizeLine;decide),.cons ⟨_,rfl⟩ (.cons ⟨_,rfl⟩ .nil)⟩⟩,⟨f7,rfl,fun H=>.inr ⟨_,_,_,l7,rfl,rfl,(by show 2<=sizeLine;decide),.cons ⟨_,rfl⟩ (.cons ⟨_,rfl⟩ .nil)⟩⟩,⟨f8,rfl,fun H=>.inr ⟨_,_,_,l8,rfl,rfl,(by show 2<=sizeLine;decide),.cons ⟨_,rfl⟩ (.cons ⟨_,rfl⟩ .nil)⟩⟩,⟨f9,rfl,fun H=>.inr ⟨_,_,_,l9,rfl,rfl,(by show 2<=sizeLine;decide),.cons ⟨_,rfl⟩ (.cons ⟨_,rfl⟩ .nil)⟩⟩,⟨F,rfl,fun H=>.inr ⟨_,_,_,fx,rfl,rfl,(by show 2<=sizeLine;decide),.cons ⟨_,rfl⟩ (.cons ⟨_,rfl⟩ .nil)⟩⟩,⟨I,rfl,fun H=>.inr ⟨_,_,_,fy,rfl,rfl,(by show 2<=sizeLine;decide),.cons ⟨_,rfl⟩ (.cons ⟨_,rfl⟩ .nil)⟩⟩,⟨J,rfl,fun H=>.inr ⟨_,_,_,fz,rfl,rfl,(by show 2<=sizeLine;decide),.cons ⟨_,rfl⟩ (.cons ⟨_,rfl⟩ .nil)⟩⟩,⟨L,rfl,fun H=>.inr ⟨_,_,_,g1,rfl,rfl,(by show 2<=sizeLine;decide),.cons ⟨_,rfl⟩ (.cons ⟨_,rfl⟩ .nil)⟩⟩,⟨M,rfl,fun H=>.inr ⟨_,_,_,g2,rfl,rfl,(by show 2<=sizeLine;decide),.cons ⟨_,rfl⟩ (.cons ⟨_,rfl⟩ .nil)⟩⟩,⟨O,rfl,fun H=>.inr ⟨_,_,_,g3,rfl,rfl,(by show 2<=sizeLine;decide),.cons ⟨_,rfl⟩ (.cons ⟨_,rfl⟩ .nil)⟩⟩,⟨S,rfl,fun H=>.inr ⟨_,_,_,g4,rfl,rfl,(by show 2<=sizeLine;decide),.cons ⟨_,rfl⟩ (.cons ⟨_,rfl⟩ .nil)⟩⟩,⟨Y,rfl,fun H=>.inr ⟨_,_,_,go,rfl,rfl,(by show 2<=sizeLine;decide),.cons ⟨_,rfl⟩ (.cons ⟨_,rfl⟩ .nil)⟩⟩,⟨Z,rfl,fun H=>.inr ⟨_,_,_,gs,rfl,rfl,(by show 2<=sizeLine;decide),.cons ⟨_,rfl⟩ (.cons ⟨_,rfl⟩ .nil)⟩⟩,⟨al,rfl,fun H=>.inr ⟨_,_,_,gt,rfl,rfl,(by show 2<=sizeLine;decide),.cons ⟨_,rfl⟩ (.cons ⟨_,rfl⟩ .nil)⟩⟩,⟨an,rfl,fun H=>.inr ⟨_,_,_,h0,rfl,rfl,(by show 2<=sizeLine;decide),.cons ⟨_,rfl⟩ (.cons ⟨_,rfl⟩ .nil)⟩⟩,⟨ar,rfl,fun H=>.inr ⟨_,_,_,h3,rfl,rfl,(by show 2<=sizeLine;decide),.cons ⟨_,rfl⟩ (.cons ⟨_,rfl⟩ .nil)⟩⟩,fun z hz=>by cases hz⟩
theorem Kl{K:Tp}{mg:N_->Option NU}{z bOffer bProduct bTariff F bTicket I:Addr}(J:QN K Oa "Stay"=some (some (.ref z)))(aOffer:QN K Oa "Offer"=some (some (.ref bOffer)))(aProduct:QN K Oa "Product"=some (some (.ref bProduct)))(aTariff:QN K Oa "Tariff"=some (some (.ref bTariff)))(L:QN K Oa "Card"=some (some (.ref F)))(aTicket:QN K Oa "Ticket"=some (some (.ref bTicket)))(M:QN K Oa "Park"=some (some (.ref I)))(T:Txt K mg ⟨z,bOffer,bProduct,bTariff,F,bTicket,I⟩):∃A,Txt K mg A:=⟨_,T⟩
end Fare
end
local macro_rules|`(term|())=>`(by lia)
local macro_rules|`(tactic|left)=>`(tactic|walk_at "w")
noncomputable section
namespace FM
open FrTariff FrCover GarText
def gb(w:Who)(a:Nat)(p:Product):Nat->Option Nat
 |0=>if usable w a p a=true then some a else none
 |i+1=>if usable w a p (a+(i+1))=true then some (a+(i+1)) else gb w a p i
def A2(w:Who)(a:Nat)(p:Product)(z:Array (Option Nat))(i:Nat):Array (Option Nat):=
 z.push (if usable w a p (a+i)=true then some (a+i) else(z.back?).getD none)
theorem wD(w:Who)(a n:Nat)(p:Product):latests w a (n+1) p=A2 w a p (latests w a n p) n:=by
 unfold latests;rw[P_,PU];rfl
theorem oy(w:Who)(a:Nat)(p:Product):∀n,(latests w a n p).toList=(N0 n).map (gb w a p)
 |0=>rfl
 |n+1=>by
  have z:=oy w a p n;rw[wD,P_,Oj,<-z];unfold A2;rw[Array.toList_push];congr 1;show[_]=[gb w a p n];congr 1;cases n with
  |zero=>rfl
  |succ n=>
   show _=(if usable w a p (a+(n+1))=true then some (a+(n+1)) else gb w a p n)
   have hb:(latests w a (n+1) p).back?=some (gb w a p n):=by
    rw[<-Array.getLast?_toList,z,P_,Oj];simp
   rw[hb];rfl
theorem wE(w:Who)(a n i:Nat)(p:Product)(h:i<n):(latests w a n p).getD i none=gb w a p i:=by
 have e:=oy w a p n
 have hs:(latests w a n p).size=n:=by
  have:=congrArg Os e;simpa using this
 rw[Array.getD_eq_getD_getElem?,<-Array.getElem?_toList,e];simp[h]
theorem ma(w:Who)(a:Nat)(p:Product):∀i s,gb w a p i=some s->a<=s/\s<=a+i/\usable w a p s=true
 |0,s,h=>by
  unfold gb at h;split at h
  ·rename_i u;cases h;exact⟨NX _,NX _,u⟩
  ·cases h
 |i+1,s,h=>by
  unfold gb at h;split at h
  ·rename_i u;cases h;exact⟨by lia,by lia,u⟩
  ·obtain⟨h1,h2,z⟩:=ma w a p i s h;exact⟨h1,by lia,z⟩
theorem vF(w:Who)(a:Nat)(p:Product)(k:Nat):∀i,k<=i->(∀j,k<j->j<=i->usable w a p (a+j)=false)->gb w a p i=gb w a p k
 |0,h,_=>by
  have:k=0:=by lia
  rw[this]
 |i+1,h,z=>by
  by_cases e:k=i+1
  ·rw[e]
  ·have u:=z (i+1) () (NX _);show(if usable w a p (a+(i+1))=true then _ else gb w a p i)=_;rw[u];exact vF w a p k i () fun j h1 h2=>z j h1 ()
theorem pH(w:Who)(a:Nat)(p:Product):∀i,(∀j,j<=i->usable w a p (a+j)=false)->gb w a p i=none
 |0,z=>by
  have u:=z 0 (NX _);show(if usable w a p a=true then _ else _)=_;rw[show usable w a p a=false from u];rfl
 |i+1,z=>by
  have u:=z (i+1) (NX _);show(if usable w a p (a+(i+1))=true then _ else gb w a p i)=_;rw[u];exact pH w a p i fun j h=>z j ()
theorem pI(w:Who)(a:Nat)(p:Product)(i:Nat)(u:usable w a p (a+i)=true):gb w a p i=some (a+i):=by
 cases i with
 |zero=>
  show(if usable w a p a=true then _ else _)=_;rw[if_pos (show usable w a p a=true from u)];rfl
 |succ i=>
  show(if usable w a p (a+(i+1))=true then _ else _)=_;rw[if_pos u]
def endAt(w:Who)(a:Nat)(p:Product)(i:Nat):Nat:=match gb w a p i with
 |some s=>endOf p s
 |none=>a
theorem lv(p:Product)(s:Nat)(h:p.holds.ok=true):s<endOf p s:=by
 unfold endOf;cases z:p.holds with
 |mins m=>
  rw[z] at h;unfold Holds.ok at h;simp at h;show s<s+m;lia
 |till t=>
  show s<s+_;lia
end FM
namespace FM
open FrTariff FrCover GarText
def gC(w:Who)(p:Product):Bool:=decide (w.cls<=p.most)&&(p.card.isNone||p.card==w.card)
def dR(a b:Nat)(p:Product):Nat:=if p.first=true then min (a+1) b else b
def db(a b:Nat)(p:Product)(d:Nat):Nat×Nat:=(max a (d*1440+p.from_),min (dR a b p) (d*1440+p.to_))
def dG(a b:Nat)(p:Product)(d:Nat):Bool:=p.days.getD (d%7) false&&decide ((db a b p d).1<(db a b p d).2)
def dt(a b:Nat)(p:Product):Nat:=(dR a b p-1)/1440+1-a/1440
def dh(a b:Nat)(p:Product)(d:Nat):Nat->List (Nat×Nat)
 |0=>[]
 |k+1=>(if dG a b p d=true then[db a b p d] else[])++dh a b p (d+1) k
def spans(w:Who)(a b:Nat)(p:Product):List (Nat×Nat):=if gC w p=true then dh a b p (a/1440) (dt a b p) else[]
theorem sS{w:Who}{a b m:Nat}{p:Product}(I:gC w p=true)(h1:a<=m)(h2:m<b)(Z:p.to_<=1440):
  usable w a p m=true↔p.days.getD (m/1440%7) false=true/\(db a b p (m/1440)).1<=m/\m<(db a b p (m/1440)).2:=by
 unfold usable gC at*;unfold db dR weekday timeOf DAY;simp only[NW,decide_eq_true_eq] at I ⊢;obtain⟨O,S⟩:=I;have hm:m=m/1440*1440+m%1440:=by lia
 constructor
 ·rintro⟨_,_,d,J,L,M⟩;refine⟨d,?_,?_⟩
  ·show max a _<=m;lia
  ·show m<min _ _
   have:m<(if p.first=true then min (a+1) b else b):=by
    split
    ·rename_i z;rw[z] at M;simp at M;lia
    ·exact h2
   lia
 ·rintro⟨d,J,L⟩;have Y:max a (m/1440*1440+p.from_)<=m:=J;have F:m<min (if p.first=true then min (a+1) b else b) (m/1440*1440+p.to_):=L;refine⟨O,S,d,by lia,by lia,?_⟩;by_cases z:p.first=true
  ·rw[if_pos z] at F;simp[z];lia
  ·simp at z;simp[z]
theorem lw{a b d:Nat}{p:Product}(z:p.to_<=1440)(h:dG a b p d=true):a<=(db a b p d).1/\d*1440<=(db a b p d).1/\(db a b p d).1<(db a b p d).2/\(db a b p d).2<=d*1440+1440/\(db a b p d).2<=b:=by
 unfold dG at h;simp only[NW,decide_eq_true_eq] at h;have h2:=h.2
 have hb:dR a b p<=b:=by
  unfold dR;split<;>lia
 unfold db at*;refine⟨?_,?_,h2,?_,?_⟩<;>(dsimp only;dsimp only at h2;lia)
theorem wF{w:Who}{a b d m:Nat}{p:Product}(F:gC w p=true)(z:p.to_<=1440)(h:dG a b p d=true)(h1:(db a b p d).1<=m)(h2:m<(db a b p d).2):usable w a p m=true:=by
 obtain⟨I,J,L,M,O⟩:=lw z h;have hd:m/1440=d:=by lia
 refine(sS (b:=b) F () () z).mpr ?_;rw[hd];unfold dG at h;simp only[NW] at h;exact⟨h.1,h1,h2⟩
theorem df{w:Who}{a b m:Nat}{p:Product}(z:gC w p=true)(F:p.to_<=1440)(ha:a<=m)(hb:m<b)(h:∀d,dG a b p d=true->d=m/1440->¬((db a b p d).1<=m/\m<(db a b p d).2)):usable w a p m=false:=by
 cases u:usable w a p m with
 |false=>rfl
 |true=>
  exfalso;obtain⟨I,J,L⟩:=(sS (b:=b) z ha hb F).mp u;refine h (m/1440) ?_ rfl ⟨J,L⟩;unfold dG;simp only[NW,decide_eq_true_eq];exact⟨I,by lia⟩
theorem nn{w:Who}{a m:Nat}{p:Product}(z:¬gC w p=true):usable w a p m=false:=by
 cases u:usable w a p m with
 |false=>rfl
 |true=>
  exfalso;unfold usable at u;simp only[NW] at u;apply z;unfold gC;simp only[NW];exact⟨u.1,u.2.1⟩
def iM(p:Product)(s e:Nat):List Nat:=match p.holds with
 |.mins m=>(N0 (e-s)).map fun i=>s+m+i
 |.till h=>
  let z:=s-s%1440+h
  let F:=min e z-s
  N7 F z++N7 (e-s-F) (z+1440)
theorem mnx(e x s:Nat):min e x-s+(e-s-(min e x-s))=e-s:=Nat.add_sub_of_le (Nat.sub_le_sub_right (Nat.min_le_left e x) s)
theorem lfx(n m:Nat):n-min n m=n-m:=(Nat.le_total n m).elim (fun h=>by rw[Nat.min_eq_left h,Nat.sub_self,Nat.sub_eq_zero_of_le h]) fun h=>by rw[Nat.min_eq_right h]
theorem txa{u s t:Nat}(h:u/1440=s/1440)(F:t<1440)(k:u%1440<t):s-s%1440+t=u+((t+1440-u%1440-1)%1440+1):=by
 have a:=Nat.div_add_mod u 1440;have b:=Nat.div_add_mod s 1440;rw[h] at a;generalize s/1440=D at a b;generalize u%1440=r at a k ⊢;generalize s%1440=q at b ⊢;rw[show t+1440-r-1=t-r-1+1440 by lia,Nat.add_mod_right,Nat.mod_eq_of_lt (by lia)];lia
theorem txb{u s t:Nat}(h:u/1440=s/1440)(F:t<1440)(k:t<=u%1440):s-s%1440+t+1440=u+((t+1440-u%1440-1)%1440+1):=by
 have a:=Nat.div_add_mod u 1440;have b:=Nat.div_add_mod s 1440;have c:=Nat.mod_lt u (show 0<1440 by decide);rw[h] at a;generalize s/1440=D at a b;generalize u%1440=r at a k c ⊢;generalize s%1440=q at b ⊢;rw[Nat.mod_eq_of_lt (by lia)];lia
theorem txc{u s t:Nat}(h:u/1440=s/1440)(k:u<s-s%1440+t):u%1440<t:=by
 have a:=Nat.div_add_mod u 1440;have b:=Nat.div_add_mod s 1440;rw[h] at a;generalize s/1440=D at a b;generalize u%1440=r at a ⊢;generalize s%1440=q at b k;lia
theorem txd{u s t:Nat}(h:u/1440=s/1440)(k:u%1440<t):u<s-s%1440+t:=by
 have a:=Nat.div_add_mod u 1440;have b:=Nat.div_add_mod s 1440;rw[h] at a;generalize s/1440=D at a b;generalize u%1440=r at a k;generalize s%1440=q at b ⊢;lia
theorem BY(p:Product)(s e:Nat)(hd:∀m,s<=m->m<e->m/1440=s/1440)(F:p.holds.ok=true):iM p s e=(N0 (e-s)).map fun i=>endOf p (s+i):=by
 unfold iM endOf;cases h:p.holds with
 |mins m=>
  dsimp only;refine Om fun i hi=>?_;lia
 |till t=>
  rw[h] at F;unfold Holds.ok DAY at F;simp at F;dsimp only;apply SL
  ·simp;exact mnx _ _ _
  ·intro i h1 h2;simp at h2;have hi:=hd (s+i) () ();rw[US];split
   ·rename_i z;simp at z;rw[TN];simp;unfold timeOf DAY;exact txa hi F (txc hi ())
   ·rename_i z;simp at z;rw[TN];simp;unfold timeOf DAY;exact txb hi F (Nat.le_of_not_lt fun k=>by have:=txd hi k;lia)
end FM
namespace FM
open FrTariff FrCover GarText
def gc(p:Product)(a:Nat)(z:List Nat×Nat)(x:Nat×Nat):List Nat×Nat:=
 let acc:=z.1++N7 (x.1-a-z.1.length) z.2++iM p x.1 x.2
 (acc,acc.getLastD 0)
def A3(a b:Nat)(z:List Nat×Nat):List Nat:=z.1++N7 (b-a-z.1.length) z.2
def jT(p:Product)(a b:Nat)(sp:List (Nat×Nat)):List Nat:=A3 a b (sp.foldl (gc p a) ([],a))
structure uA (w:Who) (p:Product) (a b d:Nat) (z:List Nat×Nat):Prop where
 acc:z.1=(N0 z.1.length).map (endAt w a p)
 lat:z.2=if z.1.length=0 then a else endAt w a p (z.1.length-1)
 low:a+z.1.length<=max a (d*1440)
 len:a+z.1.length<=b
 non:∀m,a+z.1.length<=m->m<d*1440->m<b->usable w a p m=false
theorem pJ(n k:Nat):N0 (n+k)=N0 n++(N0 k).map (fun i=>n+i):=by
 apply SL
 ·simp
 ·intro i h1 h2;simp at h1;rw[US];split
  ·simp
  ·rename_i h;simp at h;simp;lia
theorem DO{w:Who}{p:Product}{a b d:Nat}{z:List Nat×Nat}(L:uA w p a b d z){i:Nat}(h1:z.1.length<=i)(F:∀j,z.1.length<=j->j<=i->usable w a p (a+j)=false):endAt w a p i=z.2:=by
 have e:=L.lat;by_cases I:z.1.length=0
 ·rw[if_pos I] at e;unfold endAt;rw[pH w a p i fun j J=>F j () J,e]
 ·rw[if_neg I] at e;rw[e];unfold endAt;rw[vF w a p (z.1.length-1) i () fun j h2 M=>F j () M]
theorem A4{w:Who}{p:Product}{a b d:Nat}{z:List Nat×Nat}(L:uA w p a b d z)(k:Nat)(F:∀j,z.1.length<=j->j<z.1.length+k->usable w a p (a+j)=false):
  z.1++N7 k z.2=(N0 (z.1.length+k)).map (endAt w a p):=by
 rw[pJ,Oj,<-L.acc,On];congr 1;apply SL
 ·simp
 ·intro i h1 h2;simp at h1;simp;exact(DO L () fun j I J=>F j I ()).symm
theorem Ft{w:Who}{p:Product}{a b d:Nat}{z:List Nat×Nat}(O:gC w p=true)(M:p.to_<=1440)(hh:p.holds.ok=true)(L:uA w p a b d z)(h:dG a b p d=true):uA w p a b (d+1) (gc p a z (db a b p d)):=by
 obtain⟨e1,e2,e3,e4,e5⟩:=lw M h;have hl:=L.low
 have J:∀j,z.1.length<=j->a+j<(db a b p d).1->usable w a p (a+j)=false:=fun j h1 h2=>by
  by_cases hm:a+j<d*1440
  ·exact L.non (a+j) () hm ()
  ·refine df (b:=b) O M () () fun d' S ed hc=>?_;have:d'=d:=by lia
   subst this;lia
 have Y:z.1.length+((db a b p d).1-a-z.1.length)=(db a b p d).1-a:=by lia
 have fill:=A4 L ((db a b p d).1-a-z.1.length) fun j h1 h2=>J j h1 ();rw[Y] at fill
 have Z:iM p (db a b p d).1 (db a b p d).2=(N0 ((db a b p d).2-(db a b p d).1)).map fun i=>endAt w a p ((db a b p d).1-a+i):=by
  rw[BY p _ _ (fun m h1 h2=>by lia) hh];refine Om fun i hi=>?_;rw[Px] at hi;unfold endAt;have hu:=wF (m:=(db a b p d).1+i) O M h () ();have ei:a+((db a b p d).1-a+i)=(db a b p d).1+i:=by lia
  rw[pI w a p ((db a b p d).1-a+i) (by rw[ei];exact hu),ei]
 have I:(gc p a z (db a b p d)).1=(N0 ((db a b p d).2-a)).map (endAt w a p):=by
  show z.1++_++_=_;rw[fill,Z];have:(db a b p d).2-a=((db a b p d).1-a)+((db a b p d).2-(db a b p d).1):=by lia
  rw[this,pJ,Oj,On];rfl
 have F:(gc p a z (db a b p d)).1.length=(db a b p d).2-a:=by rw[I];simp
 refine⟨?_,?_,?_,?_,?_⟩
 ·rw[F];exact I
 ·rw[F,if_neg ()];show((gc p a z (db a b p d)).1).getLastD 0=_;rw[I];obtain⟨k,Y⟩:∃k,(db a b p d).2-a=k+1:=⟨(db a b p d).2-a-1,by lia⟩;rw[Y,P_,Oj];simp
 ·rw[F];lia
 ·rw[F];lia
 ·intro m h1 h2 h3;rw[F] at h1;refine df (b:=b) O M () h3 fun d' S ed hc=>?_;have:d'=d:=by lia
  subst this;lia
theorem BZ{w:Who}{p:Product}{a b d:Nat}{z:List Nat×Nat}(J:gC w p=true)(M:p.to_<=1440)(L:uA w p a b d z)(h:¬dG a b p d=true):uA w p a b (d+1) z:=by
 have hl:=L.low;refine⟨L.acc,L.lat,by lia,L.len,fun m h1 h2 I=>?_⟩;by_cases O:m<d*1440
 ·exact L.non m h1 O I
 ·refine df (b:=b) J M () I fun d' F S Y=>?_;have:d'=d:=by lia
  subst this;exact h F
theorem A5{w:Who}{p:Product}{a b:Nat}(F:gC w p=true)(I:p.to_<=1440)(J:p.holds.ok=true):∀(k d:Nat)(z:List Nat×Nat),uA w p a b d z->uA w p a b (d+k) ((dh a b p d k).foldl (gc p a) z)
 |0,d,z,L=>L
 |k+1,d,z,L=>by
  show uA w p a b (d+(k+1)) (((if dG a b p d=true then[db a b p d] else[])++dh a b p (d+1) k).foldl (gc p a) z);rw[PU];have e:d+(k+1)=d+1+k:=by lia
  rw[e];refine A5 F I J k (d+1) _ ?_;by_cases h:dG a b p d=true
  ·rw[if_pos h];exact Ft F I J L h
  ·rw[if_neg h];exact BZ F I L h
theorem mR{w:Who}{p:Product}{a b:Nat}(F:a<=b)(I:p.to_<=1440)(O:p.holds.ok=true):jT p a b (spans w a b p)=(N0 (b-a)).map (endAt w a p):=by
 unfold jT A3 spans;by_cases z:gC w p=true
 ·rw[if_pos z];have S:uA w p a b (a/1440) ([],a):=⟨rfl,rfl,by show a+0<=_;lia,F,fun m h1 h2 h3=>(by have:a+0<=m:=h1;lia)⟩;have L:=A5 z I O (dt a b p) (a/1440) _ S;have J:=L.len
  have:=A4 L (b-a-((dh a b p (a/1440) (dt a b p)).foldl (gc p a) ([],a)).1.length) fun j h1 h2=>by
   by_cases M:a+j<(a/1440+dt a b p)*1440
   ·exact L.non (a+j) () M ()
   ·refine df (b:=b) z I () () fun d' Y ed hc=>?_
    have Z:(db a b p d').2<=dR a b p:=by
     unfold db;exact Qw _ _
    unfold dt at M;lia
  rw[this];congr 2;lia
 ·rw[if_neg z];show[]++N7 (b-a-0) a=_;rw[Pd,Sn];apply SL
  ·simp
  ·intro i h1 h2;simp;unfold endAt;rw[pH w a p i fun j _=>nn z]
theorem B0{w:Who}{p:Product}{a b:Nat}(z:a<=b)(I:p.to_<=1440)(F:p.holds.ok=true)(h:spans w a b p=[])(i:Nat)(hi:a+i<b):gb w a p i=none:=by
 have e:=mR (w:=w) z I F;rw[h] at e
 have:∀j,j<b-a->endAt w a p j=a:=fun j J=>by
  have q:=congrArg (fun l:List Nat=>l[j]?) e;simp[jT,A3,J] at q;exact q.symm
 cases hl:gb w a p i with
 |none=>rfl
 |some s=>
  exfalso;have q:=this i ();unfold endAt at q;rw[hl] at q;obtain⟨h1,_,_⟩:=ma w a p i s hl;have:=lv p s F;dsimp only at q;lia
end FM
namespace FM
open FrTariff FrCover GarText
def lx(x:Shelf)(a n:Nat)(g:Array (Option Nat))(j:Nat):Array (Option Nat):=
 g.push (leastOf (x.map fun(p:Product×Array (Option Nat))=>(reach a (n-1-j) p).bind fun(r:Nat×Nat)=>(g.getD (left a n r.2) none).map fun(c:Nat)=>p.1.cents+c))
def jU(x:Shelf)(a n m:Nat):Array (Option Nat):=(N0 m).foldl (lx x a n) #[some 0]
theorem jV(x:Shelf)(a n m:Nat):jU x a n (m+1)=lx x a n (jU x a n m) m:=by
 unfold jU;rw[P_,PU];rfl
theorem jW(x:Shelf)(a n:Nat):∀m,(jU x a n m).size=m+1
 |0=>rfl
 |m+1=>by
  rw[jV];unfold lx;rw[Array.size_push,jW x a n m]
theorem jX(x:Shelf)(a n k:Nat):∀m,k<=m->(jU x a n m).getD k none=(jU x a n k).getD k none
 |0,h=>by
  have:k=0:=by lia
  rw[this]
 |m+1,h=>by
  by_cases e:k=m+1
  ·rw[e]
  ·rw[jV,<-jX x a n k m ()];unfold lx;have hs:=jW x a n m;rw[Array.getD_eq_getD_getElem?,Array.getD_eq_getD_getElem?,Array.getElem?_push];rw[if_neg ()]
def ly(x:Shelf)(a n k:Nat):Option Nat:=(jU x a n k).getD k none
theorem iN(x:Shelf)(a n k:Nat)(h:k<=n):(costs x a n).getD k none=ly x a n k:=jX x a n k n h
theorem DP{a i:Nat}{x:Product×Array (Option Nat)}{r:Nat×Nat}(h:reach a i x=some r):a+i<r.2:=by
 unfold reach at h;cases e:x.2.getD i none with
 |none=>rw[e] at h;cases h
 |some s=>
  rw[e] at h;simp only[Uf] at h;split at h
  ·cases h;assumption
  ·cases h
theorem pK(x:Shelf)(a n j:Nat)(z:j<n):ly x a n (j+1)=leastOf (x.map fun(p:Product×Array (Option Nat))=>(reach a (n-1-j) p).bind fun(r:Nat×Nat)=>(ly x a n (left a n r.2)).map fun(c:Nat)=>p.1.cents+c):=by
 unfold ly;rw[jV];unfold lx;have hs:=jW x a n j;rw[Array.getD_eq_getD_getElem?,Array.getElem?_push,if_pos ()];show leastOf _=leastOf _;congr 1;refine Om fun p F=>?_;cases e:reach a (n-1-j) p with
 |none=>rfl
 |some r=>
  have I:=DP e;show Qu _ _=Qu _ _;rw[jX x a n (left a n r.2) j (by unfold left;lia)]
theorem du(y:Option Nat):least none y=y:=by cases y<;>rfl
theorem dL(y:Option Nat):least y none=y:=by cases y<;>rfl
theorem lA:∀(l:List (Option Nat))(z:Option Nat),l.foldl least z=least z (leastOf l)
 |[],z=>by
  show z=least z none;rw[dL]
 |y::l,z=>by
  show l.foldl least (least z y)=least z (l.foldl least (least none y));rw[lA l (least z y),lA l (least none y),du];cases z with
  |none=>rw[du,du]
  |some a=>
   cases y with
   |none=>rw[dL,du]
   |some b=>
    cases leastOf l with
    |none=>rw[dL,dL]
    |some c=>
     show some (min (min a b) c)=some (min a (min b c));rw[Nat.min_assoc]
theorem fM(y:Option Nat)(l:List (Option Nat)):leastOf (y::l)=least y (leastOf l):=by
 show l.foldl least (least none y)=_;rw[du,lA]
theorem oz:∀{l:List (Option Nat)}{m:Nat},some m∈l->(∀y,some y∈l->m<=y)->leastOf l=some m
 |[],m,h,_=>by simp at h
 |z::l,m,h,F=>by
  rw[fM];by_cases hl:some m∈l
  ·rw[oz hl fun y M=>F y (N5 _ M)];cases z with
   |none=>rw[du]
   |some c=>
    have:=F c (Oi ..);show some (min c m)=some m;rw[Qp this]
  ·have O:z=some m:=by
    rcases Og.mp h with e|e
    ·exact e.symm
    ·exact absurd e hl
   subst O;cases e:leastOf l with
   |none=>rw[dL]
   |some c=>
    have S:some c∈l:=by
     clear h F hl
     induction l generalizing c with
     |nil=>cases e
     |cons y l L=>
      rw[fM] at e;cases y with
      |none=>
       rw[du] at e;exact N5 _ (L c e)
      |some d=>
       cases I:leastOf l with
       |none=>
        rw[I,dL] at e;rw[<-e];exact Oi ..
       |some f=>
        rw[I] at e;have e':min d f=c:=N6.inj e;by_cases J:d<=f
        ·rw[Ph J] at e';rw[<-e'];exact Oi ..
        ·rw[Qp ()] at e';rw[<-e'];exact N5 _ (L f I)
    have:=F c (N5 _ S);show some (min m c)=some m;rw[Ph this]
theorem fH:∀{l:List (Option Nat)}{m:Nat},leastOf l=some m->some m∈l/\∀y,some y∈l->m<=y
 |[],m,h=>by cases h
 |z::l,m,h=>by
  rw[fM] at h;cases z with
  |none=>
   rw[du] at h;obtain⟨h1,h2⟩:=fH h;exact⟨N5 _ h1,fun y F=>h2 y (by simpa using F)⟩
  |some d=>
   cases I:leastOf l with
   |none=>
    rw[I,dL] at h;cases h;refine⟨Oi ..,fun y F=>?_⟩;rcases Og.mp F with e|e
    ·cases e;exact NX _
    ·exfalso;clear F
     have:∀(l:List (Option Nat)),some y∈l->leastOf l≠none:=by
      intro l
      induction l with
      |nil=>intro h;simp at h
      |cons z l L=>
       intro h;rw[fM];rcases Og.mp h with q|q
       ·subst q;cases leastOf l<;>(intro q;cases q)
       ·have:=L q;cases M:leastOf l with
        |none=>exact absurd M this
        |some f=>cases z<;>(intro q;cases q)
     exact this l e I
   |some f=>
    obtain⟨h1,h2⟩:=fH I;rw[I] at h;have e':min d f=m:=N6.inj h;constructor
    ·by_cases J:d<=f
     ·rw[Ph J] at e';rw[<-e'];exact Oi ..
     ·rw[Qp ()] at e';rw[<-e'];exact N5 _ h1
    ·intro y F;rcases Og.mp F with e|e
     ·cases e;lia
     ·have:=h2 y e;lia
end FM
namespace FM
open FrTariff FrCover GarText
structure za (T:Tariff):Prop where
 bd:∀p∈T.products,p.bounded=true
 al:∃p∈T.products,p.always=true
theorem bZ{p:Product}(h:p.bounded=true):p.cents<=99999/\p.holds.ok=true/\p.from_<p.to_/\p.to_<=1440/\1<=p.most/\p.most<=4:=by
 unfold Product.bounded CENTS DAY CLASSES at h;simp only[NW,decide_eq_true_eq] at h;exact⟨h.1,h.2.1,h.2.2.1,h.2.2.2.1,h.2.2.2.2.1,h.2.2.2.2.2⟩
theorem DQ{l:List Bool}(h:l.all (fun d=>d)=true){i:Nat}(hi:i<l.length):l.getD i false=true:=by
 rw[OM] at h;rw[OO,PQ hi];exact h _ (Ps hi)
theorem mS{w:Who}{a s:Nat}{p:Product}(h:p.always=true)(hd:p.days.length=7)(I:w.cls<=4):usable w a p s=true:=by
 unfold Product.always DAY CLASSES at h;simp only[NW,beq_iff_eq,Rh] at h;obtain⟨h1,h2,J,L,z,F⟩:=h;unfold usable weekday timeOf DAY;simp only[NW,decide_eq_true_eq,Pa,Rh];refine⟨by lia,.inl F,?_,by lia,by lia,.inl z⟩;exact DQ h1 ()
section
variable{T:Tariff}{w:Who}{a n:Nat}
theorem gQ{p:Product}{i:Nat}(hi:i<n):reach a i (p,latests w a n p)=(gb w a p i).bind fun s=>if a+i<endOf p s then some (s,endOf p s) else none:=by
 unfold reach;rw[wE w a n i p hi]
theorem md{x:Product×Array (Option Nat)}:x∈shelf T w a n↔∃p∈T.products,x=(p,latests w a n p):=by
 unfold shelf;rw[Oq];constructor
 ·rintro⟨p,h,rfl⟩;exact⟨p,h,rfl⟩
 ·rintro⟨p,h,rfl⟩;exact⟨p,h,rfl⟩
def bK(T:Tariff)(w:Who)(a n i:Nat):Nat:=(ly (shelf T w a n) a n (n-i)).getD 0
theorem Fu(ok:za T)(hd:∀p∈T.products,p.days.length=7)(hw:w.cls<=4):∀k,k<=n->∃c,ly (shelf T w a n) a n k=some c/\c<=99999*k:=by
 intro k
 induction k using RB with
 |_ k Y=>
  intro hk;cases k with
  |zero=>exact⟨0,rfl,by lia⟩
  |succ j=>
   obtain⟨p,I,J⟩:=ok.al;obtain⟨b1,b2,_⟩:=bZ (ok.bd p I);have hu:=mS (a:=a) (s:=a+(n-1-j)) J (hd p I) hw;have hl:=pI w a p (n-1-j) hu;have hg:=lv p (a+(n-1-j)) b2;have L:left a n (endOf p (a+(n-1-j)))<=j:=by unfold left;lia
   obtain⟨c,hc,M⟩:=Y (left a n (endOf p (a+(n-1-j)))) () ()
   have F:some (p.cents+c)∈(shelf T w a n).map fun(q:Product×Array (Option Nat))=>(reach a (n-1-j) q).bind fun(r:Nat×Nat)=>(ly (shelf T w a n) a n (left a n r.2)).map fun(c:Nat)=>q.1.cents+c:=by
    refine Oq.mpr ⟨(p,latests w a n p),md.mpr ⟨p,I,rfl⟩,?_⟩;rw[gQ (),hl];show R4 (if a+(n-1-j)<endOf p (a+(n-1-j)) then _ else _) _=_;rw[if_pos hg];show Qu _ (ly (shelf T w a n) a n (left a n (endOf p (a+(n-1-j)))))=_;rw[hc];rfl
   rw[pK _ _ _ _ ()]
   have O:leastOf ((shelf T w a n).map fun(q:Product×Array (Option Nat))=>(reach a (n-1-j) q).bind fun(r:Nat×Nat)=>(ly (shelf T w a n) a n (left a n r.2)).map fun(c:Nat)=>q.1.cents+c)≠none:=by
    generalize (shelf T w a n).map _=l at F;clear Y
    induction l with
    |nil=>simp at F
    |cons z l S=>
     rw[fM];rcases Og.mp F with e|e
     ·subst e;cases leastOf l<;>(intro q;cases q)
     ·have:=S e;cases h3:leastOf l with
      |none=>exact absurd h3 this
      |some f=>cases z<;>(intro q;cases q)
   cases Z:leastOf ((shelf T w a n).map fun(q:Product×Array (Option Nat))=>(reach a (n-1-j) q).bind fun(r:Nat×Nat)=>(ly (shelf T w a n) a n (left a n r.2)).map fun(c:Nat)=>q.1.cents+c) with
   |none=>exact absurd Z O
   |some m=>
    have:=(fH Z).2 _ F;refine⟨m,rfl,?_⟩;have:c<=99999*j:=Od M (PR _ L);lia
theorem fE(ok:za T)(hd:∀p∈T.products,p.days.length=7)(z:w.cls<=4){i:Nat}:ly (shelf T w a n) a n (n-i)=some (bK T w a n i)/\bK T w a n i<=99999*(n-i):=by
 obtain⟨c,h1,h2⟩:=Fu (a:=a) (n:=n) ok hd z (n-i) ();unfold bK;rw[h1];exact⟨rfl,h2⟩
theorem yj{i:Nat}(h:n<=i):bK T w a n i=0:=by
 unfold bK;rw[show n-i=0 by lia];rfl
def jY(T:Tariff)(w:Who)(a n:Nat):List Product:=T.products.filter fun p=>(spans w a (a+n) p)≠[]
def sT(T:Tariff)(w:Who)(a n i:Nat)(p:Product):Nat:=p.cents+(if endAt w a p i-a<=i then 10000000000 else bK T w a n (endAt w a p i-a))
theorem sU{p:Product}{i s:Nat}(z:p∈T.products)(bd:p.bounded=true)(hi:i<n)(h:gb w a p i=some s):p∈jY T w a n:=by
 obtain⟨_,F,_,I,_⟩:=bZ bd;unfold jY;rw[Qj];refine⟨z,?_⟩;simp only[ne_eq,decide_not,Rh,decide_eq_false_iff_not];intro e;have:=B0 (w:=w) (a:=a) (b:=a+n) () I F e i ();rw[this] at h;cases h
theorem oA(ok:za T)(hd:∀p∈T.products,p.days.length=7)(I:w.cls<=4){i:Nat}(hi:i<n):∃p∈jY T w a n,sT T w a n i p<10000000000\/100000<n:=by
 obtain⟨p,z,F⟩:=ok.al;have J:=mS (a:=a) (s:=a+i) F (hd p z) I;have hl:=pI w a p i J;obtain⟨O,L,_⟩:=bZ (ok.bd p z);have hg:=lv p (a+i) L;refine⟨p,sU z (ok.bd p z) hi hl,?_⟩;by_cases M:100000<n
 ·exact .inr M
 ·left;unfold sT endAt;rw[hl];show p.cents+(if endOf p (a+i)-a<=i then _ else bK T w a n (endOf p (a+i)-a))<_;rw[if_neg ()];have:=(fE (a:=a) (n:=n) (i:=endOf p (a+i)-a) ok hd I).2;have S:99999*(n-(endOf p (a+i)-a))<=99999*99999:=PR _ ();lia
theorem zG(ok:za T)(hd:∀p∈T.products,p.days.length=7)(L:w.cls<=4)(hn:n<=100000){i m:Nat}(hi:i<n)(S:m∈(jY T w a n).map (sT T w a n i))(I:∀y∈(jY T w a n).map (sT T w a n i),m<=y):bK T w a n i=m:=by
 have Y:m<10000000000:=by
  obtain⟨p,F,h⟩:=oA (a:=a) (n:=n) (i:=i) ok hd L hi;have:=I _ (Oq.mpr ⟨p,F,rfl⟩);rcases h with h|h
  ·lia
  ·lia
 have key:ly (shelf T w a n) a n (n-i)=some m:=by
  obtain⟨j,Z⟩:∃j,n-i=j+1:=⟨n-i-1,by lia⟩;have M:n-1-j=i:=by lia
  rw[Z,pK _ _ _ _ (),M];refine oz ?_ fun y hy=>?_
  ·obtain⟨p,F,e⟩:=Oq.mp S;have O:p∈T.products:=(Qj.mp F).1;refine Oq.mpr ⟨(p,latests w a n p),md.mpr ⟨p,O,rfl⟩,?_⟩;rw[gQ hi];unfold sT endAt at e;cases hl:gb w a p i with
   |none=>
    exfalso;rw[hl] at e;simp only[Ri,OA,if_true] at e;lia
   |some s=>
    rw[hl] at e;have e:p.cents+(if endOf p s-a<=i then 10000000000 else bK T w a n (endOf p s-a))=m:=e;by_cases J:endOf p s-a<=i
    ·rw[if_pos J] at e;lia
    ·rw[if_neg J] at e;show R4 (if a+i<endOf p s then some (s,endOf p s) else none) _=_;rw[if_pos ()];show Qu _ (ly (shelf T w a n) a n (left a n (endOf p s)))=_;have z:left a n (endOf p s)=n-(endOf p s-a):=lfx n _
     rw[z,(fE (a:=a) (n:=n) (i:=endOf p s-a) ok hd L).1];show some (p.cents+_)=some m;rw[e]
  ·obtain⟨x,hx,e⟩:=Oq.mp hy;obtain⟨p,F,rfl⟩:=md.mp hx;rw[gQ hi] at e;cases hl:gb w a p i with
   |none=>rw[hl] at e;cases e
   |some s=>
    rw[hl] at e;have e:R4 (if a+i<endOf p s then some (s,endOf p s) else none) (fun(r:Nat×Nat)=>(ly (shelf T w a n) a n (left a n r.2)).map fun(c:Nat)=>p.cents+c)=some y:=e;by_cases J:a+i<endOf p s
    ·rw[if_pos J] at e;have e:Qu _ (ly (shelf T w a n) a n (left a n (endOf p s)))=some y:=e;have z:left a n (endOf p s)=n-(endOf p s-a):=lfx n _
     rw[z,(fE (a:=a) (n:=n) (i:=endOf p s-a) ok hd L).1] at e;have e:p.cents+bK T w a n (endOf p s-a)=y:=N6.inj e;refine I y (Oq.mpr ⟨p,sU F (ok.bd p F) hi hl,?_⟩);unfold sT endAt;rw[hl];show p.cents+(if endOf p s-a<=i then _ else _)=y;rw[if_neg ()];exact e
    ·rw[if_neg J] at e;cases e
 have:=(fE (a:=a) (n:=n) (i:=i) ok hd L).1;rw[key] at this;exact(N6.inj this).symm
end
end FM
namespace FM
open FrTariff FrCover GarText
section
variable{T:Tariff}{w:Who}{a n:Nat}
theorem oB(ok:za T)(hd:∀p∈T.products,p.days.length=7)(z:w.cls<=4){b:Nat}(F:a<=b):covered T w a b=some (bK T w a (b-a) 0):=by
 unfold covered;rw[iN _ _ _ _ (NX _)];have:=(fE (a:=a) (n:=b-a) (i:=0) ok hd z).1;rw[Sn] at this;exact this
def zH(T:Tariff)(w:Who)(a b:Nat):Nat:=
 if b-a<=T.free then 0 else bK T w a (min b (a+10080)-a) 0+(b-min b (a+10080)+1440-1)/1440*T.lost
theorem DR(ok:za T)(hd:∀p∈T.products,p.days.length=7)(z:w.cls<=4){b:Nat}(F:a<=b):Rj T w a b=zH T w a b:=by
 unfold Rj priceOf zH LONG DAY;split
 ·rfl
 ·rw[oB ok hd z ()];show _+_=_+_;congr 1;rw[TF];congr 2;lia
theorem zI(ok:za T)(hd:∀p∈T.products,p.days.length=7)(z:w.cls<=4){b:Nat}(F:a<=b):
  weights T w a b=(N0 (b-a)).map fun i=>bK T w a (b-a) i-bK T w a (b-a) (i+1):=by
 unfold weights;dsimp only;refine Om fun i hi=>?_;rw[Px] at hi;rw[iN _ _ _ _ (),iN _ _ _ _ ()];rw[(fE (a:=a) (n:=b-a) (i:=i) ok hd z).1];have e:b-a-i-1=b-a-(i+1):=by lia
 rw[e,(fE (a:=a) (n:=b-a) (i:=i+1) ok hd z).1];rfl
def jo(T:Tariff)(w:Who)(a n i:Nat)(p:Product):Bool:=decide (i<endAt w a p i-a)&&decide (p.cents+bK T w a n (endAt w a p i-a)=bK T w a n i)
theorem B1(ok:za T)(hd:∀p∈T.products,p.days.length=7)(F:w.cls<=4){p:Product}{i k:Nat}(hi:i<n)(J:p.holds.ok=true):
  ((reach a i (p,latests w a n p)).bind fun(r:Nat×Nat)=>if ((costs (shelf T w a n) a n).getD (left a n r.2) none).map (fun(c:Nat)=>p.cents+c)=(costs (shelf T w a n) a n).getD (n-i) none then some (⟨k,r.1,r.2,p.cents⟩:Bought) else none)=
   if jo T w a n i p=true then(gb w a p i).map fun s=>(⟨k,s,endOf p s,p.cents⟩:Bought) else none:=by
 rw[gQ hi,iN _ _ _ _ (),(fE (a:=a) (n:=n) (i:=i) ok hd F).1];unfold jo endAt;cases hl:gb w a p i with
 |none=>
  simp
 |some s=>
  show R4 (if a+i<endOf p s then some (s,endOf p s) else none) _=if (decide (i<endOf p s-a)&&decide (p.cents+bK T w a n (endOf p s-a)=bK T w a n i))=true then _ else _
  by_cases I:a+i<endOf p s
  ·rw[if_pos I];have h2:i<endOf p s-a:=by lia
   have z:left a n (endOf p s)=n-(endOf p s-a):=lfx n _
   show(if Qu _ ((costs (shelf T w a n) a n).getD (left a n (endOf p s)) none)=_ then _ else _)=_;rw[z,iN _ _ _ _ (),(fE (a:=a) (n:=n) (i:=endOf p s-a) ok hd F).1];simp[h2]
  ·rw[if_neg I];have h2:¬i<endOf p s-a:=by lia
   simp[h2]
def gk(T:Tariff)(w:Who)(a n i:Nat):Option (Product×Nat):=T.products.zipIdx.find? fun x=>jo T w a n i x.1
theorem mT{α β:Type}(f:α->Bool)(g:α->Option β)(hg:∀x,f x=true->(g x).isSome=true):∀l:List α,l.findSome? (fun x=>if f x=true then g x else none)=(l.find? f).bind g
 |[]=>rfl
 |x::l=>by
  rw[PM,Pi];by_cases h:f x=true
  ·rw[if_pos h,h];cases e:g x with
   |none=>
    have:=hg x h;rw[e] at this;cases this
   |some y=>exact e.symm
  ·rw[if_neg h];simp at h;rw[h];exact mT f g hg l
theorem jZ{α β γ:Type}(f:β->Option γ)(g:α->β):∀l:List α,(l.map g).findSome? f=l.findSome? fun x=>f (g x)
 |[]=>rfl
 |x::l=>by
  rw[Oo,PM,PM,jZ f g l]
theorem iO{α β:Type}{f g:α->Option β}:∀{l:List α},(∀x∈l,f x=g x)->l.findSome? f=l.findSome? g
 |[],_=>rfl
 |x::l,h=>by
  rw[PM,PM,h x (Oi ..),iO fun y z=>h y (N5 _ z)]
theorem qA{α β:Type}(g:α->β):∀(l:List α)(k:Nat),(l.map g).zipIdx k=(l.zipIdx k).map fun x=>(g x.1,x.2)
 |[],_=>rfl
 |x::l,k=>by
  rw[Oo,R3,R3,Oo,qA g l (k+1)]
theorem sV{i:Nat}{p:Product}(h:jo T w a n i p=true):∃s,gb w a p i=some s:=by
 unfold jo endAt at h;cases hl:gb w a p i with
 |none=>rw[hl] at h;simp at h
 |some s=>exact⟨s,rfl⟩
theorem zJ(ok:za T)(hd:∀p∈T.products,p.days.length=7)(z:w.cls<=4){i:Nat}(hi:i<n):
  ((shelf T w a n).zipIdx.findSome? fun(p:(Product×Array (Option Nat))×Nat)=>(reach a i p.1).bind fun(r:Nat×Nat)=>if ((costs (shelf T w a n) a n).getD (left a n r.2) none).map (fun(c:Nat)=>p.1.1.cents+c)=(costs (shelf T w a n) a n).getD (n-i) none then some (⟨p.2,r.1,r.2,p.1.1.cents⟩:Bought) else none)=
   (gk T w a n i).bind fun x=>(gb w a x.1 i).map fun s=>(⟨x.2,s,endOf x.1 s,x.1.cents⟩:Bought):=by
 have F:(shelf T w a n).zipIdx=T.products.zipIdx.map fun x=>((x.1,latests w a n x.1),x.2):=qA _ _ _;rw[F,jZ];unfold gk
 rw[<-mT (fun x:Product×Nat=>jo T w a n i x.1) (fun x=>(gb w a x.1 i).map fun s=>(⟨x.2,s,endOf x.1 s,x.1.cents⟩:Bought)) (fun x h=>by
  obtain⟨s,hs⟩:=sV h;rw[hs];rfl)]
 refine iO fun x I=>?_
 have J:x.1∈T.products:=by
  have:=mem_zipIdx I;obtain⟨_,h2,L⟩:=this;rw[L];exact Ps _
 exact B1 ok hd z hi (bZ (ok.bd x.1 J)).2.1
end
end FM
namespace FM
open FrTariff FrCover GarText
section
variable{T:Tariff}{w:Who}{a n:Nat}
theorem nw(ok:za T)(hd:∀p∈T.products,p.days.length=7)(L:w.cls<=4){i:Nat}(hi:i<n):∃x s,gk T w a n i=some x/\gb w a x.1 i=some s/\jo T w a n i x.1=true/\x∈T.products.zipIdx:=by
 obtain⟨j,S⟩:∃j,n-i=j+1:=⟨n-i-1,by lia⟩;have F:n-1-j=i:=by lia
 have M:=(fE (a:=a) (n:=n) (i:=i) ok hd L).1;rw[S,pK _ _ _ _ (),F] at M;obtain⟨Y,_⟩:=fH M;obtain⟨y,Z,e⟩:=Oq.mp Y;obtain⟨p,hp,rfl⟩:=md.mp Z;rw[gQ hi] at e
 have hf:jo T w a n i p=true:=by
  unfold jo endAt;cases hl:gb w a p i with
  |none=>rw[hl] at e;cases e
  |some s=>
   rw[hl] at e;have e:R4 (if a+i<endOf p s then some (s,endOf p s) else none) (fun(r:Nat×Nat)=>(ly (shelf T w a n) a n (left a n r.2)).map fun(c:Nat)=>p.cents+c)=some (bK T w a n i):=e;by_cases O:a+i<endOf p s
   ·rw[if_pos O] at e;have e:Qu _ (ly (shelf T w a n) a n (left a n (endOf p s)))=some _:=e;have I:left a n (endOf p s)=n-(endOf p s-a):=lfx n _
    rw[I,(fE (a:=a) (n:=n) (i:=endOf p s-a) ok hd L).1] at e;have e:p.cents+bK T w a n (endOf p s-a)=bK T w a n i:=N6.inj e;simp only[NW,decide_eq_true_eq];exact⟨by lia,e⟩
   ·rw[if_neg O] at e;cases e
 obtain⟨k,hk,ek⟩:=getElem_of_mem hp
 have J:(p,k)∈T.products.zipIdx:=by
  rw[R9];rw[PQ hk,ek]
 cases z:gk T w a n i with
 |none=>
  exfalso;have:=Rs.mp z (p,k) J;exact this hf
 |some x=>
  have h1:=UT z;have h2:=Rw z;obtain⟨s,hs⟩:=sV h1;exact⟨x,s,rfl,hs,h1,h2⟩
theorem gd(x:Shelf)(g:Array (Option Nat)){i:Nat}(f:Nat)(h:n<=i):rowFrom x g a n f i=[]:=by
 cases f with
 |zero=>rfl
 |succ f=>
  show(if n<=i then[] else _)=[];rw[if_pos h]
theorem j0(ok:za T)(hd:∀p∈T.products,p.days.length=7)(z:w.cls<=4){i f:Nat}(hi:i<n){x:Product×Nat}{s:Nat}(F:gk T w a n i=some x)(hs:gb w a x.1 i=some s):
  rowFrom (shelf T w a n) (costs (shelf T w a n) a n) a n (f+1) i=⟨x.2,s,endOf x.1 s,x.1.cents⟩::rowFrom (shelf T w a n) (costs (shelf T w a n) a n) a n f (endOf x.1 s-a):=by
 show(if n<=i then[] else _)=_;rw[if_neg (),zJ ok hd z hi,F];simp only[Uf,hs,QV]
theorem oC(ok:za T)(hd:∀p∈T.products,p.days.length=7)(F:w.cls<=4):∀(f z i:Nat),n-i<=f->n-i<=z->
  rowFrom (shelf T w a n) (costs (shelf T w a n) a n) a n f i=rowFrom (shelf T w a n) (costs (shelf T w a n) a n) a n z i
 |0,z,i,h,h'=>by rw[gd _ _ 0 (),gd _ _ z ()]
 |f+1,0,i,h,h'=>by rw[gd _ _ _ (),gd _ _ 0 ()]
 |f+1,z+1,i,h,h'=>by
  by_cases hi:n<=i
  ·rw[gd _ _ _ hi,gd _ _ _ hi]
  ·obtain⟨x,s,J,hs,I,_⟩:=nw (a:=a) (n:=n) (i:=i) ok hd F ();rw[j0 ok hd F () J hs,j0 ok hd F () J hs]
   have L:i<endOf x.1 s-a:=by
    unfold jo endAt at I;rw[hs] at I;simp only[NW,decide_eq_true_eq] at I;exact I.1
   rw[oC ok hd F f z (endOf x.1 s-a) () ()]
theorem DS(ok:za T)(hd:∀p∈T.products,p.days.length=7)(F:w.cls<=4){i:Nat}(hi:i<n):∃x s,gk T w a n i=some x/\gb w a x.1 i=some s/\x∈T.products.zipIdx/\i<endOf x.1 s-a/\
  rowFrom (shelf T w a n) (costs (shelf T w a n) a n) a n n i=⟨x.2,s,endOf x.1 s,x.1.cents⟩::rowFrom (shelf T w a n) (costs (shelf T w a n) a n) a n n (endOf x.1 s-a):=by
 obtain⟨x,s,J,hs,z,L⟩:=nw (a:=a) (n:=n) (i:=i) ok hd F hi
 have I:i<endOf x.1 s-a:=by
  unfold jo endAt at z;rw[hs] at z;simp only[NW,decide_eq_true_eq] at z;exact z.1
 refine⟨x,s,J,hs,L,I,?_⟩;obtain⟨m,L⟩:∃m,n=m+1:=⟨n-1,by lia⟩;have e:rowFrom (shelf T w a n) (costs (shelf T w a n) a n) a n n i=rowFrom (shelf T w a n) (costs (shelf T w a n) a n) a n (n+1) i:=oC ok hd F n (n+1) i () ();rw[e,j0 ok hd F hi J hs]
theorem qU{i:Nat}(bd:∀p∈T.products,p.bounded=true)(hi:i<n):gk T w a n i=(T.products.zipIdx.filter fun x=>(spans w a (a+n) x.1)≠[]).find? fun x=>jo T w a n i x.1:=by
 unfold gk
 have z:∀x∈T.products.zipIdx,jo T w a n i x.1=true->decide (spans w a (a+n) x.1≠[])=true:=fun x L F=>by
  obtain⟨s,hs⟩:=sV F
  have J:x.1∈T.products:=by
   obtain⟨_,h2,M⟩:=mem_zipIdx L;rw[M];exact Ps _
  have:=sU (n:=n) J (bd _ J) hi hs;unfold jY at this;exact(Qj.mp this).2
 generalize T.products.zipIdx=l at z
 induction l with
 |nil=>rfl
 |cons x l O=>
  have I:=O fun y S=>z y (N5 _ S);rw[Qh,Pi];by_cases F:jo T w a n i x.1=true
  ·rw[if_pos (z x (Oi ..) F),Pi,F]
  ·simp at F;rw[F];by_cases hs:decide (spans w a (a+n) x.1≠[])=true
   ·rw[if_pos hs,Pi,F];exact I
   ·rw[if_neg hs];exact I
end
def g0(m l:Nat)(x:Nat×Nat):Nat:=if x.1<=m then min m (x.2-1) else l
structure DT (w:Who) (p:Product) (a b m d l:Nat):Prop where
 is:(l=m/\∀u,a<=u->u<=m->u<d*1440->usable w a p u=false)\/(usable w a p l=true/\a<=l/\l<=m/\∀u,l<u->u<=m->u<d*1440->usable w a p u=false)
theorem A6{w:Who}{p:Product}{a b m:Nat}(I:gC w p=true)(F:p.to_<=1440)(al:a<=m)(hm:m<b):∀(k d l:Nat),DT w p a b m d l->DT w p a b m (d+k) ((dh a b p d k).foldl (g0 m) l)
 |0,d,l,L=>L
 |k+1,d,l,L=>by
  show DT w p a b m (d+(k+1)) (((if dG a b p d=true then[db a b p d] else[])++dh a b p (d+1) k).foldl (g0 m) l);rw[PU,show d+(k+1)=d+1+k by lia];refine A6 I F al hm k (d+1) _ ?_;by_cases h:dG a b p d=true
  ·rw[if_pos h];show DT w p a b m (d+1) (g0 m l (db a b p d));obtain⟨e1,e2,e3,e4,e5⟩:=lw F h;unfold g0;by_cases hs:(db a b p d).1<=m
   ·rw[if_pos hs];refine⟨.inr ⟨wF I F h () (),by lia,by lia,fun u h1 h2 S=>?_⟩⟩;refine df (b:=b) I F () () fun d' z Y Z=>?_;have:d'=d:=by lia
    subst this;lia
   ·rw[if_neg hs];rcases L.is with⟨h1,h2⟩|⟨h1,h2,S,h4⟩
    ·refine⟨.inl ⟨h1,fun u J M q3=>?_⟩⟩;by_cases O:u<d*1440
     ·exact h2 u J M O
     ·refine df (b:=b) I F () () fun d' z Y Z=>?_;have:d'=d:=by lia
      subst this;lia
    ·refine⟨.inr ⟨h1,h2,S,fun u J M q3=>?_⟩⟩;by_cases O:u<d*1440
     ·exact h4 u J M O
     ·refine df (b:=b) I F () () fun d' z Y Z=>?_;have:d'=d:=by lia
      subst this;lia
  ·rw[if_neg h];show DT w p a b m (d+1) l;rcases L.is with⟨h1,h2⟩|⟨h1,h2,S,h4⟩
   ·refine⟨.inl ⟨h1,fun u J M q3=>?_⟩⟩;by_cases O:u<d*1440
    ·exact h2 u J M O
    ·refine df (b:=b) I F () () fun d' z Y Z=>?_;have:d'=d:=by lia
     subst this;exact h z
   ·refine⟨.inr ⟨h1,h2,S,fun u J M q3=>?_⟩⟩;by_cases O:u<d*1440
    ·exact h4 u J M O
    ·refine df (b:=b) I F () () fun d' z Y Z=>?_;have:d'=d:=by lia
     subst this;exact h z
theorem sW{w:Who}{p:Product}{a b i s:Nat}(Y:p.to_<=1440)(hi:a+i<b)(hs:gb w a p i=some s):(spans w a b p).foldl (g0 (a+i)) (a+i)=s:=by
 obtain⟨M,I,O⟩:=ma w a p i s hs
 have S:gC w p=true:=by
  cases h:gC w p with
  |true=>rfl
  |false=>
   have:=nn (w:=w) (a:=a) (m:=s) (p:=p) (by rw[h];simp);rw[this] at O;cases O
 unfold spans;rw[if_pos S];have L:=A6 (a:=a) (b:=b) (m:=a+i) S Y () hi (dt a b p) (a/1440) (a+i) ⟨.inl ⟨rfl,fun u h1 h2 J=>by lia⟩⟩;generalize hl:(dh a b p (a/1440) (dt a b p)).foldl (g0 (a+i)) (a+i)=l at L
 have F:∀u,a<=u->u<=a+i->¬u<(a/1440+dt a b p)*1440->usable w a p u=false:=fun u h1 h2 J=>by
  refine df (b:=b) S Y h1 () fun d' al ed hc=>?_
  have an:(db a b p d').2<=dR a b p:=by
   unfold db;exact Qw _ _
  unfold dt at J;lia
 have us:usable w a p s=true:=O;rcases L.is with⟨h1,h2⟩|⟨h1,h2,J,h4⟩
 ·exfalso;by_cases z:s<(a/1440+dt a b p)*1440
  ·rw[h2 s M I z] at us;cases us
  ·rw[F s M I z] at us;cases us
 ·
  have ar:¬l<s:=fun q=>by
   by_cases z:s<(a/1440+dt a b p)*1440
   ·rw[h4 s q I z] at us;cases us
   ·rw[F s M I z] at us;cases us
  have as:¬s<l:=fun q=>by
   have:∀i s,gb w a p i=some s->∀u,s<u->u<=a+i->usable w a p u=false:=by
    intro i
    induction i with
    |zero=>
     intro s hs u Z h6;obtain⟨t1,t2,_⟩:=ma w a p 0 s hs;lia
    |succ i ih=>
     intro s hs u Z h6;unfold gb at hs;split at hs
     ·cases hs;lia
     ·rename_i hn;by_cases z:u=a+(i+1)
      ·rw[z];simpa using hn
      ·exact ih s hs u Z ()
   rw[this i s hs l q J] at h1;cases h1
  lia
end FM
namespace FM
open FrTariff FrCover GarText
def kC(lo hi:Nat):List Nat:=(N0 (hi-lo)).map fun i=>lo+i
theorem jd{lo hi m:Nat}:m∈kC lo hi↔lo<=m/\m<hi:=by
 unfold kC;rw[Oq];constructor
 ·rintro⟨i,h,rfl⟩;rw[Px] at h;lia
 ·rintro⟨h1,h2⟩;exact⟨m-lo,by rw[Px];lia,by lia⟩
theorem me{lo mid hi:Nat}(h1:lo<=mid)(h2:mid<=hi):kC lo hi=kC lo mid++kC mid hi:=by
 unfold kC;rw[show hi-lo=(mid-lo)+(hi-mid) by lia,pJ,Oj,On];congr 1;refine Om fun i _=>?_;show lo+(mid-lo+i)=mid+i;lia
theorem wG{lo hi:Nat}(h:hi<=lo):kC lo hi=[]:=by
 unfold kC;rw[show hi-lo=0 by lia];rfl
theorem gw{α:Type}{f:α->Bool}{l:List α}(h:∀x∈l,f x=false):l.filter f=[]:=by
 rw[filter_eq_nil_iff];intro x z;rw[h x z];simp
theorem filter_all{α:Type}{f:α->Bool}{l:List α}(h:∀x∈l,f x=true):l.filter f=l:=OR.mpr h
theorem yk{w:Who}{p:Product}{a b d:Nat}(J:gC w p=true)(I:p.to_<=1440)(ha:a<(d+1)*1440):(kC (max a (d*1440)) (min b ((d+1)*1440))).filter (usable w a p)=if dG a b p d=true then kC (db a b p d).1 (db a b p d).2 else[]:=by
 by_cases h:dG a b p d=true
 ·rw[if_pos h];obtain⟨O,S,Y,Z,e5⟩:=lw I h;rw[me (lo:=max a (d*1440)) (mid:=(db a b p d).1) () (),me (lo:=(db a b p d).1) (mid:=(db a b p d).2) () (),Rt,Rt];rw[gw (l:=kC (max a (d*1440)) (db a b p d).1) fun m z=>?_,filter_all (l:=kC (db a b p d).1 (db a b p d).2) fun m z=>?_,gw (l:=kC (db a b p d).2 _) fun m z=>?_]
  ·simp
  ·rw[jd] at z;refine df (b:=b) J I () () fun d' F L M=>?_;have:d'=d:=by lia
   subst this;lia
  ·rw[jd] at z;exact wF J I h z.1 z.2
  ·rw[jd] at z;refine df (b:=b) J I () () fun d' F L M=>?_;have:d'=d:=by lia
   subst this;lia
 ·rw[if_neg h];refine gw fun m z=>?_;rw[jd] at z;refine df (b:=b) J I () () fun d' F L M=>?_;have:d'=d:=by lia
  subst this;exact h F
theorem DU{a b x y z:Nat}(F:x<=y)(I:y<=z)(ha:a<y):kC (max a x) (min b y)++kC (max a y) (min b z)=kC (max a x) (min b z):=by
 by_cases hb:b<=y
 ·rw[wG (lo:=max a y) (),OC,show min b y=min b z by lia]
 ·rw[show max a y=min b y by lia];by_cases hl:max a x<=min b y
  ·rw[<-me hl ()]
  ·lia
theorem ge(a b:Nat)(p:Product)(d k:Nat):dh a b p d (k+1)=(if dG a b p d=true then[db a b p d] else[])++dh a b p (d+1) k:=rfl
theorem wH{w:Who}{p:Product}{a b:Nat}(z:gC w p=true)(F:p.to_<=1440)(k:Nat):∀(d:Nat),a<(d+1)*1440->(dh a b p d k).flatMap (fun x=>kC x.1 x.2)=(kC (max a (d*1440)) (min b ((d+k)*1440))).filter (usable w a p):=by
 induction k with
 |zero=>
  intro d ha;rw[wG ()];rfl
 |succ k I=>
  intro d ha;have h1:a<(d+1+1)*1440:=Ou ha (Qi 1440 (PY _));have J:=I (d+1) h1
  have L:(if dG a b p d=true then[db a b p d] else[]).flatMap (fun x=>kC x.1 x.2)=(kC (max a (d*1440)) (min b ((d+1)*1440))).filter (usable w a p):=by
   rw[yk z F ha];split
   ·rw[PV,Uq,OC]
   ·rfl
  rw[ge,QH,L,J,<-Rt];have M:(d+1+k)*1440=(d+(k+1))*1440:=by rw[Nat.add_assoc,Sk 1 k]
  rw[M];have O:d*1440<=(d+1)*1440:=Qi 1440 (PY d);have S:(d+1)*1440<=(d+(k+1))*1440:=Qi 1440 ();rw[DU O S ha]
theorem uB{w:Who}{p:Product}{a b:Nat}(S:a<=b)(I:p.to_<=1440):(spans w a b p).flatMap (fun x=>kC x.1 x.2)=(kC a b).filter (usable w a p):=by
 unfold spans;by_cases z:gC w p=true
 ·rw[if_pos z,wH z I _ _ ()];have F:max a (a/1440*1440)=a:=by lia
  rw[F];by_cases hb:b<=(a/1440+dt a b p)*1440
  ·rw[Ph hb]
  ·rw[Qp ()];by_cases J:a<=(a/1440+dt a b p)*1440
   ·rw[me (lo:=a) (hi:=b) J (),Rt,gw (l:=kC ((a/1440+dt a b p)*1440) b) fun m F=>?_,OC];rw[jd] at F;refine df (b:=b) z I () () fun d' L Y Z=>?_
    have M:(db a b p d').2<=dR a b p:=by
     unfold db;exact Qw _ _
    have O:dt a b p=(dR a b p-1)/1440+1-a/1440:=rfl;lia
   ·rw[wG (lo:=a) (),gw (l:=kC a b) fun m F=>?_]
    ·rfl
    rw[jd] at F;refine df (b:=b) z I () () fun d' L Y Z=>?_
    have M:(db a b p d').2<=dR a b p:=by
     unfold db;exact Qw _ _
    have O:dt a b p=(dR a b p-1)/1440+1-a/1440:=rfl;lia
 ·rw[if_neg z,gw (l:=kC a b) fun m F=>nn z];rfl
theorem B2(l:List Nat)(x:Nat):sums (l++[x])=(sums l).push (((sums l).back?).getD 0+x):=by
 unfold sums;rw[PU];rfl
theorem Fv:∀(l:List Nat),(sums l).toList=(N0 (l.length+1)).map fun k=>(l.take k).sum:=by
 intro l;rw[<-Ux l];generalize l.reverse=r
 induction r with
 |nil=>rfl
 |cons x r z=>
  rw[TQ,B2,Array.toList_push,z];have hl:(r.reverse++[x]).length+1=(r.reverse.length+1)+1:=by simp
  rw[hl,P_ (n:=r.reverse.length+1),Oj];congr 1
  ·refine Om fun k F=>?_;rw[Px] at F;rw[take_append_of_le_length ()]
  ·have hb:(sums r.reverse).back?=some (r.reverse.sum):=by
    rw[<-Array.getLast?_toList,z,P_,Oj,Oo,QC,getLast?_append,OD (NX _)];rfl
   rw[hb];show[_+x]=[(List.take (r.reverse.length+1) (r.reverse++[x])).sum];rw[OD (by simp),sum_append];simp
theorem vG(l:List Nat)(k:Nat)(h:k<=l.length):(sums l).getD k 0=(l.take k).sum:=by
 have e:=Fv l;rw[Array.getD_eq_getD_getElem?,<-Array.getElem?_toList,e,NZ,Qa ()];rfl
theorem mf(l:List Nat):l.foldl (fun x y=>x+y) 0=l.sum:=by
 have:∀(l:List Nat)(z:Nat),l.foldl (fun x y=>x+y) z=z+l.sum:=by
  intro l
  induction l with
  |nil=>intro z;rfl
  |cons x l F=>
   intro z;rw[UK,F,QR];lia
 rw[this];lia
def Jm(l:List Nat)(a:Nat)(p:Product)(m:Nat):Nat:=(l.take (min l.length (endOf p m-a))).sum-(l.take (m-a)).sum
def oE(l:List Nat)(a:Nat)(p:Product)(m:Nat):Bool:=decide (p.cents<Jm l a p m)
theorem zK{w:Who}{a k:Nat}{l:List Nat}{p:Product}(Y:p.holds.ok=true)(L:p.to_<=1440):
  ((N0 l.length).findSome? fun(i:Nat)=>if usable w a p (a+i)=true/\p.cents<(sums l).getD (min l.length (endOf p (a+i)-a)) 0-(sums l).getD i 0 then some (k,a+i) else none)=
   (((spans w a (a+l.length) p).flatMap (fun x=>kC x.1 x.2)).find? (oE l a p)).map fun m=>(k,m):=by
 rw[uB () L]
 have M:kC a (a+l.length)=(N0 l.length).map fun i=>a+i:=by
  unfold kC;rw[show a+l.length-a=l.length by lia]
 rw[M];have J:∀i∈N0 l.length,i<l.length:=fun i hi=>Px.mp hi;generalize N0 l.length=r at J
 induction r with
 |nil=>rfl
 |cons i r O=>
  have hi:=J i (Oi ..);have z:=O fun j S=>J j (N5 _ S);rw[PM,Oo,Qh]
  have hv:p.cents<(sums l).getD (min l.length (endOf p (a+i)-a)) 0-(sums l).getD i 0↔oE l a p (a+i)=true:=by
   unfold oE Jm;rw[vG _ _ (Qw _ _),vG _ _ (),decide_eq_true_eq,show a+i-a=i by lia]
  by_cases I:usable w a p (a+i)=true
  ·rw[if_pos I,Pi];by_cases F:oE l a p (a+i)=true
   ·rw[if_pos ⟨I,hv.mpr F⟩,F];rfl
   ·rw[if_neg fun q=>F (hv.mp q.2)];simp at F;rw[F];exact z
  ·rw[if_neg fun q=>I q.1,if_neg I];exact z
end FM
namespace FM
open FrCoins
abbrev Kinds:=List (Nat×Nat)
def C0:Kinds->Nat->List Nat->Prop
 |[],y,d=>y=0/\d=[]
 |c::r,y,d=>∃k d',d=k::d'/\k<=c.2/\k*c.1<=y/\C0 r (y-k*c.1) d'
def DV:List Nat->List Nat->Prop
 |[],_=>True
 |_::_,[]=>True
 |a::r,b::s=>a<b\/(a=b/\DV r s)
def sX(l:List (Option Nat)):Option Nat:=l.foldl Vb none
theorem mh(l:List (Option Nat)):sX l=Pb l:=by
 unfold sX Pb
 have:Vb=FrCover.least:=by
  funext x y;cases x<;>cases y<;>rfl
 rw[this]
def dW:Kinds->Nat->Option Nat
 |[],y=>if y=0 then some 0 else none
 |c::r,y=>sX ((N0 (min c.2 (y/c.1)+1)).map fun k=>(dW r (y-k*c.1)).map fun n=>n+k)
def pickK(c:Nat×Nat)(r:Kinds)(y:Nat):Nat:=((N0 (min c.2 (y/c.1)+1)).reverse.find? fun k=>(dW r (y-k*c.1)).map (fun n=>n+k)==dW (c::r) y).getD 0
def gD:Kinds->Nat->List Nat
 |[],_=>[]
 |c::r,y=>pickK c r y::gD r (y-pickK c r y*c.1)
theorem sY{k v y m:Nat}(hv:0<v):(k<=m/\k*v<=y)↔k<min m (y/v)+1:=by
 rw[<-Nat.le_div_iff_mul_le hv];lia
theorem pL{p:Nat->Bool}:∀(n:Nat),(∃k,k<n/\p k=true)->∃k,(N0 n).reverse.find? p=some k/\k<n/\p k=true/\∀j,j<n->p j=true->j<=k
 |0,⟨k,h,_⟩=>by lia
 |n+1,⟨k,Y,pk⟩=>by
  rw[P_,UU];show ∃k,(n::(N0 n).reverse).find? p=some k/\_;by_cases z:p n=true
  ·rw[Pi,z];exact⟨n,rfl,by lia,z,fun j L _=>by lia⟩
  ·have F:p n=false:=by simpa using z
   rw[Pi,F]
   have I:k<n:=by
    rcases Vs k n with h|h
    ·exact h
    ·have:k=n:=by lia
     rw[this] at pk;exact absurd pk z
   obtain⟨M,h1,h2,O,S⟩:=pL n ⟨k,I,pk⟩;refine⟨M,h1,by lia,O,fun j L J=>?_⟩;rcases Vs j n with h|h
   ·exact S j h J
   ·have:j=n:=by lia
    rw[this] at J;exact absurd J z
theorem lB:∀(l:Kinds)(y:Nat),(∀c∈l,0<c.1)->(match dW l y with
  |some n=>C0 l y (gD l y)/\(gD l y).sum=n/\(∀d,C0 l y d->n<=d.sum)/\∀d,C0 l y d->d.sum=n->DV d (gD l y)
  |none=>∀d,¬C0 l y d)
 |[],y,_=>by
  unfold dW;by_cases hy:y=0
  ·rw[if_pos hy];exact⟨⟨hy,rfl⟩,rfl,fun d hd=>OA _,fun d hd _=>by rw[hd.2];trivial⟩
  ·rw[if_neg hy];exact fun d hd=>hy hd.1
 |c::r,y,hp=>by
  have hc:=hp c (Oi ..);have ih:=fun z=>lB r z fun x hx=>hp x (N5 _ hx)
  have inl:∀{m:Nat},some m∈(N0 (min c.2 (y/c.1)+1)).map (fun k=>(dW r (y-k*c.1)).map fun n=>n+k)↔∃k n,k<=c.2/\k*c.1<=y/\dW r (y-k*c.1)=some n/\n+k=m:=by
   intro m;rw[Oq];constructor
   ·rintro⟨k,hk,e⟩;rw[Px] at hk;obtain⟨h1,h2⟩:=(sY hc).mpr hk;obtain⟨n,hn,e⟩:=Oc.mp e;exact⟨k,n,h1,h2,hn,e⟩
   ·rintro⟨k,n,h1,h2,hn,e⟩;exact⟨k,Px.mpr ((sY hc).mp ⟨h1,h2⟩),by rw[hn];exact congrArg some e⟩
  have et:dW (c::r) y=Pb ((N0 (min c.2 (y/c.1)+1)).map fun k=>(dW r (y-k*c.1)).map fun n=>n+k):=by
   rw[<-mh];rfl
  cases e:dW (c::r) y with
  |none=>
   rintro d ⟨k,d',rfl,h1,h2,O⟩;have q:=ih (y-k*c.1);cases F:dW r (y-k*c.1) with
   |none=>
    rw[F] at q;exact q d' O
   |some n=>
    have J:=inl.mpr ⟨k,n,h1,h2,F,rfl⟩;rw[e] at et;generalize (N0 (min c.2 (y/c.1)+1)).map _=L at et J
    have:∀(L:List (Option Nat)),some (n+k)∈L->Pb L≠none:=by
     intro L
     induction L with
     |nil=>intro h;simp at h
     |cons z L al=>
      intro h;rw[fM];rcases Og.mp h with q|q
      ·subst q;cases Pb L<;>(intro q;cases q)
      ·have:=al q;cases h3:Pb L with
       |none=>exact absurd h3 this
       |some f=>cases z<;>(intro q;cases q)
    exact this L J et.symm
  |some n=>
   rw[e] at et;obtain⟨J,S⟩:=fH et.symm;obtain⟨k0,n0,a1,a2,a3,a4⟩:=inl.mp J;have an:∃k,k<min c.2 (y/c.1)+1/\((dW r (y-k*c.1)).map (fun n=>n+k)==dW (c::r) y)=true:=⟨k0,(sY hc).mp ⟨a1,a2⟩,by rw[a3,e];simp[a4]⟩;obtain⟨k,f1,f2,f3,f4⟩:=pL _ an
   have ek:pickK c r y=k:=by
    unfold pickK;rw[f1];rfl
   obtain⟨b1,b2⟩:=(sY hc).mpr f2;rw[e] at f3
   obtain⟨n1,Y,av⟩:∃n1,dW r (y-k*c.1)=some n1/\n1+k=n:=by
    cases e3:dW r (y-k*c.1) with
    |none=>rw[e3] at f3;simp at f3
    |some n1=>
     rw[e3] at f3;exact⟨n1,rfl,by simpa using f3⟩
   have q:=ih (y-k*c.1);rw[Y] at q;obtain⟨q1,q2,q3,q4⟩:=q
   have ep:gD (c::r) y=k::gD r (y-k*c.1):=by
    show pickK c r y::gD r (y-pickK c r y*c.1)=_;rw[ek]
   have Z:∀d,C0 (c::r) y d->n<=d.sum:=by
    rintro d ⟨I,d',rfl,h1,h2,O⟩;have M:=ih (y-I*c.1);cases F:dW r (y-I*c.1) with
    |none=>
     rw[F] at M;exact absurd O (M d')
    |some m=>
     rw[F] at M;have:=M.2.2.1 d' O;have h5:=S _ (inl.mpr ⟨I,m,h1,h2,F,rfl⟩);rw[QR];lia
   show C0 (c::r) y (gD (c::r) y)/\(gD (c::r) y).sum=n/\(∀d,C0 (c::r) y d->n<=d.sum)/\∀d,C0 (c::r) y d->d.sum=n->DV d (gD (c::r) y);rw[ep];refine⟨⟨k,_,rfl,b1,b2,q1⟩,by rw[QR,q2];lia,Z,?_⟩;rintro d ⟨I,d',rfl,h1,h2,O⟩ hs;rw[QR] at hs;have M:=ih (y-I*c.1);cases F:dW r (y-I*c.1) with
   |none=>
    rw[F] at M;exact absurd O (M d')
   |some m=>
    rw[F] at M;have h6:=M.2.2.1 d' O;have h5:=S _ (inl.mpr ⟨I,m,h1,h2,F,rfl⟩);have hm:m+I=n:=by lia
    have b3:=f4 I ((sY hc).mp ⟨h1,h2⟩) (by rw[F,e];simp[hm]);by_cases ar:I<k
    ·exact .inl ar
    ·have as:I=k:=by lia
     subst as;refine .inr ⟨rfl,?_⟩;rw[F] at Y;cases Y;exact q4 d' O ()
end FM
namespace FM
open FrCoins
def zL(x:Nat)(l:Kinds):Array (Option Nat):=((N0 (x+1)).map (dW l)).toArray
theorem oF{x y:Nat}(l:Kinds)(h:y<=x):(zL x l).getD y none=dW l y:=by
 unfold zL;rw[Array.getD_eq_getD_getElem?];simp[show y<x+1 by lia]
def lC(x:Nat):Kinds->List (Array (Option Nat))
 |[]=>[zL x []]
 |c::r=>zL x (c::r)::lC x r
theorem qB(x:Nat)(l:Kinds):(lC x l).headD #[]=zL x l:=by cases l<;>rfl
theorem DW(x:Nat)(c:Nat×Nat)(r:Kinds):more x c.1 c.2 (zL x r)=zL x (c::r):=by
 unfold more;show _=((N0 (x+1)).map (dW (c::r))).toArray;congr 1;refine Om fun y z=>?_;rw[Px] at z;show _=sX ((N0 (min c.2 (y/c.1)+1)).map fun k=>(dW r (y-k*c.1)).map fun n=>n+k);unfold sX;congr 1;refine Om fun k F=>?_;rw[oF r (show y-k*c.1<=x by lia)]
theorem vH(x:Nat):∀(l:Kinds)(r:Kinds),l.foldl (fun(z:List (Array (Option Nat)))(c:Nat×Nat)=>more x c.1 c.2 (z.headD #[])::z) (lC x r)=lC x (l.reverse++r)
 |[],r=>rfl
 |c::l,r=>by
  rw[UK,qB,DW,TQ,Oz];exact vH x l (c::r)
theorem ym(x:Nat)(l:Kinds):tables x l=lC x l.reverse:=by
 have:=vH x l [];rw[OC] at this;exact this
theorem A7(x:Nat):∀(l:Kinds)(y:Nat),y<=x->pick l (lC x l) y=gD l y
 |[],y,_=>rfl
 |c::r,y,J=>by
  have F:∀(u:Array (Option Nat))(I:List (Array (Option Nat))),u=zL x r->pick (c::r) (zL x (c::r)::u::I) y=pickK c r y::pick r (u::I) (y-pickK c r y*c.1):=by
   intro u I L;subst L
   have M:((N0 (min c.2 (y/c.1)+1)).reverse.find? fun(k:Nat)=>((zL x r).getD (y-k*c.1) none).map (fun(n:Nat)=>n+k)==(zL x (c::r)).getD y none).getD 0=pickK c r y:=by
    unfold pickK;congr 2;funext k;rw[oF r (show y-k*c.1<=x by lia),oF (c::r) J]
   show _::_=_;rw[M]
  cases r with
  |nil=>
   show pick [c] (zL x [c]::zL x []::[]) y=_;rw[F _ _ rfl];rfl
  |cons z r=>
   show pick (c::z::r) (zL x (c::z::r)::zL x (z::r)::lC x r) y=_;rw[F _ _ rfl];show _::pick (z::r) (lC x (z::r)) _=_;rw[A7 x (z::r) _ ()];rfl
theorem vI(c:Coins)(x:Nat):Qq c x=if (dW (KINDS.zip c).reverse x).isSome=true then some (gD (KINDS.zip c).reverse x).reverse else none:=by
 unfold Qq;dsimp only;rw[ym,qB,oF _ (NX _),A7 x _ x (NX _)]
theorem A8:∀{l:Kinds}{y:Nat}{d:List Nat},C0 l y d->d.length=l.length
 |[],_,_,h=>by rw[h.2];rfl
 |c::r,_,_,⟨k,d',e,_,_,h⟩=>by rw[e,Ol,A8 h,Ol]
theorem vJ(c:Coins):∀x∈(KINDS.zip c).reverse,0<x.1:=fun x z=>by
 have h:=(RL (a:=x.1) (b:=x.2) (Ur.mp z)).1;unfold KINDS at h;simp at h;lia
end FM
namespace FM
open FrCoins
def kd(z:List Nat)(k:Nat):Kinds:=((KINDS.zip z).take k).reverse
def cn(k:Nat):Nat:=KINDS.getD k 1
theorem mj{z:List Nat}{k:Nat}(F:z.length=8)(I:k<8):kd z (k+1)=(cn k,z.getD k 0)::kd z k:=by
 unfold kd cn
 have e:(KINDS.zip z)[k]?=some (KINDS.getD k 1,z.getD k 0):=by
  rw[O_];have J:KINDS.length=8:=rfl;constructor
  ·simp[Q7,show k<KINDS.length by lia]
  ·simp[Q7,show k<z.length by lia]
 rw[Pg,e];simp
theorem HP{z:List Nat}(F:z.length=8):kd z 8=(KINDS.zip z).reverse:=by
 unfold kd;rw[OD (by rw[Qv,F];decide)]
def fw(l:Kinds)(x:Nat):Nat:=(dW l x).getD 10000
theorem A9:∀{l:Kinds}{y:Nat}{d:List Nat},C0 l y d->d.sum<=(l.map (·.2)).sum
 |[],_,_,h=>by rw[h.2];exact NX _
 |c::r,_,_,⟨k,d',e,h1,_,h2⟩=>by
  have:=A9 h2;rw[e,QR,Oo,QR];lia
theorem HQ{l:Kinds}(z:∀c∈l,0<c.1){y n:Nat}(h:dW l y=some n):n<=(l.map (·.2)).sum:=by
 have b:=lB l y z;rw[h] at b;obtain⟨F,I,_⟩:=b;rw[<-I];exact A9 F
structure Iy (l:Kinds):Prop where
 pos:∀c∈l,0<c.1
 sum:(l.map (·.2)).sum<10000
theorem Iy.lt{l:Kinds}(h:Iy l){y n:Nat}(e:dW l y=some n):n<10000:=O8 (HQ h.pos e) h.sum
theorem zM{z:List Nat}(L:z.length=8)(I:∀n∈z,n<=100):∀k,k<=8->Iy (kd z k)
 |0,_=>⟨fun c I=>by simp[kd] at I,by simp[kd]⟩
 |k+1,J=>by
  have gen:∀k,k<=8->((kd z k).map (·.2)).sum<=100*k:=by
   intro k
   induction k with
   |zero=>intro _;simp[kd]
   |succ k M=>
    intro J;rw[mj L (),Oo,QR];have:=M ()
    have:z.getD k 0<=100:=by
     have e:z.getD k 0=z[k]'():=by simp[Q7,show k<z.length by lia]
     rw[e];exact I _ (Ps _)
    show z.getD k 0+_<=_;lia
  refine⟨fun c F=>?_,by have:=gen (k+1) J;lia⟩;unfold kd at F;have O:=Ss (Ur.mp F);have:=vJ z c (Ur.mpr O);exact this
def vK(c:Nat×Nat)(r:Kinds)(x:Nat):List Nat:=(N0 (min c.2 (x/c.1)+1)).map fun k=>k+fw r (x-k*c.1)
theorem DX{c:Nat×Nat}{r:Kinds}{x m:Nat}(h:Iy (c::r))(hm:m∈vK c r x)(I:∀y∈vK c r x,m<=y):m=fw (c::r) x:=by
 unfold fw
 have e:dW (c::r) x=Pb ((N0 (min c.2 (x/c.1)+1)).map fun k=>(dW r (x-k*c.1)).map fun n=>n+k):=by
  rw[<-mh];rfl
 have h0:0+fw r (x-0*c.1)∈vK c r x:=Oq.mpr ⟨0,Px.mpr (So _),rfl⟩;cases S:dW (c::r) x with
 |some v=>
  rw[S] at e;obtain⟨m1,m2⟩:=fH e.symm;obtain⟨k0,Y,Z⟩:=Oq.mp m1;obtain⟨n0,al,ev⟩:=Oc.mp Z
  have hv:m<=v:=by
   refine I v (Oq.mpr ⟨k0,Y,?_⟩);unfold fw;rw[al];show k0+n0=v;lia
  obtain⟨k,J,F⟩:=Oq.mp hm;have lt:=h.lt S;show m=v;cases L:dW r (x-k*c.1) with
  |none=>
   unfold fw at F;rw[L] at F;have:k+10000=m:=F;lia
  |some O=>
   have:v<=O+k:=m2 _ (Oq.mpr ⟨k,J,by rw[L];rfl⟩);unfold fw at F;rw[L] at F;have:k+O=m:=F;lia
 |none=>
  rw[S] at e
  have all:∀k,k∈N0 (min c.2 (x/c.1)+1)->dW r (x-k*c.1)=none:=fun k J=>by
   cases L:dW r (x-k*c.1) with
   |none=>rfl
   |some O=>
    exfalso;have M:some (O+k)∈(N0 (min c.2 (x/c.1)+1)).map fun k=>(dW r (x-k*c.1)).map fun n=>n+k:=Oq.mpr ⟨k,J,by rw[L];rfl⟩
    have gen:∀(l:List (Option Nat))(z:Nat),some z∈l->Pb l≠none:=by
     intro l
     induction l with
     |nil=>intro z hz;cases hz
     |cons a l ih=>
      intro z hz q;rw[fM] at q;cases a with
      |none=>
       rw[du] at q;rcases Og.mp hz with w|w
       ·cases w
       ·exact ih z w q
      |some b=>
       cases hl:Pb l with
       |none=>rw[hl] at q;cases q
       |some d=>rw[hl] at q;cases q
    exact gen _ _ M e.symm
  have e0:0+fw r (x-0*c.1)=10000:=by
   unfold fw;rw[all 0 (Px.mpr (So _))];rfl
  have:=I _ h0;obtain⟨k,J,F⟩:=Oq.mp hm;unfold fw at F;rw[all k J] at F;have F:k+10000=m:=F;show m=10000;lia
theorem HR(z x:Nat):fw [(1,z)] x=if x<=z then x else 10000:=by
 have J:∀c∈[(1,z)],0<c.1:=fun c L=>by cases OT.mp L;exact VB
 have b:=lB [(1,z)] x J;unfold fw;cases e:dW [(1,z)] x with
 |none=>
  rw[e] at b;by_cases h:x<=z
  ·exact absurd ⟨x,[],rfl,h,by show x*1<=x;lia,by show x-x*1=0/\_;exact⟨by lia,rfl⟩⟩ (b [x])
  ·rw[if_neg h];rfl
 |some n=>
  rw[e] at b;obtain⟨⟨k,d,M,h1,h2,I,O⟩,F,_⟩:=b;rw[M,O] at F;have F:k+0=n:=by simpa using F
  have h1:k<=z:=h1;have h2:k*1<=x:=h2;have I:x-k*1=0:=I;rw[if_pos ()];show n=x;lia
theorem DY{c:Nat×Nat}{r:Kinds}{x v k:Nat}(h:Iy (c::r))(L:dW (c::r) x=some v)(O:k<min c.2 (x/c.1)+1)(F:k+fw r (x-k*c.1)<=fw (c::r) x)(S:∀j,k<j->j<min c.2 (x/c.1)+1->fw (c::r) x<j+fw r (x-j*c.1)):
  pickK c r x=k/\(dW r (x-k*c.1)).isSome=true:=by
 have Z:fw (c::r) x=v:=by unfold fw;rw[L];rfl
 rw[Z] at F S;have lt:=h.lt L
 have e:dW (c::r) x=Pb ((N0 (min c.2 (x/c.1)+1)).map fun k=>(dW r (x-k*c.1)).map fun n=>n+k):=by
  rw[<-mh];rfl
 rw[L] at e;obtain⟨m1,m2⟩:=fH e.symm
 have hs:∃I,dW r (x-k*c.1)=some I/\I+k=v:=by
  cases J:dW r (x-k*c.1) with
  |none=>
   unfold fw at F;rw[J] at F;have:k+10000<=v:=F;lia
  |some I=>
   have g:v<=I+k:=m2 _ (Oq.mpr ⟨k,Px.mpr O,by rw[J];rfl⟩);unfold fw at F;rw[J] at F;have:k+I<=v:=F;exact⟨I,rfl,by lia⟩
 obtain⟨I,J,Y⟩:=hs;refine⟨?_,by rw[J];rfl⟩;unfold pickK;rw[L];obtain⟨M,f1,f2,f3,f4⟩:=pL (p:=fun k=>(dW r (x-k*c.1)).map (fun n=>n+k)==some v) (min c.2 (x/c.1)+1) ⟨k,O,by rw[J];show(some (I+k)==some v)=true;rw[Y];exact beq_self_eq_true _⟩;rw[f1];show M=k;have g1:=f4 k O (by rw[J];show(some (I+k)==some v)=true;rw[Y];exact beq_self_eq_true _);by_cases q:k<M
 ·have:=S M q f2;have z:=eq_of_beq f3;obtain⟨n2,e2,e3⟩:=Oc.mp z;unfold fw at this;rw[e2] at this;have:v<M+n2:=this;lia
 ·lia
theorem B_{c:Nat×Nat}{r:Kinds}{x v:Nat}(h:Iy (c::r))(z:dW (c::r) x=some v):∃k,k<min c.2 (x/c.1)+1/\k+fw r (x-k*c.1)<=fw (c::r) x:=by
 have F:fw (c::r) x=v:=by unfold fw;rw[z];rfl
 have e:dW (c::r) x=Pb ((N0 (min c.2 (x/c.1)+1)).map fun k=>(dW r (x-k*c.1)).map fun n=>n+k):=by
  rw[<-mh];rfl
 rw[z] at e;obtain⟨I,M⟩:=fH e.symm;obtain⟨k,J,L⟩:=Oq.mp I;obtain⟨n,en,O⟩:=Oc.mp L;refine⟨k,Px.mp J,?_⟩;rw[F];unfold fw;rw[en];show k+n<=v;lia
end FM
namespace FM
open FrCoins
theorem DZ:∀{l:Kinds}{y:Nat}{d:List Nat},C0 l y d->∀(i k:Nat)(c:Nat×Nat),d[i]?=some k->l[i]?=some c->k<=c.2
 |[],_,_,h,i,k,c,h1,h2=>by simp at h2
 |e::r,_,_,⟨n,d',q,z,_,h⟩,i,k,c,h1,h2=>by
  subst q;cases i with
  |zero=>
   simp at h1 h2;subst h1;subst h2;exact z
  |succ i=>exact DZ h i k c (by simpa using h1) (by simpa using h2)
theorem sZ{c:Coins}{x:Nat}{d:List Nat}(h:Qq c x=some d)(F:c.length=8):d.length=8/\∀(i k n:Nat),d[i]?=some k->c[i]?=some n->k<=n:=by
 rw[vI] at h;have t:=lB (KINDS.zip c).reverse x (vJ c);cases e:dW (KINDS.zip c).reverse x with
 |none=>rw[e] at h;cases h
 |some m=>
  rw[e] at t h;have w:=t.1;have hd:(gD (KINDS.zip c).reverse x).reverse=d:=N6.inj h;have z:(KINDS.zip c).length=8:=by rw[Qv,F];rfl
  have hl:(gD (KINDS.zip c).reverse x).length=8:=by rw[A8 w,UV,z]
  refine⟨by rw[<-hd,UV,hl],fun i k n h1 h2=>?_⟩
  have hi:i<8:=by
   have:=(N4.mp h2).1;lia
  rw[<-hd,Ug ()] at h1
  have I:KINDS[i]?=some (KINDS.getD i 0):=by
   have:i<KINDS.length:=hi;simp[OO,this]
  have J:(KINDS.zip c).reverse[8-1-i]?=some (KINDS.getD i 0,n):=by
   rw[Ug (),z,show 8-1-(8-1-i)=i by lia];exact O_.mpr ⟨I,h2⟩
  rw[hl] at h1;exact DZ w _ k _ h1 J
end FM
namespace FM
open FrTariff GarText
def bM(b:Nat):Nat:=if (97<=b/\b<=122)\/(48<=b/\b<=57)\/b=32\/b=10 then b else 63
def sg(b:Bytes):List Nat:=b.map fun c=>bM c.toNat
def small(n:Nat):Bool:=decide (97<=n)&&decide (n<=122)
def dE(n:Nat):Bool:=decide (48<=n)&&decide (n<=57)
theorem lD(n:Nat):small (bM n)=small n:=by
 unfold bM small;split
 ·rfl
 ·rename_i h;have h1:¬(97<=n/\n<=122):=fun q=>h (.inl q);rw[show(decide (97<=63)&&decide (63<=122))=false from rfl];symm;simp only[Sy,decide_eq_false_iff_not];lia
theorem lE(n:Nat):dE (bM n)=dE n:=by
 unfold bM dE;split
 ·rfl
 ·rename_i h;have h1:¬(48<=n/\n<=57):=fun q=>h (.inr (.inl q));rw[show(decide (48<=63)&&decide (63<=57))=false from rfl];symm;simp only[Sy,decide_eq_false_iff_not];lia
theorem yn{n:Nat}(h:small n=true\/dE n=true):bM n=n:=by
 unfold small dE at h;simp only[NW,decide_eq_true_eq] at h;unfold bM;rw[if_pos ()]
theorem lF{n m:Nat}(h:bM n=m)(z:small m=true\/dE m=true\/m=32\/m=10):n=m:=by
 unfold small dE at z;simp only[NW,decide_eq_true_eq] at z;unfold bM at h;split at h
 ·exact h
 ·lia
theorem s_{a b:UInt8}(h:a.toNat=b.toNat):a=b:=UInt8.toNat_inj.mp h
theorem gx(b:Bytes):(sg b).length=b.length:=by unfold sg;simp
theorem tf(b:Bytes):sg b=[]↔b=[]:=by
 unfold sg;simp
def gu(l:List Nat):Bool:=l.all fun c=>small c||dE c
theorem zN:∀{a b:Bytes},gu (sg a)=true->sg a=sg b->a=b
 |[],b,_,e=>by
  have:sg b=[]:=e.symm;exact((tf b).mp this).symm
 |x::a,[],_,e=>by cases e
 |x::a,y::b,h,e=>by
  have h:(small (bM x.toNat)||dE (bM x.toNat))=true/\gu (sg a)=true:=by
   unfold gu sg at h;rw[Oo,Qc,NW] at h;exact h
  have F:bM x.toNat=bM y.toNat:=(PB.inj e).1;have I:sg a=sg b:=(PB.inj e).2;have z:small (bM x.toNat)=true\/dE (bM x.toNat)=true:=Bool.or_eq_true_iff.mp h.1;have ix:x.toNat=bM x.toNat:=lF rfl (z.elim .inl fun q=>.inr (.inl q));have J:y.toNat=bM x.toNat:=lF F.symm (z.elim .inl fun q=>.inr (.inl q));rw[s_ (ix.trans J.symm),zN h.2 I]
def cd(s:String):List Nat:=s.toList.map Char.toNat
theorem je{b:Bytes}{s:String}(h1:sg (ascii s)=cd s)(h2:gu (cd s)=true):sg b=cd s↔b=ascii s:=by
 constructor
 ·intro e;exact(zN (by rw[h1];exact h2) (h1.trans e.symm)).symm
 ·intro e;rw[e,h1]
def dS(l:List Nat):Bool:=decide (l.length<=12)&&(match l with|[]=>false|c::_=>small c)&&gu l
theorem zO(c:UInt8):isSmall c=small c.toNat:=rfl
theorem Ca(b:Bytes):gu (sg b)=b.all fun x=>isSmall x||isDigit x:=by
 unfold gu sg;rw[SX];congr 1;funext c;show(small (bM c.toNat)||dE (bM c.toNat))=_;rw[lD,lE];rfl
theorem fN(b:Bytes):dS (sg b)=isName b:=by
 unfold dS isName;rw[gx,Ca];cases b with
 |nil=>rfl
 |cons c r=>
  show(decide ((c::r).length<=12)&&small (bM c.toNat)&&(c::r).all fun x=>isSmall x||isDigit x)=(isSmall c&&(r.all (fun x=>isSmall x||isDigit x)&&decide ((c::r).length<=12)));rw[lD,Qc,<-zO];cases isSmall c<;>cases (r.all fun x=>isSmall x||isDigit x)<;>cases decide ((c::r).length<=12)<;>simp
theorem ny{b:Bytes}(h:isName b=true):gu (sg b)=true:=by
 rw[<-fN] at h;unfold dS at h;exact(O9.mp h).2
theorem Fw{a b:Bytes}(h:isName a=true):sg a=sg b↔a=b:=⟨fun e=>zN (ny h) e,fun e=>by rw[e]⟩
def valN(l:List Nat):Nat:=l.foldl (fun n c=>10*n+(c-48)) 0
def aY(l:List Nat):Bool:=(l.all dE&&decide (l≠[]))&&(decide (l.length<=9)&&(decide (l=[48])||decide (l.head?≠some 48)))
theorem wI(b:Bytes):(sg b).all dE=b.all isDigit:=by
 unfold sg;rw[SX];congr 1;funext c;show dE (bM c.toNat)=_;rw[lE];rfl
theorem ml:∀{b:Bytes},b.all isDigit=true->sg b=b.map UInt8.toNat
 |[],_=>rfl
 |c::b,h=>by
  rw[Qc,NW] at h;show bM c.toNat::sg b=c.toNat::b.map UInt8.toNat;rw[yn (.inr h.1),ml h.2]
theorem Fx{b:Bytes}(h:b.all isDigit=true):valN (sg b)=valueOf b:=by
 unfold valN valueOf;rw[ml h,foldl_map]
theorem mn(b:Bytes):aY (sg b)=(numberIn b).isSome:=by
 unfold aY numberIn;rw[wI,gx];have J:(sg b≠[])↔b≠[]:=not_congr (tf b);by_cases hd:b.all isDigit=true
 ·have e:=ml hd;cases b with
  |nil=>rfl
  |cons c r=>
   have L:((sg (c::r)).head?≠some 48)↔¬c=48:=by
    rw[e];show(some c.toNat≠some 48)↔_;constructor
    ·intro h q;subst q;exact h rfl
    ·intro h q;exact h (s_ (N6.inj q))
   have h1:(sg (c::r)=[48])↔c=48/\r=[]:=by
    rw[e];constructor
    ·intro q;have M:c.toNat=48:=(PB.inj q).1;have O:r.map UInt8.toNat=[]:=(PB.inj q).2;exact⟨s_ M,by simpa using O⟩
    ·rintro⟨rfl,rfl⟩;rfl
   have hl:((c::r).length=1)↔r=[]:=by
    rw[Ol];constructor
    ·intro q;exact Qk ()
    ·rintro rfl;rfl
   have S:((c::r).head?=some 48->(c::r).length=1)↔(¬c=48\/r=[]):=by
    rw[hl];constructor
    ·intro q;by_cases F:c=48
     ·exact .inr (q (by rw[F];rfl))
     ·exact .inl F
    ·rintro(q|q) h
     ·exact absurd (N6.inj h) q
     ·exact q
   simp only[J,hd,L,h1,S,Op,ne_eq,reduceCtorEq,not_false_eq_true,decide_true,true_and];by_cases F:c=48
   ·by_cases I:r=[]
    ·simp[F,I]
    ·by_cases z:(c::r).length<=9
     ·simp[F,I]
     ·simp[F,I]
   ·by_cases z:(c::r).length<=9
    ·simp at z;simp[F,z]
    ·have Y:¬r.length+1<=9:=z;simp[F,Y]
 ·have Z:b.all isDigit=false:=by simpa using hd
  rw[Z,if_neg (fun q=>Bool.noConfusion q.2.2.1)];rfl
theorem j1{b:Bytes}{n:Nat}(h:numberIn b=some n):valN (sg b)=n/\b.all isDigit=true/\0<b.length/\b.length<=9:=by
 unfold numberIn at h;split at h
 ·rename_i F;obtain⟨h1,h2,z,I⟩:=F;cases h;exact⟨Fx z,z,RR.mpr h1,h2⟩
 ·cases h
def aJ(c:Nat):List Nat->List (List Nat)
 |[]=>[[]]
 |x::r=>match aJ c r with
  |[]=>[[x]]
  |h::t=>if x=c then[]::h::t else(x::h)::t
theorem pM(c:UInt8)(b:Bytes):parted c b≠[]:=by
 cases b with
 |nil=>intro h;cases h
 |cons x r=>
  unfold parted;split
  ·intro h;cases h
  ·split<;>(intro h;cases h)
theorem tj{c:UInt8}(I:c.toNat=32\/c.toNat=10):∀b:Bytes,aJ c.toNat (sg b)=(parted c b).map sg
 |[]=>rfl
 |x::r=>by
  have J:=tj I r;show(match aJ c.toNat (sg r) with|[]=>_|h::t=>_)=_;rw[J];have L:parted c (x::r)=(match parted c r with|[]=>[[x]]|h::t=>if x=c then[]::h::t else(x::h)::t):=rfl;rw[L];cases e:parted c r with
  |nil=>exact absurd e (pM c r)
  |cons h t=>
   show(if bM x.toNat=c.toNat then _ else _)=_;by_cases F:x=c
   ·have h1:bM x.toNat=c.toNat:=by
     rw[F];unfold bM;rw[if_pos ()]
    rw[if_pos h1];simp only[F,if_true,Oo];rfl
   ·have h1:¬bM x.toNat=c.toNat:=fun q=>F (s_ (lF q (by rcases I with z|z<;>simp[z])));rw[if_neg h1];simp only[F,if_false,Oo];rfl
theorem iP(b:Bytes):aJ 32 (sg b)=(words b).map sg:=tj (c:=32) (.inl rfl) b
theorem yo(b:Bytes):aJ 10 (sg b)=(parted 10 b).map sg:=tj (c:=10) (.inr rfl) b
end FM
namespace FM
open FrTariff GarText
abbrev W:=List (List Nat)
def gE(i:Nat):List Nat:=if i=0 then cd "tariff" else if i=1 then cd "free" else if i=2 then cd "grace" else cd "lost"
def gK(i:Nat):Nat:=if i=0 then 0 else if i=1 then 120 else if i=2 then 60 else 99999
def aL(i:Nat)(v:W):Nat:=
 if v.length≠2\/v.getD 0 []≠gE i then 1
 else if i=0 then(if dS (v.getD 1 [])=true then 0 else 1)
 else if aY (v.getD 1 [])=true then(if valN (v.getD 1 [])<=gK i then 0 else 2) else 1
def gp(l:List Nat):Bool:=decide (l.length=7)&&decide (l.count 48+l.count 49=7)
def dq(v:W):Bool:=
 let asked:=if v.take 1=[cd "first"] then v.drop 1 else v
 decide (asked=[])||(decide (asked.length=2)&&decide (asked.getD 0 []=cd "card")&&dS (asked.getD 1 []))
def be(v:W):Bool:=
 decide (8<=v.length)&&(decide (v.getD 0 []=cd "buy")||decide (v.getD 0 []=cd "flat"))&&(aY (v.getD 2 [])&&aY (v.getD 3 [])&&aY (v.getD 5 [])&&aY (v.getD 6 [])&&aY (v.getD 7 []))&&
  dS (v.getD 1 [])&&gp (v.getD 4 [])&&dq (v.drop 8)
def dw(v:W):Bool:=
 (if v.getD 0 []=cd "buy" then decide (1<=valN (v.getD 3 []))&&decide (valN (v.getD 3 [])<=10080) else decide (valN (v.getD 3 [])<1440))&&
  (decide (valN (v.getD 5 [])<valN (v.getD 6 []))&&decide (valN (v.getD 6 [])<=1440))&&decide (valN (v.getD 2 [])<=99999)&&(decide (1<=valN (v.getD 7 []))&&decide (valN (v.getD 7 [])<=4))
def bb(v:W)(earlier:W):Nat:=
 if be v=false then 1 else if dw v=false then 2 else if v.getD 1 []∈earlier then 3 else if earlier.length=12 then 4 else 0
theorem yp(b:Bytes):sg b=cd "tariff"↔b=ascii "tariff":=je (by decide+kernel) (by decide+kernel)
theorem HS(b:Bytes):sg b=cd "free"↔b=ascii "free":=je (by decide+kernel) (by decide+kernel)
theorem Fy(b:Bytes):sg b=cd "grace"↔b=ascii "grace":=je (by decide+kernel) (by decide+kernel)
theorem HU(b:Bytes):sg b=cd "lost"↔b=ascii "lost":=je (by decide+kernel) (by decide+kernel)
theorem D0(b:Bytes):sg b=cd "buy"↔b=ascii "buy":=je (by decide+kernel) (by decide+kernel)
theorem D1(b:Bytes):sg b=cd "flat"↔b=ascii "flat":=je (by decide+kernel) (by decide+kernel)
theorem mo(b:Bytes):sg b=cd "first"↔b=ascii "first":=je (by decide+kernel) (by decide+kernel)
theorem wJ(b:Bytes):sg b=cd "card"↔b=ascii "card":=je (by decide+kernel) (by decide+kernel)
theorem vL{v:W}{z:List Bytes}(hv:v=z.map sg)(h:v.length=2):∃k n,z=[k,n]/\v.getD 0 []=sg k/\v.getD 1 []=sg n:=by
 subst hv;rw[NV] at h
 match z,h with
 |[k,n],_=>exact⟨k,n,rfl,rfl,rfl⟩
theorem uC(i:Nat)(k n:List Nat):aL i [k,n]=if k≠gE i then 1 else if i=0 then(if dS n=true then 0 else 1) else if aY n=true then(if valN n<=gK i then 0 else 2) else 1:=by
 unfold aL;simp
theorem uD(i:Nat){v:W}(h:v.length≠2):aL i v=1:=by
 unfold aL;rw[if_pos (.inl h)]
def zP(z:List Bytes):Option Bytes:=match z with
 |[k,n]=>if k=ascii "tariff"/\isName n=true then some n else none
 |_=>none
def tm(key:Bytes)(z:List Bytes):Option Nat:=match z with
 |[k,n]=>if k=key then numberIn n else none
 |_=>none
theorem tp{z:List Bytes}(h:z.length≠2):zP z=none:=by
 match z,h with
 |[],_=>rfl
 |[_],_=>rfl
 |[_,_],h=>exact absurd rfl h
 |_::_::_::_,_=>rfl
theorem tq{key:Bytes}{z:List Bytes}(h:z.length≠2):tm key z=none:=by
 match z,h with
 |[],_=>rfl
 |[_],_=>rfl
 |[_,_],h=>exact absurd rfl h
 |_::_::_::_,_=>rfl
theorem Cb(b:Bytes):nameIn b=if aL 0 ((words b).map sg)=0 then some ((words b).getD 1 []) else none:=by
 show zP (words b)=_;generalize words b=I;by_cases h2:I.length=2
 ·obtain⟨k,n,e,_,_⟩:=vL rfl (show(I.map sg).length=2 by simpa using h2);subst e;show(if k=ascii "tariff"/\isName n=true then some n else none)=if aL 0 [sg k,sg n]=0 then some n else none
  rw[uC,fN];by_cases z:k=ascii "tariff"
  ·have F:sg k=gE 0:=(yp k).mpr z;by_cases J:isName n=true<;>simp[z,J,F]<;>simp[<-z,F]
  ·have F:¬sg k=gE 0:=fun q=>z ((yp k).mp q);simp[z,F]
 ·rw[tp h2,uD 0 (by simpa using h2)];rfl
theorem yq(b:Bytes):aL 0 ((words b).map sg)=0\/aL 0 ((words b).map sg)=1:=by
 unfold aL;split
 ·exact .inr rfl
 ·rw[if_pos rfl];split
  ·exact .inl rfl
  ·exact .inr rfl
theorem Fz(s:Sofar)(b:Bytes):lineOn 0 s b=if aL 0 ((words b).map sg)=0 then .ok ⟨(words b).getD 1 [],[],[]⟩ else .error (aL 0 ((words b).map sg)):=by
 unfold lineOn;rw[if_pos rfl,Cb];rcases yq b with h|h
 ·rw[if_pos h,if_pos h]
 ·rw[h];rfl
theorem Cc(key b:Bytes)(w:List Nat)(z:∀x,sg x=w↔x=key):headIn key b=if ((words b).map sg).length≠2\/((words b).map sg).getD 0 []≠w then none else numberIn ((words b).getD 1 []):=by
 show tm key (words b)=_;generalize words b=F;by_cases h2:F.length=2
 ·obtain⟨k,n,e,_,_⟩:=vL rfl (show(F.map sg).length=2 by simpa using h2);subst e;by_cases h:k=key
  ·have I:sg k=w:=(z k).mpr h;simp[tm,h,(z key).mpr rfl]
  ·have I:¬sg k=w:=fun q=>h ((z k).mp q);simp[tm,h,I]
 ·rw[tq h2,if_pos];exact .inl (by simpa using h2)
theorem dX(z:List Bytes)(i:Nat):(z.map sg).getD i []=sg (z.getD i []):=by
 rw[OO,OO,NZ];cases z[i]?<;>rfl
theorem lG(i:Nat)(s:Sofar)(b:Bytes)(key:Bytes)(bd:Nat)(hi:i≠0)(J:HEADS[i-1]?=some (key,bd))(hb:gK i=bd)(L:∀x,sg x=gE i↔x=key):
  lineOn i s b=if aL i ((words b).map sg)=0 then .ok ⟨s.name,s.heads++[valN (((words b).map sg).getD 1 [])],s.products⟩ else .error (aL i ((words b).map sg)):=by
 unfold lineOn;rw[if_neg hi,J];show(match headIn key b with|none=>_|some n=>_)=_;rw[Cc key b (gE i) L];unfold aL;by_cases z:((words b).map sg).length≠2\/((words b).map sg).getD 0 []≠gE i
 ·rw[if_pos z,if_pos z];rfl
 ·rw[if_neg z,if_neg z,if_neg hi,dX,mn];cases e:numberIn ((words b).getD 1 []) with
  |none=>rfl
  |some n=>
   have:=(j1 e).1;simp only[RO,if_true,this,hb];by_cases I:bd<n
   ·have F:¬n<=bd:=by lia
    simp[I,F]
   ·have F:n<=bd:=by lia
    simp[I,F]
theorem wK(i:Nat)(s:Sofar)(b:Bytes)(h1:1<=i)(h2:i<=3):
  lineOn i s b=if aL i ((words b).map sg)=0 then .ok ⟨s.name,s.heads++[valN (((words b).map sg).getD 1 [])],s.products⟩ else .error (aL i ((words b).map sg)):=by
 match i,h1,h2 with
 |1,_,_=>exact lG 1 s b _ _ (by decide) rfl rfl HS
 |2,_,_=>exact lG 2 s b _ _ (by decide) rfl rfl Fy
 |3,_,_=>exact lG 3 s b _ _ (by decide) rfl rfl HU
theorem A_(c:UInt8):bM c.toNat=48↔c=48:=⟨fun h=>s_ (lF h (by decide)),fun h=>by rw[h];rfl⟩
theorem wL(c:UInt8):bM c.toNat=49↔c=49:=⟨fun h=>s_ (lF h (by decide)),fun h=>by rw[h];rfl⟩
def gy(c:UInt8):Option Bool:=if c=49 then some true else if c=48 then some false else none
theorem pN:∀(b:Bytes),((b.mapM gy).isSome=true↔(sg b).count 48+(sg b).count 49=b.length)/\(∀ds,b.mapM gy=some ds->ds=b.map fun c=>decide (c=49))/\(sg b).count 48+(sg b).count 49<=b.length
 |[]=>⟨by simp[sg],fun ds h=>by cases h;rfl,by simp[sg]⟩
 |c::b=>by
  obtain⟨i1,Z,i3⟩:=pN b;have ec:sg (c::b)=bM c.toNat::sg b:=rfl;rw[ec,UW,UW,mapM_cons];by_cases z:c=49
  ·have M:=(wL c).mpr z;have I:(bM c.toNat==48)=false:=by rw[M];rfl
   have S:(bM c.toNat==49)=true:=by rw[M];rfl
   rw[I,S];have hd:gy c=some true:=by unfold gy;rw[if_pos z]
   rw[hd];refine⟨?_,fun ds h=>?_,?_⟩
   ·cases e:b.mapM gy with
    |none=>
     rw[e] at i1;simp at i1 ⊢;lia
    |some ds=>
     rw[e] at i1;simp at i1 ⊢;lia
   ·cases e:b.mapM gy with
    |none=>rw[e] at h;cases h
    |some J=>
     rw[e] at h;cases h;rw[Z J e,Oo];simp[z]
   ·simp;lia
  ·by_cases F:c=48
   ·have O:=(A_ c).mpr F;have Y:(bM c.toNat==48)=true:=by rw[O];rfl
    have L:(bM c.toNat==49)=false:=by rw[O];rfl
    rw[Y,L];have hd:gy c=some false:=by unfold gy;rw[if_neg z,if_pos F]
    rw[hd];refine⟨?_,fun ds h=>?_,?_⟩
    ·cases e:b.mapM gy with
     |none=>
      rw[e] at i1;simp at i1 ⊢;lia
     |some ds=>
      rw[e] at i1;simp at i1 ⊢;lia
    ·cases e:b.mapM gy with
     |none=>rw[e] at h;cases h
     |some J=>
      rw[e] at h;cases h;rw[Z J e,Oo];simp[F]
    ·simp;lia
   ·have hd:gy c=none:=by unfold gy;rw[if_neg z,if_neg F]
    have I:(bM c.toNat==48)=false:=by
     simp only[beq_eq_false_iff_ne,ne_eq,A_];exact F
    have L:(bM c.toNat==49)=false:=by
     simp only[beq_eq_false_iff_ne,ne_eq,wL];exact z
    rw[hd,I,L];refine⟨?_,fun ds h=>(by cases h),?_⟩
    ·simp;lia
    ·simp;lia
theorem pO(b:Bytes):daysIn b=if gp (sg b)=true then some (b.map fun c=>decide (c=49)) else none:=by
 unfold daysIn gp;rw[gx];obtain⟨i1,F,_⟩:=pN b;by_cases z:b.length=7
 ·rw[if_pos z];show b.mapM gy=_;cases e:b.mapM gy with
  |none=>
   rw[e] at i1
   have:¬(sg b).count 48+(sg b).count 49=7:=fun q=>by
    have:=i1.mpr ();cases this
   simp[this]
  |some ds=>
   rw[e] at i1
   have:(sg b).count 48+(sg b).count 49=7:=by
    have:=i1.mp rfl;lia
   simp[z,this,F ds e]
 ·rw[if_neg z];simp[z]
end FM
namespace FM
open FrTariff GarText
theorem uE:¬ascii "first"=ascii "card":=by decide+kernel
theorem Cd(r:List Bytes):tailIn r=if dq (r.map sg)=true then some (decide ((r.map sg).take 1=[cd "first"]),if 2<=r.length then some (r.getLastD []) else none) else none:=by
 match r with
 |[]=>rfl
 |[x]=>
  show(if x=ascii "first" then some (true,none) else none)=_;by_cases h:x=ascii "first"
  ·have h2:=(mo x).mpr h;simp[dq,h2,h];simp[<-h,h2]
  ·have h2:¬sg x=cd "first":=fun q=>h ((mo x).mp q);simp[dq,h2,h]
 |[x,y]=>
  show(if x=ascii "card"/\isName y=true then some (false,some y) else none)=_;by_cases I:x=ascii "first"
  ·have h2:=(mo x).mpr I;have L:¬x=ascii "card":=fun q=>uE (I.symm.trans q);simp[dq,h2,L]
  ·have h2:¬sg x=cd "first":=fun q=>I ((mo x).mp q);by_cases F:x=ascii "card"
   ·have J:=(wJ x).mpr F;have M:¬cd "card"=cd "first":=by decide+kernel
    simp[dq,J,fN,M];simp[F]
   ·have J:¬sg x=cd "card":=fun q=>F ((wJ x).mp q);simp[dq,h2,J,F]
 |[x,y,z]=>
  show(if x=ascii "first"/\y=ascii "card"/\isName z=true then some (true,some z) else none)=_;by_cases I:x=ascii "first"
  ·have h2:=(mo x).mpr I;by_cases F:y=ascii "card"
   ·have J:=(wJ y).mpr F;simp[dq,h2,J,fN];simp[F,I]
   ·have J:¬sg y=cd "card":=fun q=>F ((wJ y).mp q);simp[dq,h2,J,F]
  ·have h2:¬sg x=cd "first":=fun q=>I ((mo x).mp q);simp[dq,h2,I]
 |x::y::z::u::r=>
  show none=_
  have:dq ((x::y::z::u::r).map sg)=false:=by
   unfold dq;simp only[Oo];split<;>simp
  rw[this];rfl
def aP(z:List Bytes):Product:=
 ⟨z.getD 1 [],valN (sg (z.getD 2 [])),if sg (z.getD 0 [])=cd "buy" then .mins (valN (sg (z.getD 3 []))) else .till (valN (sg (z.getD 3 []))),
  (z.getD 4 []).map fun c=>decide (c=49),valN (sg (z.getD 5 [])),valN (sg (z.getD 6 [])),valN (sg (z.getD 7 [])),
  decide (((z.drop 8).map sg).take 1=[cd "first"]),if 2<=(z.drop 8).length then some ((z.drop 8).getLastD []) else none⟩
def D2(I:List Bytes):Option Product:=match I with
 |k::n::c::m::w::a::z::q::r=>if (k=ascii "buy"\/k=ascii "flat")/\isName n=true then
   (numberIn c).bind fun(cents:Nat)=>(numberIn m).bind fun(long:Nat)=>(daysIn w).bind fun(F:List Bool)=>(numberIn a).bind fun(from_:Nat)=>(numberIn z).bind fun(to_:Nat)=>(numberIn q).bind fun(most:Nat)=>(tailIn r).map fun(t:Bool×Option Bytes)=>⟨n,cents,if k=ascii "buy" then .mins long else .till long,F,from_,to_,most,t.1,t.2⟩
  else none
 |_=>none
theorem lH{b:Bytes}(h:aY (sg b)=false):numberIn b=none:=by
 rw[mn] at h;cases e:numberIn b with
 |none=>rfl
 |some n=>rw[e] at h;cases h
theorem lI{b:Bytes}(h:aY (sg b)=true):numberIn b=some (valN (sg b)):=by
 rw[mn] at h;cases e:numberIn b with
 |none=>rw[e] at h;cases h
 |some n=>rw[(j1 e).1]
theorem Ce(M:List Bytes):D2 M=if be (M.map sg)=true then some (aP M) else none:=by
 match M with
 |[]=>rfl
 |[_]=>rfl
 |[_,_]=>rfl
 |[_,_,_]=>rfl
 |[_,_,_,_]=>rfl
 |[_,_,_,_,_]=>rfl
 |[_,_,_,_,_,_]=>rfl
 |[_,_,_,_,_,_,_]=>rfl
 |k::n::c::m::w::a::z::q::r=>
  have F:be ((k::n::c::m::w::a::z::q::r).map sg)=((decide (sg k=cd "buy")||decide (sg k=cd "flat"))&&(aY (sg c)&&aY (sg m)&&aY (sg a)&&aY (sg z)&&aY (sg q))&&dS (sg n)&&gp (sg w)&&dq (r.map sg)):=by
   unfold be;simp
  rw[F];show(if (k=ascii "buy"\/k=ascii "flat")/\isName n=true then _ else none)=_;by_cases J:k=ascii "buy"\/k=ascii "flat"
  ·have I:(decide (sg k=cd "buy")||decide (sg k=cd "flat"))=true:=by
    rcases J with h|h
    ·simp[(D0 k).mpr h]
    ·simp[(D1 k).mpr h]
   rw[I,Op,fN];by_cases L:isName n=true
   ·rw[if_pos ⟨J,L⟩,L,R6];cases h1:aY (sg c) with
    |false=>rw[lH h1];rfl
    |true=>
     rw[lI h1];cases h2:aY (sg m) with
     |false=>rw[lH h2];rfl
     |true=>
      rw[lI h2];rw[pO];cases Z:gp (sg w) with
      |false=>
       simp
      |true=>
       cases O:aY (sg a) with
       |false=>rw[lH O];rfl
       |true=>
        rw[lI O];cases S:aY (sg z) with
        |false=>rw[lH S];rfl
        |true=>
         rw[lI S];cases Y:aY (sg q) with
         |false=>rw[lH Y];rfl
         |true=>
          rw[lI Y,Cd];cases h8:dq (r.map sg) with
          |false=>rfl
          |true=>
           show some _=some (aP _);congr 1;have hb:(k=ascii "buy")↔(sg k=cd "buy"):=(D0 k).symm;unfold aP;simp only[getD_cons_zero,getD_cons_succ,UX,RJ,hb]
   ·rw[if_neg fun h=>L h.2];simp at L;rw[L];simp
  ·have I:(decide (sg k=cd "buy")||decide (sg k=cd "flat"))=false:=by
    simp only[SM,decide_eq_false_iff_not];exact⟨fun h=>J (.inl ((D0 k).mp h)),fun h=>J (.inr ((D1 k).mp h))⟩
   rw[if_neg fun h=>J h.1,I];rfl
theorem wM(b:Bytes):productIn b=if be ((words b).map sg)=true then some (aP (words b)) else none:=Ce (words b)
theorem tu(z:List Bytes):(aP z).bounded=dw (z.map sg):=by
 unfold Product.bounded dw aP CENTS DAY CLASSES;simp only[dX];unfold Holds.ok LONG DAY;by_cases h:sg (z.getD 0 [])=cd "buy"
 ·simp only[h,if_true];generalize valN (sg (z.getD 2 []))=L;generalize valN (sg (z.getD 3 []))=J;generalize valN (sg (z.getD 5 []))=M;generalize valN (sg (z.getD 6 []))=F;generalize valN (sg (z.getD 7 []))=I;generalize decide (L<=99999)=b1;generalize decide (1<=J)=b2;generalize decide (J<=10080)=b3;generalize decide (M<F)=b4;generalize decide (F<=1440)=b5;generalize decide (1<=I)=b6;generalize decide (I<=4)=b7;revert b1 b2 b3 b4 b5 b6 b7;decide
 ·simp only[h,if_false];generalize valN (sg (z.getD 2 []))=L;generalize valN (sg (z.getD 3 []))=J;generalize valN (sg (z.getD 5 []))=M;generalize valN (sg (z.getD 6 []))=F;generalize valN (sg (z.getD 7 []))=I;generalize decide (L<=99999)=b1;generalize decide (J<1440)=b2;generalize decide (M<F)=b3;generalize decide (F<=1440)=b4;generalize decide (1<=I)=b5;generalize decide (I<=4)=b6;revert b1 b2 b3 b4 b5 b6;decide
def namesOf(s:Sofar):W:=s.products.map fun p=>sg p.name
theorem Cf{z:List Bytes}(h:be (z.map sg)=true):isName (z.getD 1 [])=true:=by
 unfold be at h;simp only[NW] at h;have:=h.1.1.2;rw[dX,fN] at this;exact this
theorem yr{s:Sofar}{n:Bytes}(z:isName n=true):(s.products.any fun q=>q.name==n)=true↔sg n∈namesOf s:=by
 unfold namesOf;rw[SH,Oq];constructor
 ·rintro⟨q,h1,h2⟩;exact⟨q,h1,by rw[eq_of_beq h2]⟩
 ·rintro⟨q,h1,h2⟩;refine⟨q,h1,?_⟩;rw[<-(Fw z).mp h2.symm];exact beq_self_eq_true n
theorem tw(i:Nat)(s:Sofar)(b:Bytes)(hi:4<=i)(hl:s.products.length<=12):
  lineOn i s b=if bb ((words b).map sg) (namesOf s)=0 then .ok ⟨s.name,s.heads,s.products++[aP (words b)]⟩ else .error (bb ((words b).map sg) (namesOf s)):=by
 have L:HEADS[i-1]?=none:=by
  rw[Pu];show 3<=i-1;lia
 unfold lineOn;rw[if_neg (),L];show(match productIn b with|none=>_|some p=>_)=_;rw[wM];unfold bb;have z:(namesOf s).length=s.products.length:=by unfold namesOf;simp
 cases M:be ((words b).map sg) with
 |false=>rfl
 |true=>
  have J:=Cf M;simp only[if_true];rw[tu];cases S:dw ((words b).map sg) with
  |false=>rfl
  |true=>
   have F:(aP (words b)).name=(words b).getD 1 []:=rfl;rw[dX,F];generalize (words b).getD 1 []=nm at J;by_cases ha:sg nm∈namesOf s
   ·have:=(yr J).mpr ha;simp only[this,ha,if_true];rfl
   ·have h2:(s.products.any fun q=>q.name==nm)=false:=by
     cases e:(s.products.any fun q=>q.name==nm) with
     |false=>rfl
     |true=>exact absurd ((yr J).mp e) ha
    unfold PRODUCTS;by_cases I:s.products.length=12
    ·simp only[h2,ha,z,I,if_true,if_false,NX,RP];rfl
    ·have O:¬12<=s.products.length:=by lia
     simp only[h2,ha,z,I,O,if_true,if_false,RP];rfl
end FM
namespace FM
open FrTariff GarText
theorem pP(l:List Nat)(c:Nat):valN (l++[c])=10*valN l+(c-48):=by
 unfold valN;rw[PU];rfl
theorem yt:∀(l:List Nat)(n:Nat),n<=l.foldl (fun n c=>10*n+(c-48)) n
 |[],n=>NX n
 |c::l,n=>Od (show n<=10*n+(c-48) by lia) (yt l _)
theorem yu{c:Nat}{r:List Nat}(h1:dE c=true)(h2:c≠48):0<valN (c::r):=by
 unfold dE at h1;simp only[NW,decide_eq_true_eq] at h1;have:=yt r (10*0+(c-48));have e:valN (c::r)=r.foldl (fun n c=>10*n+(c-48)) (10*0+(c-48)):=rfl;rw[e];lia
def Cg(l:List Nat):Prop:=l≠[]/\(l=[48]\/l.head?≠some 48)
theorem mq{r:List Nat}{c:Nat}(h:Cg (r++[c]))(z:r≠[]):Cg r/\r.head?≠some 48:=by
 cases r with
 |nil=>exact absurd rfl z
 |cons x r=>
  rcases h.2 with e|e
  ·exfalso;have:=congrArg Os e;simp at this
  ·have F:(x::r).head?≠some 48:=e;exact⟨⟨z,.inr F⟩,F⟩
theorem tz:∀(n:Nat)(l I:List Nat),l.length=n->l.all dE=true->I.all dE=true->Cg l->Cg I->valN l=valN I->l=I
 |0,l,I,S,_,_,h,_,_=>absurd (Qk S) h.1
 |n+1,l,I,S,hd,J,h,h',e=>by
  obtain⟨r,c,rfl⟩:∃r c,l=r++[c]:=⟨l.dropLast,l.getLast h.1,(R_ h.1).symm⟩;obtain⟨r',O,rfl⟩:∃r c,I=r++[c]:=⟨I.dropLast,I.getLast h'.1,(R_ h'.1).symm⟩;rw[pP,pP] at e;rw[all_append,NW] at hd J;have Z:dE c=true:=by simpa using hd.2
  have L:dE O=true:=by simpa using J.2
  have b:48<=c/\c<=57:=by
   unfold dE at Z;simpa using Z
  have b':48<=O/\O<=57:=by
   unfold dE at L;simpa using L
  have Y:valN r=valN r':=by lia
  have ec:c=O:=by lia
  subst ec;congr 1;by_cases M:r=[]
  ·by_cases F:r'=[]
   ·rw[M,F]
   ·exfalso;obtain⟨_,q⟩:=mq h' F;cases r' with
    |nil=>exact F rfl
    |cons x r'=>
     have dx:dE x=true:=(O9.mp (Qc ▸ J.1)).1;have:=yu (r:=r') dx fun z=>q (by rw[z];rfl);rw[<-Y,M] at this;cases this
  ·by_cases F:r'=[]
   ·exfalso;obtain⟨_,q⟩:=mq h M;cases r with
    |nil=>exact M rfl
    |cons x r=>
     have dx:dE x=true:=(O9.mp (Qc ▸ hd.1)).1;have:=yu (r:=r) dx fun z=>q (by rw[z];rfl);rw[Y,F] at this;cases this
   ·exact tz n r r' (by simpa using S) hd.1 J.1 (mq h M).1 (mq h' F).1 Y
theorem nA{l:List Nat}(h:aY l=true):l.all dE=true/\Cg l:=by
 unfold aY at h;simp only[NW,Pa,decide_eq_true_eq] at h;exact⟨h.1.1,h.1.2,h.2.2⟩
theorem zQ{l z:List Nat}(h:aY l=true)(h':aY z=true):valN l=valN z↔l=z:=by
 obtain⟨a,b⟩:=nA h;obtain⟨F,I⟩:=nA h';exact⟨fun e=>tz _ l z rfl a F b I e,fun e=>by rw[e]⟩
def gO(v:W):Bool:=decide (v.drop 4=[cd "1111111",cd "0",cd "1440",cd "4"])
theorem yw(w:Bytes)(h:w.length=7):(w.map fun c=>decide (c=49)).all (fun d=>d)=true↔sg w=cd "1111111":=by
 match w,h with
 |[a,b,c,d,e,f,g],_=>
  have z:sg [a,b,c,d,e,f,g]=[bM a.toNat,bM b.toNat,bM c.toNat,bM d.toNat,bM e.toNat,bM f.toNat,bM g.toNat]:=rfl;have F:cd "1111111"=[49,49,49,49,49,49,49]:=by decide+kernel
  rw[z,F];simp only[Oo,QC,Qc,all_nil,NW,decide_eq_true_eq,PB.injEq,wL,and_true]
theorem dr8{α:Type}{d:α}{v:List α}(h:8<=v.length)(n:Nat)(k:n<8):v.drop n=v.getD n d::v.drop (n+1):=by
 have h:=Nat.lt_of_lt_of_le k h;rw[List.drop_eq_getElem_cons h,List.getD_eq_getElem?_getD,List.getElem?_eq_getElem h];rfl
theorem Jn{v:W}(h:8<=v.length):v.drop 4=v.getD 4 []::v.getD 5 []::v.getD 6 []::v.getD 7 []::v.drop 8:=
 (dr8 h 4 (by decide)).trans (congrArg _ ((dr8 h 5 (by decide)).trans (congrArg _ ((dr8 h 6 (by decide)).trans (congrArg _ (dr8 h 7 (by decide)))))))
theorem Ch(z:List Bytes)(h:be (z.map sg)=true):(aP z).always=gO (z.map sg):=by
 unfold be at h;simp only[NW,decide_eq_true_eq,dX] at h;obtain⟨⟨⟨⟨⟨h8,hk⟩,⟨⟨⟨n2,n3⟩,n5⟩,n6⟩,n7⟩,hn⟩,hd⟩,he⟩:=h;have z0:aY (cd "0")=true:=by decide+kernel
 have z1:aY (cd "1440")=true:=by decide+kernel
 have z4:aY (cd "4")=true:=by decide+kernel
 have v0:valN (cd "0")=0:=by decide+kernel
 have v1:valN (cd "1440")=1440:=by decide+kernel
 have v4:valN (cd "4")=4:=by decide+kernel
 have I:(z.getD 4 []).length=7:=by
  unfold gp at hd;simp only[NW,decide_eq_true_eq,gx] at hd;exact hd.1
 have i0:valN (sg (z.getD 5 []))=0↔sg (z.getD 5 [])=cd "0":=by rw[<-v0];exact zQ n5 z0
 have i1:valN (sg (z.getD 6 []))=1440↔sg (z.getD 6 [])=cd "1440":=by rw[<-v1];exact zQ n6 z1
 have Z:valN (sg (z.getD 7 []))=4↔sg (z.getD 7 [])=cd "4":=by rw[<-v4];exact zQ n7 z4
 have F:(z.map sg).drop 8=(z.drop 8).map sg:=by rw[Rk]
 rw[F] at he
 have L:(decide (((z.drop 8).map sg).take 1=[cd "first"])=false/\(if 2<=(z.drop 8).length then some ((z.drop 8).getLastD []) else none).isNone=true)↔(z.drop 8).map sg=[]:=by
  match z.drop 8,he with
  |[],_=>simp
  |[x],he=>
   have:sg x=cd "first":=by
    unfold dq at he;by_cases hx:sg x=cd "first"
    ·exact hx
    ·simp[hx] at he
   simp[this]
  |x::y::r,he=>simp
 unfold Product.always gO DAY CLASSES;rw[Jn h8,dX,dX,dX,dX,F];apply QU.mpr;simp only[NW,beq_iff_eq,Rh,decide_eq_true_eq,PB.injEq];constructor
 ·rintro⟨M,O,S,Y,J,q6⟩;exact⟨(yw _ I).mp M,i0.mp O,i1.mp S,Z.mp Y,L.mp ⟨J,q6⟩⟩
 ·rintro⟨M,O,S,Y,J⟩;exact⟨(yw _ I).mpr M,i0.mpr O,i1.mpr S,Z.mpr Y,(L.mpr J).1,(L.mpr J).2⟩
def bN:Nat->W->List (List Nat)->Option (Nat×Nat)×W
 |_,names,[]=>(none,names)
 |i,names,l::r=>
  let v:=aJ 32 l
  let k:=if i<4 then aL i v else bb v names
  if k=0 then bN (i+1) (if i<4 then names else names++[v.getD 1 []]) r else(some (k,i),names)
def gR(ls:W)(names:W):Nat:=
 if ls.getLastD []≠[]\/names.length=0 then 1 else if ((ls.dropLast.drop 4).any fun l=>gO (aJ 32 l))=true then 0 else 5
def dy(ls:W):Nat×Nat:=match bN 0 [] ls.dropLast with
 |(some f,_)=>f
 |(none,names)=>(gR ls names,ls.length-1)
theorem qC:∀(bs:List Bytes)(i:Nat)(s:Sofar),4<=i->s.products.length<=12->
  match bN i (namesOf s) (bs.map sg) with
  |(some f,_)=>linesOn i s bs=.error f
  |(none,names)=>linesOn i s bs=.ok ⟨s.name,s.heads,s.products++bs.map fun b=>aP (words b)⟩/\names=namesOf ⟨s.name,s.heads,s.products++bs.map fun b=>aP (words b)⟩/\
    (s.products++bs.map fun b=>aP (words b)).length<=12/\∀b∈bs,be ((words b).map sg)=true/\dw ((words b).map sg)=true
 |[],i,s,_,hl=>by
  show linesOn i s []=_/\_;rw[QC,OC];exact⟨rfl,rfl,hl,fun b hb=>by simp at hb⟩
 |b::bs,i,s,hi,hl=>by
  have e:lineOn i s b=_:=tw i s b hi hl;rw[Oo]
  show match (if (if i<4 then aL i (aJ 32 (sg b)) else bb (aJ 32 (sg b)) (namesOf s))=0 then bN (i+1) (if i<4 then namesOf s else namesOf s++[(aJ 32 (sg b)).getD 1 []]) (bs.map sg) else _) with
   |(some f,_)=>_|(none,names)=>_
  simp only[if_neg (show ¬i<4 by lia),iP];by_cases I:bb ((words b).map sg) (namesOf s)=0
  ·rw[if_pos I];rw[if_pos I] at e;have z:=I;unfold bb at z
   have J:be ((words b).map sg)=true:=by
    cases q:be ((words b).map sg) with
    |true=>rfl
    |false=>rw[q] at z;simp at z
   have S:dw ((words b).map sg)=true:=by
    cases q:dw ((words b).map sg) with
    |true=>rfl
    |false=>rw[J,q] at z;simp at z
   have f4:s.products.length<12:=by
    rw[J,S] at z;simp only[Bool.true_eq_false,if_false] at z;split at z
    ·cases z
    ·split at z
     ·cases z
     ·rename_i q;have:(namesOf s).length=s.products.length:=by unfold namesOf;simp
      lia
   have F:=qC bs (i+1) ⟨s.name,s.heads,s.products++[aP (words b)]⟩ () (by simp;lia)
   have en:namesOf ⟨s.name,s.heads,s.products++[aP (words b)]⟩=namesOf s++[((words b).map sg).getD 1 []]:=by
    unfold namesOf;rw[Oj,dX];rfl
   rw[en] at F
   have Y:linesOn i s (b::bs)=linesOn (i+1) ⟨s.name,s.heads,s.products++[aP (words b)]⟩ bs:=by
    show(match lineOn i s b with|.error k=>_|.ok t=>_)=_;rw[e]
   rw[Y];generalize bN (i+1) (namesOf s++[((words b).map sg).getD 1 []]) (bs.map sg)=q at F
   match q,F with
   |(some f,_),F=>exact F
   |(none,names),F=>
    obtain⟨i1,L,M,Z⟩:=F;have ea:(s.products++[aP (words b)])++bs.map (fun b=>aP (words b))=s.products++(b::bs).map fun b=>aP (words b):=by simp
    dsimp only at i1 L M;rw[ea] at i1 L M;refine⟨i1,L,M,fun c O=>?_⟩;rcases Og.mp O with rfl|O
    ·exact⟨J,S⟩
    ·exact Z c O
  ·rw[if_neg I];rw[if_neg I] at e;show(match lineOn i s b with|.error k=>_|.ok t=>_)=_;rw[e]
end FM
namespace FM
open FrTariff GarText
def hv(b:Bytes):Nat:=valN (((words b).map sg).getD 1 [])
def vM(i:Nat)(s:Sofar)(b:Bytes):Sofar:=if i=0 then⟨(words b).getD 1 [],[],[]⟩ else⟨s.name,s.heads++[hv b],s.products⟩
theorem zR(i:Nat)(s:Sofar)(b:Bytes)(hi:i<4):lineOn i s b=if aL i ((words b).map sg)=0 then .ok (vM i s b) else .error (aL i ((words b).map sg)):=by
 cases i with
 |zero=>exact Fz s b
 |succ i=>exact wK (i+1) s b () ()
structure HV (i:Nat) (s s':Sofar) (bs:List Bytes) (names:W):Prop where
 names_:names=namesOf s'
 prods:s'.products=(bs.drop (4-i)).map fun b=>aP (words b)
 few:s'.products.length<=12
 form:∀b∈bs.drop (4-i),be ((words b).map sg)=true/\dw ((words b).map sg)=true
 heads:s'.heads=if i=0 then((bs.take 4).drop 1).map hv else s.heads++(bs.take (4-i)).map hv
theorem tD:∀(bs:List Bytes)(i:Nat)(s:Sofar),i<=4->s.products=[]->(i=0->s.heads=[])->
  match bN i [] (bs.map sg) with
  |(some f,_)=>linesOn i s bs=.error f
  |(none,names)=>∃s',linesOn i s bs=.ok s'/\HV i s s' bs names
 |[],i,s,hi,hs,M=>by
  refine⟨s,rfl,?_,?_,?_,?_,?_⟩
  ·unfold namesOf;rw[hs];rfl
  ·rw[hs];simp
  ·rw[hs];simp
  ·simp
  ·split
   ·rename_i q;rw[M q];rfl
   ·simp
 |b::bs,i,s,hi,hs,M=>by
  by_cases Y:i=4
  ·subst Y;have P:=qC (b::bs) 4 s (NX _) (by rw[hs];simp)
   have en:namesOf s=[]:=by
    unfold namesOf;rw[hs];rfl
   rw[en] at P;generalize bN 4 [] ((b::bs).map sg)=q at P
   match q,P with
   |(some f,_),P=>exact P
   |(none,names),P=>
    obtain⟨Z,p2,p3,p4⟩:=P;refine⟨_,Z,p2,?_,p3,p4,?_⟩
    ·show s.products++_=_;rw[hs,Pd];rfl
    ·show s.heads=s.heads++((b::bs).take 0).map hv;simp
  ·have I:i<4:=by lia
   have e:=zR i s b I;rw[Oo]
   have ef:bN i [] (sg b::bs.map sg)=if aL i ((words b).map sg)=0 then bN (i+1) [] (bs.map sg) else(some (aL i ((words b).map sg),i),[]):=by
    show(if (if i<4 then aL i (aJ 32 (sg b)) else _)=0 then bN (i+1) (if i<4 then[] else _) (bs.map sg) else(some (if i<4 then aL i (aJ 32 (sg b)) else _,i),[]))=_;simp only[if_pos I,iP]
   rw[ef];by_cases J:aL i ((words b).map sg)=0
   ·rw[if_pos J];rw[if_pos J] at e
    have el:linesOn i s (b::bs)=linesOn (i+1) (vM i s b) bs:=by
     show(match lineOn i s b with|.error k=>_|.ok t=>_)=_;rw[e]
    rw[el]
    have hn:(vM i s b).products=[]:=by
     unfold vM;split
     ·rfl
     ·exact hs
    have F:=tD bs (i+1) (vM i s b) () hn ();generalize bN (i+1) [] (bs.map sg)=q at F
    match q,F with
    |(some f,_),F=>exact F
    |(none,names),F=>
     obtain⟨s',i1,L⟩:=F
     have O:(b::bs).drop (4-i)=bs.drop (4-(i+1)):=by
      rw[show 4-i=(4-(i+1))+1 by lia];rfl
     refine⟨s',i1,L.names_,by rw[O];exact L.prods,L.few,by rw[O];exact L.form,?_⟩;have S:=L.heads;rw[if_neg ()] at S;rw[S];unfold vM;by_cases z:i=0
     ·subst z;simp
     ·rw[if_neg z,if_neg z];show(s.heads++[hv b])++_=s.heads++((b::bs).take (4-i)).map hv;rw[show 4-i=(4-(i+1))+1 by lia,RQ,Oo,Oz];rfl
   ·rw[if_neg J];rw[if_neg J] at e;show(match lineOn i s b with|.error k=>_|.ok t=>_)=_;rw[e]
theorem eZ(t:Bytes):(aJ 10 (sg t)).dropLast=(lines t).map sg:=by
 rw[yo,<-map_dropLast];rfl
theorem zS(t:Bytes):(aJ 10 (sg t)).getLastD []=sg (behind t):=by
 rw[yo];unfold behind;show _=sg ((parted 10 t).getLast?.getD []);rw[PN,QK];cases (parted 10 t).getLast?<;>rfl
theorem vN(t:Bytes):(aJ 10 (sg t)).length-1=(lines t).length:=by
 have:=congrArg Os (eZ t);rw[QW,NV] at this;exact this
theorem wN(t:Bytes):((dy (aJ 10 (sg t))).1≠0->readTariff t=.error (dy (aJ 10 (sg t))))/\
  ((dy (aJ 10 (sg t))).1=0->∃T,readTariff t=.ok T/\5<=(lines t).length/\T.free=hv ((lines t).getD 1 [])/\T.grace=hv ((lines t).getD 2 [])/\T.lost=hv ((lines t).getD 3 [])/\
   T.products=((lines t).drop 4).map (fun b=>aP (words b))/\T.products.length<=12/\(∀b∈(lines t).drop 4,be ((words b).map sg)=true/\dw ((words b).map sg)=true)/\(T.products.any Product.always)=true/\behind t=[]):=by
 have P:=tD (lines t) 0 ⟨[],[],[]⟩ () rfl fun _=>rfl;unfold dy;rw[eZ];generalize bN 0 [] ((lines t).map sg)=q at P
 match q,P with
 |(some f,ns),P=>
  have P:linesOn 0 ⟨[],[],[]⟩ (lines t)=.error f:=P;refine⟨fun _=>?_,fun h=>?_⟩
  ·unfold readTariff;rw[P]
  ·
   exfalso
   have Y:∀(bs:List Bytes)(i:Nat)(s:Sofar)(f:Nat×Nat),linesOn i s bs=.error f->f.1≠0:=by
    intro bs
    induction bs with
    |nil=>intro i s f h;cases h
    |cons b bs J=>
     intro i s f h;unfold linesOn at h;cases e:lineOn i s b with
     |error k=>
      rw[e] at h;cases h;unfold lineOn at e;intro M;dsimp only at M;subst M;split at e
      ·split at e<;>cases e
      ·split at e
       ·split at e
        ·cases e
        ·split at e<;>cases e
       ·split at e
        ·cases e
        ·split at e
         ·cases e
         ·split at e
          ·cases e
          ·split at e<;>cases e
     |ok u=>
      rw[e] at h;exact J _ _ _ h
   exact Y _ _ _ _ P h
 |(none,names),P=>
  obtain⟨s',Z,L⟩:=(P:∃s',linesOn 0 ⟨[],[],[]⟩ (lines t)=.ok s'/\HV 0 ⟨[],[],[]⟩ s' (lines t) names)
  have hnames:names.length=s'.products.length:=by
   rw[L.names_];unfold namesOf;simp
  have F:(((lines t).map sg).drop 4).any (fun l=>gO (aJ 32 l))=s'.products.any Product.always:=by
   rw[L.prods,<-Rk,RY,RY];have O:=L.form;generalize (lines t).drop (4-0)=r at O ⊢;show r.any _=r.any _
   induction r with
   |nil=>rfl
   |cons b r J=>
    rw[QQ,QQ,J fun c z=>O c (N5 _ z)];congr 1;show gO (aJ 32 (sg b))=(aP (words b)).always;rw[Ch (words b) (O b (Oi ..)).1,iP]
  have hE:gR (aJ 10 (sg t)) names=if behind t≠[]\/s'.products=[] then 1 else if s'.products.any Product.always=false then 5 else 0:=by
   unfold gR;rw[zS,eZ,F,hnames]
   have h1:(sg (behind t)≠[]\/s'.products.length=0)↔(behind t≠[]\/s'.products=[]):=by
    rw[ne_eq,ne_eq,tf];constructor
    ·rintro(h|h)
     ·exact .inl h
     ·exact .inr (Qk h)
    ·rintro(h|h)
     ·exact .inl h
     ·exact .inr (by rw[h];rfl)
   by_cases z:behind t≠[]\/s'.products=[]
   ·rw[if_pos z,if_pos (h1.mpr z)]
   ·rw[if_neg z,if_neg fun q=>z (h1.mp q)];cases s'.products.any Product.always<;>rfl
  have hR:readTariff t=if behind t≠[]\/s'.products=[] then .error (1,(lines t).length) else if (s'.products.any Product.always)=false then .error (5,(lines t).length) else .ok ⟨s'.name,s'.heads.getD 0 0,s'.heads.getD 1 0,s'.heads.getD 2 0,s'.products⟩:=by
   unfold readTariff;rw[Z]
  dsimp only;rw[hE,vN,hR];by_cases z:behind t≠[]\/s'.products=[]
  ·rw[if_pos z,if_pos z];exact⟨fun _=>rfl,fun h=>by cases h⟩
  ·rw[if_neg z,if_neg z];cases ha:s'.products.any Product.always with
   |false=>exact⟨fun _=>rfl,fun h=>by cases h⟩
   |true=>
    refine⟨fun h=>absurd rfl h,fun _=>⟨_,rfl,?_⟩⟩;have hb:behind t=[]:=Classical.byContradiction fun q=>z (.inl q);have hp:s'.products≠[]:=fun q=>z (.inr q)
    have I:5<=(lines t).length:=by
     have:(lines t).drop 4≠[]:=fun q=>hp (by rw[L.prods,show 4-0=4 from rfl,q];rfl);have:=RR.mpr this;rw[Q5] at this;lia
    have S:=L.heads;rw[if_pos rfl] at S
    have hg:∀k,k<3->s'.heads.getD k 0=hv ((lines t).getD (k+1) []):=fun k M=>by
     rw[S,OO,NZ,getElem?_drop,getElem?_take,if_pos (),OO,Sk 1 k];rw[PQ (show k+1<(lines t).length by lia)];rfl
    exact⟨I,hg 0 (),hg 1 (),hg 2 (),L.prods,L.few,L.form,ha,hb⟩
end FM
namespace FM
open FrTariff GarText
theorem jp(c:UInt8):∀b:Bytes,joined [c] (parted c b)=b
 |[]=>rfl
 |x::r=>by
  have z:=jp c r;have I:parted c (x::r)=(match parted c r with|[]=>[[x]]|h::t=>if x=c then[]::h::t else(x::h)::t):=rfl;rw[I];cases e:parted c r with
  |nil=>exact absurd e (pM c r)
  |cons h t=>
   rw[e] at z;by_cases F:x=c
   ·simp only[F,if_true];show joined [c] ([]::h::t)=c::r;show[]++([c]++joined [c] (h::t))=c::r;rw[z];rfl
   ·simp only[F,if_false];cases t with
    |nil=>
     show x::h=x::r;rw[show h=r from z]
    |cons h2 t=>
     show(x::h)++([c]++joined [c] (h2::t))=x::r;have z:h++([c]++joined [c] (h2::t))=r:=z;rw[QG,z]
theorem pQ(b:Bytes):lineText (words b)=b++[LF]:=by
 unfold lineText words;rw[jp]
theorem oG(c:UInt8):∀l:List Bytes,l≠[]->joined [c] l=(l.dropLast.flatMap fun b=>b++[c])++(l.getLast?).getD []
 |[],h=>absurd rfl h
 |[x],_=>by simp[joined]
 |x::y::r,_=>by
  have z:=oG c (y::r) (by simp);show x++([c]++joined [c] (y::r))=_;rw[z,dropLast_cons₂,PV,getLast?_cons_cons];simp
theorem Ci(t:Bytes)(h:behind t=[]):((lines t).flatMap fun b=>b++[LF])=t:=by
 have e:=oG LF (parted LF t) (pM LF t);rw[jp] at e;unfold behind at h;rw[h,OC] at e;exact e.symm
def dg(n:Nat):List Nat:=if h:n<10 then[48+n] else dg (n/10)++[48+n%10]
 termination_by n
 decreasing_by lia
theorem HW:∀n,valN (dg n)=n:=by
 intro n
 induction n using RB with
 |_ n z=>
  unfold dg;split
  ·show 10*0+(48+n-48)=n;lia
  ·rw[pP,z (n/10) ()];lia
theorem Gr(n:Nat):dg n≠[]:=by
 unfold dg;split
 ·simp
 ·simp
theorem yx:∀n,(dg n).all dE=true:=by
 intro n
 induction n using RB with
 |_ n z=>
  unfold dg;split
  ·simp[dE];lia
  ·rw[all_append,z (n/10) ()];simp[dE];lia
theorem FA:∀n,0<n->(dg n).head?≠some 48:=by
 intro n
 induction n using RB with
 |_ n z=>
  intro F;unfold dg;split
  ·simp;lia
  ·rw[head?_append];have:=z (n/10) () ();cases e:(dg (n/10)).head? with
   |none=>
    have:=Gr (n/10);rw[head?_eq_none_iff] at e;exact absurd e this
   |some x=>
    rw[e] at this;simpa using this
theorem FB(n:Nat):Cg (dg n):=by
 refine⟨Gr n,?_⟩;by_cases h:n=0
 ·left;rw[h];unfold dg;rfl
 ·exact .inr (FA n ())
theorem mU:∀k,k<10->(Nat.digitChar k).toNat=48+k:=by decide
theorem Ba:∀(z n:Nat)(acc:List Char),n<z->(Uh 10 z n acc).map Char.toNat=dg n++acc.map Char.toNat
 |0,n,acc,h=>by lia
 |z+1,n,acc,h=>by
  unfold Uh;by_cases F:n/10=0
  ·rw[if_pos F];have I:n<10:=by lia
   rw[Oo,mU _ ()];unfold dg;rw[dif_pos I];rw[Nat.mod_eq_of_lt I];rfl
  ·rw[if_neg F,Ba z (n/10) _ (),Oo,mU _ ()]
   have hd:dg n=dg (n/10)++[48+n%10]:=by
    rw[dg,dif_neg ()]
   rw[hd];simp
theorem yy(n:Nat):(decimal n).map UInt8.toNat=dg n:=by
 have e:=Ba (n+1) n [] ();rw[QC,OC] at e;unfold decimal;rw[On]
 have:∀c∈Nat.toDigits 10 n,(UInt8.toNat ∘ fun(c:Char)=>UInt8.ofNat c.toNat) c=c.toNat:=fun c z=>by
  have F:c.toNat∈dg n:=by
   rw[<-e];exact Oq.mpr ⟨c,z,rfl⟩
  have hd:=OM.mp (yx n) _ F;unfold dE at hd;simp only[NW,decide_eq_true_eq] at hd;show(UInt8.ofNat c.toNat).toNat=c.toNat;rw[UInt8.toNat_ofNat'];lia
 rw[Om this];exact e
theorem fO{b:Bytes}{n:Nat}(h:numberIn b=some n):decimal n=b:=by
 obtain⟨h1,h2,I,J⟩:=j1 h;have hi:aY (sg b)=true:=by rw[mn,h];rfl
 obtain⟨a1,a2⟩:=nA hi;have e:dg n=sg b:=tz _ _ _ rfl (yx n) a1 (FB n) a2 (by rw[HW,h1]);rw[ml h2] at e;have z:(decimal n).map UInt8.toNat=b.map UInt8.toNat:=(yy n).trans e
 have inj:∀(x y:Bytes),x.map UInt8.toNat=y.map UInt8.toNat->x=y:=by
  intro x
  induction x with
  |nil=>intro y h;cases y with|nil=>rfl|cons _ _=>cases h
  |cons a x F=>
   intro y h;cases y with
   |nil=>cases h
   |cons c y=>rw[s_ (PB.inj h).1,F y (PB.inj h).2]
 exact inj _ _ z
theorem Cj{b n:Bytes}(h:nameIn b=some n):words b=[ascii "tariff",n]:=by
 have h:zP (words b)=some n:=h;generalize words b=z at h;by_cases h2:z.length=2
 ·match z,h2 with
  |[k,m],_=>
   have h:(if k=ascii "tariff"/\isName m=true then some m else none)=some n:=h;split at h
   ·rename_i F;cases h;rw[F.1]
   ·cases h
 ·rw[tp h2] at h;cases h
theorem Ck{key b:Bytes}{n:Nat}(h:headIn key b=some n):words b=[key,decimal n]:=by
 have h:tm key (words b)=some n:=h;generalize words b=z at h;by_cases h2:z.length=2
 ·match z,h2 with
  |[k,m],_=>
   have h:(if k=key then numberIn m else none)=some n:=h;split at h
   ·rename_i F;rw[F,fO h]
   ·cases h
 ·rw[tq h2] at h;cases h
theorem Cm{r:List Bytes}{t:Bool×Option Bytes}(h:tailIn r=some t):((if t.1=true then[ascii "first"] else[])++(match t.2 with|none=>[]|some c=>[ascii "card",c]))=r:=by
 unfold tailIn at h;split at h
 ·cases h;rfl
 ·split at h
  ·rename_i z;cases h;rw[z];rfl
  ·cases h
 ·split at h
  ·rename_i z;cases h;rw[z.1];rfl
  ·cases h
 ·split at h
  ·rename_i z;cases h;rw[z.1,z.2.1];rfl
  ·cases h
 ·cases h
theorem vO{w:Bytes}{ds:List Bool}(h:daysIn w=some ds):ds.map sign=w:=by
 rw[pO] at h;split at h
 ·rename_i ha;cases h;unfold gp at ha;simp only[NW,decide_eq_true_eq,gx] at ha;have i1:=(pN w).1;have hs:(w.mapM gy).isSome=true:=i1.mpr ();rw[On]
  have:∀c∈w,(sign ∘ fun c=>decide (c=49)) c=c:=by
   clear ha i1
   induction w with
   |nil=>intro c z;simp at z
   |cons x w L=>
    rw[mapM_cons] at hs;have F:gy x≠none:=fun q=>by rw[q] at hs;cases hs
    have M:(w.mapM gy).isSome=true:=by
     cases e:w.mapM gy with
     |none=>
      rw[e] at hs;cases hd:gy x with
      |none=>exact absurd hd F
      |some y=>rw[hd] at hs;cases hs
     |some y=>rfl
    intro c z;rcases Og.mp z with rfl|z
    ·show sign (decide (c=49))=c;unfold gy at F;by_cases I:c=49
     ·rw[I];rfl
     ·rw[if_neg I] at F;by_cases J:c=48
      ·rw[J];rfl
      ·rw[if_neg J] at F;exact absurd rfl F
    ·exact L M c z
  rw[Om this,map_id']
 ·cases h
theorem wO{b:Bytes}{p:Product}(h:productIn b=some p):p.words_=words b:=by
 have h:D2 (words b)=some p:=h;generalize words b=ws at h
 match ws with
 |[]=>cases h
 |[_]=>cases h
 |[_,_]=>cases h
 |[_,_,_]=>cases h
 |[_,_,_,_]=>cases h
 |[_,_,_,_,_]=>cases h
 |[_,_,_,_,_,_]=>cases h
 |[_,_,_,_,_,_,_]=>cases h
 |k::n::c::m::w::a::z::q::r=>
  have h:(if (k=ascii "buy"\/k=ascii "flat")/\isName n=true then
   (numberIn c).bind fun(cents:Nat)=>(numberIn m).bind fun(long:Nat)=>(daysIn w).bind fun(M:List Bool)=>(numberIn a).bind fun(from_:Nat)=>(numberIn z).bind fun(to_:Nat)=>(numberIn q).bind fun(most:Nat)=>(tailIn r).map fun(t:Bool×Option Bytes)=>(⟨n,cents,if k=ascii "buy" then .mins long else .till long,M,from_,to_,most,t.1,t.2⟩:Product)
  else none)=some p:=h
  split at h
  ·rename_i hc;cases F:numberIn c with
   |none=>rw[F] at h;cases h
   |some c'=>
   cases I:numberIn m with
   |none=>rw[F,I] at h;cases h
   |some m'=>
   cases J:daysIn w with
   |none=>rw[F,I,J] at h;cases h
   |some w'=>
   cases L:numberIn a with
   |none=>rw[F,I,J,L] at h;cases h
   |some a'=>
   cases O:numberIn z with
   |none=>rw[F,I,J,L,O] at h;cases h
   |some z'=>
   cases Y:numberIn q with
   |none=>rw[F,I,J,L,O,Y] at h;cases h
   |some q'=>
   cases Z:tailIn r with
   |none=>rw[F,I,J,L,O,Y,Z] at h;cases h
   |some t=>
    rw[F,I,J,L,O,Y,Z] at h;have h:=N6.inj h;subst h;unfold Product.words_;dsimp only;rw[vO J,fO F,fO L,fO O,fO Y];refine(congrArg (fun x=>_++x) (Cm Z)).trans ?_;rcases hc.1 with S|S
    ·rw[if_pos S,S];dsimp only;rw[fO I];rfl
    ·have al:¬k=ascii "buy":=fun q=>by
      rw[S] at q;exact absurd q (by decide+kernel)
     rw[if_neg al];dsimp only;rw[fO I,S];rfl
  ·cases h
end FM
namespace FM
open FrTariff GarText
def fV(k:Nat):List Nat->Bytes
 |[]=>[]
 |n::r=>lineText [((HEADS[k]?).getD ([],0)).1,decimal n]++fV (k+1) r
def gg(ps:List Product):Bytes:=ps.flatMap fun p=>lineText p.words_
theorem tE(hs:List Nat)(n:Nat):∀k,fV k (hs++[n])=fV k hs++lineText [((HEADS[k+hs.length]?).getD ([],0)).1,decimal n]:=by
 induction hs with
 |nil=>intro k;simp[fV]
 |cons m hs z=>
  intro k;show lineText _++fV (k+1) (hs++[n])=(lineText _++fV (k+1) hs)++_;rw[z (k+1),Oz,Ol,show k+1+hs.length=k+(hs.length+1) by lia]
theorem mV:∀(bs:List Bytes)(i:Nat)(s s':Sofar),4<=i->linesOn i s bs=.ok s'->s'.name=s.name/\s'.heads=s.heads/\gg s'.products=gg s.products++bs.flatMap fun b=>b++[LF]
 |[],i,s,s',_,h=>by
  cases h;simp
 |b::bs,i,s,s',hi,h=>by
  have h:(match lineOn i s b with|.error k=>Except.error (k,i)|.ok t=>linesOn (i+1) t bs)=.ok s':=h
  have z:HEADS[i-1]?=none:=by
   rw[Pu];show 3<=i-1;lia
  cases e:lineOn i s b with
  |error k=>rw[e] at h;cases h
  |ok t=>
   rw[e] at h;obtain⟨i1,F,I⟩:=mV bs (i+1) t s' () h;unfold lineOn at e;rw[if_neg (),z] at e;dsimp only at e;cases ep:productIn b with
   |none=>rw[ep] at e;cases e
   |some p=>
    rw[ep] at e;dsimp only at e;split at e
    ·cases e
    ·split at e
     ·cases e
     ·split at e
      ·cases e
      ·cases e;refine⟨i1,F,?_⟩;rw[I]
       have:gg (s.products++[p])=gg s.products++(b++[LF]):=by
        unfold gg;rw[QH];simp only[PV,Uq,OC];rw[wO ep,pQ]
       rw[this,PV,Oz]
theorem tF:∀(bs:List Bytes)(i:Nat)(s s':Sofar),1<=i->i<=4->s.heads.length=i-1->s.products=[]->linesOn i s bs=.ok s'->s'.name=s.name/\fV 0 s'.heads++gg s'.products=fV 0 s.heads++bs.flatMap fun b=>b++[LF]
 |[],i,s,s',_,_,_,z,h=>by
  cases h;rw[z];simp[gg]
 |b::bs,i,s,s',h1,S,hl,z,h=>by
  by_cases Y:i=4
  ·obtain⟨J,L,M⟩:=mV (b::bs) i s s' () h;refine⟨J,?_⟩;rw[L,M,z];rfl
  ·have h:(match lineOn i s b with|.error k=>Except.error (k,i)|.ok t=>linesOn (i+1) t bs)=.ok s':=h;cases e:lineOn i s b with
   |error k=>rw[e] at h;cases h
   |ok t=>
    rw[e] at h;unfold lineOn at e;rw[if_neg ()] at e;obtain⟨x,I⟩:∃x,HEADS[i-1]?=some x:=⟨_,PQ (show i-1<HEADS.length by show i-1<3;lia)⟩;rw[I] at e;dsimp only at e;cases F:headIn x.1 b with
    |none=>rw[F] at e;cases e
    |some n=>
     rw[F] at e;dsimp only at e;split at e
     ·cases e
     ·cases e;obtain⟨i1,O⟩:=tF bs (i+1) ⟨s.name,s.heads++[n],s.products⟩ s' () () (by simp;lia) z h;refine⟨i1,?_⟩;rw[O];show fV 0 (s.heads++[n])++_=_;rw[tE,RE,hl,I];have:lineText [x.1,decimal n]=b++[LF]:=by rw[<-Ck F,pQ]
      show(fV 0 s.heads++lineText [x.1,decimal n])++_=_;rw[this,PV,Oz]
theorem vP{t:Bytes}{T:Tariff}(h:readTariff t=.ok T):T.text=t:=by
 have R:=wN t
 have S:(dy (aJ 10 (sg t))).1=0:=Classical.byContradiction fun q=>by
  rw[R.1 q] at h;cases h
 obtain⟨T',h',z,_,_,_,_,_,_,_,hb⟩:=R.2 S;unfold readTariff at h;cases e:linesOn 0 ⟨[],[],[]⟩ (lines t) with
 |error f=>rw[e] at h;cases h
 |ok s=>
  rw[e] at h;dsimp only at h;split at h
  ·cases h
  ·split at h
   ·cases h
   ·cases h;have I:=Ci t hb;have P:=tD (lines t) 0 ⟨[],[],[]⟩ () rfl fun _=>rfl
    have Y:s.heads.length=3:=by
     generalize bN 0 [] ((lines t).map sg)=q at P
     match q,P with
     |(some f,_),P=>
      have P:linesOn 0 ⟨[],[],[]⟩ (lines t)=.error f:=P;rw[P] at e;cases e
     |(none,names),P=>
      obtain⟨s2,Z,L⟩:=(P:∃s',linesOn 0 ⟨[],[],[]⟩ (lines t)=.ok s'/\HV 0 ⟨[],[],[]⟩ s' (lines t) names);rw[Z] at e;cases e;have:=L.heads;rw[if_pos rfl] at this;rw[this];simp;lia
    obtain⟨n1,n2,n3,O⟩:∃a b c,s.heads=[a,b,c]:=by
     match s.heads,Y with
     |[a,b,c],_=>exact⟨a,b,c,rfl⟩
    cases hl:lines t with
    |nil=>rw[hl] at z;simp at z
    |cons b bs=>
     rw[hl] at e I;have e:(match lineOn 0 ⟨[],[],[]⟩ b with|.error k=>Except.error (k,0)|.ok t=>linesOn 1 t bs)=.ok s:=e;cases F:lineOn 0 ⟨[],[],[]⟩ b with
     |error k=>rw[F] at e;cases e
     |ok u=>
      rw[F] at e;unfold lineOn at F;rw[if_pos rfl] at F;cases en:nameIn b with
      |none=>rw[en] at F;cases F
      |some n=>
       rw[en] at F;cases F;obtain⟨M,J⟩:=tF bs 1 ⟨n,[],[]⟩ s () () rfl rfl e;have M:s.name=n:=M;unfold Tariff.text;dsimp only;rw[O,M];rw[O] at J;have J:(lineText [ascii "free",decimal n1]++(lineText [ascii "grace",decimal n2]++(lineText [ascii "lost",decimal n3]++[])))++gg s.products=[]++bs.flatMap fun b=>b++[LF]:=J;have q3:lineText [ascii "tariff",n]=b++[LF]:=by rw[<-Cj en,pQ]
       rw[q3,<-I,PV];congr 1;rw[Pd] at J;rw[<-J];show lineText _++(lineText _++(lineText _++gg s.products))=_;simp only[Oz,OC,Pd];rfl
end FM
namespace FM
open FrTariff FrCover GarText
theorem oH:∀{b:Bytes},gu (sg b)=true->sg b=b.map UInt8.toNat
 |[],_=>rfl
 |c::b,h=>by
  unfold gu sg at h;rw[Oo,Qc,NW] at h
  have h1:small c.toNat=true\/dE c.toNat=true:=by
   have:=h.1;rw[Pa,lD,lE] at this;exact this
  show bM c.toNat::sg b=c.toNat::b.map UInt8.toNat;rw[yn h1,oH (b:=b) (by unfold gu sg;exact h.2)]
theorem FC{b:Bytes}(h:gp (sg b)=true):(b.map fun c=>decide (c=49)).map (fun d=>if d=true then 49 else 48)=sg b:=by
 have e:=pO b;rw[if_pos h] at e;have z:=vO e;have F:sg b=((b.map fun c=>decide (c=49)).map sign).map (fun c=>bM c.toNat):=by rw[z];rfl
 rw[F];generalize (b.map fun c=>decide (c=49))=ds;rw[On];apply Om;intro d _;cases d<;>rfl
theorem oI{r:W}(h:dq r=true):r=[]\/r=[cd "first"]\/(∃x,r=[cd "card",x]/\dS x=true)\/∃x,r=[cd "first",cd "card",x]/\dS x=true:=by
 unfold dq at h;by_cases z:r.take 1=[cd "first"]
 ·have h2:(decide (r.drop 1=[])||(decide ((r.drop 1).length=2)&&decide ((r.drop 1).getD 0 []=cd "card")&&dS ((r.drop 1).getD 1 [])))=true:=by
   have:(if r.take 1=[cd "first"] then r.drop 1 else r)=r.drop 1:=if_pos z;simpa only[this] using h
  cases r with
  |nil=>cases z
  |cons a r=>
   have ha:a=cd "first":=by simpa using z
   subst ha;rw[Pa] at h2;rcases h2 with h2|h2
   ·have:r=[]:=by simpa using h2
    subst this;exact .inr (.inl rfl)
   ·simp only[UX,RJ,NW,decide_eq_true_eq] at h2;obtain⟨⟨F,I⟩,J⟩:=h2
    match r,F with
    |[x,y],_=>
     have:x=cd "card":=I;subst this;exact .inr (.inr (.inr ⟨y,rfl,J⟩))
 ·have h2:(decide (r=[])||(decide (r.length=2)&&decide (r.getD 0 []=cd "card")&&dS (r.getD 1 [])))=true:=by
   have:(if r.take 1=[cd "first"] then r.drop 1 else r)=r:=if_neg z;simpa only[this] using h
  rw[Pa] at h2;rcases h2 with h2|h2
  ·exact .inl (by simpa using h2)
  ·simp only[NW,decide_eq_true_eq] at h2;obtain⟨⟨F,I⟩,J⟩:=h2
   match r,F with
   |[x,y],_=>
    have:x=cd "card":=I;subst this;exact .inr (.inr (.inl ⟨y,rfl,J⟩))
theorem lJ{l:List Nat}(h:dS l=true):gu l=true/\l≠[]:=by
 unfold dS at h;rw[NW] at h;refine⟨h.2,fun q=>?_⟩;subst q;simp at h
theorem kD:∀(ls:W)(i:Nat)(nm z:W),bN i nm ls=(none,z)->∀(j:Nat)(l:List Nat),i+j<4->ls[j]?=some l->aL (i+j) (aJ 32 l)=0
 |[],i,nm,z,_,j,l,_,h=>by simp at h
 |x::ls,i,nm,z,e,j,l,I,h=>by
  have e':bN i nm (x::ls)=if (if i<4 then aL i (aJ 32 x) else bb (aJ 32 x) nm)=0 then bN (i+1) (if i<4 then nm else nm++[(aJ 32 x).getD 1 []]) ls else(some ((if i<4 then aL i (aJ 32 x) else bb (aJ 32 x) nm),i),nm):=rfl
  rw[e'] at e;by_cases F:(if i<4 then aL i (aJ 32 x) else bb (aJ 32 x) nm)=0
  ·rw[if_pos F] at e;cases j with
   |zero=>
    cases h;rw[if_pos ()] at F;exact F
   |succ j=>
    have:=kD ls (i+1) _ z e j l () h;rw[show i+1+j=i+(j+1) by lia] at this;exact this
  ·rw[if_neg F] at e;cases e
theorem lK:∀(ls:W)(i:Nat)(nm:W)(f:Nat×Nat)(z:W),bN i nm ls=(some f,z)->f.1≠0
 |[],i,nm,f,z,e=>by cases e
 |x::ls,i,nm,f,z,e=>by
  have e':bN i nm (x::ls)=if (if i<4 then aL i (aJ 32 x) else bb (aJ 32 x) nm)=0 then bN (i+1) (if i<4 then nm else nm++[(aJ 32 x).getD 1 []]) ls else(some ((if i<4 then aL i (aJ 32 x) else bb (aJ 32 x) nm),i),nm):=rfl
  rw[e'] at e;by_cases F:(if i<4 then aL i (aJ 32 x) else bb (aJ 32 x) nm)=0
  ·rw[if_pos F] at e;exact lK ls _ _ f z e
  ·rw[if_neg F] at e;cases e;exact F
theorem vQ{t:Bytes}(h:(dy (aJ 10 (sg t))).1=0)(j:Nat)(h1:1<=j)(J:j<4)(hl:j<(lines t).length):((words ((lines t).getD j [])).map sg).length=2/\aY (((words ((lines t).getD j [])).map sg).getD 1 [])=true/\valN (((words ((lines t).getD j [])).map sg).getD 1 [])<=gK j:=by
 unfold dy at h;rw[eZ] at h
 have z:∃nm,bN 0 [] ((lines t).map sg)=(none,nm):=by
  cases e:bN 0 [] ((lines t).map sg) with
  |mk a nm=>
   cases a with
   |none=>exact⟨nm,rfl⟩
   |some f=>
    rw[e] at h;exact absurd h (lK _ _ _ _ _ e)
 obtain⟨nm,e⟩:=z
 have hg:((lines t).map sg)[j]?=some (sg ((lines t).getD j [])):=by
  rw[NZ];simp[Q7,hl]
 have:=kD _ _ _ _ e j _ () hg;rw[RE,iP] at this;unfold aL at this;split at this
 ·lia
 ·rename_i I;rw[if_neg ()] at this;split at this
  ·rename_i z;split at this
   ·rename_i hb;have F:((words ((lines t).getD j [])).map sg).length=2:=Classical.byContradiction fun q=>I (.inl q);exact⟨F,z,hb⟩
   ·lia
  ·lia
end FM
namespace FM
open FrTariff FrCover GarText
theorem wP(f:Nat->Nat)(n:Nat):((N0 n).map f).zipIdx=(N0 n).map fun i=>(f i,i):=by
 apply RF;intro i;rw[Su,NZ,NZ];by_cases h:i<n
 ·rw[Qa h];simp
 ·rw[Qn (by simp;lia)];rfl
theorem mW(f:Nat->Nat)(a:Nat):∀l:List Nat,((l.map fun i=>(f i,i)).filter fun x=>x.1 != 0).map (fun x=>[a+x.2,x.1])=l.filterMap fun i=>if f i=0 then none else some [a+i,f i]
 |[]=>rfl
 |i::l=>by
  have z:=mW f a l;rw[Oo,Qh,Ql];by_cases h:f i=0
  ·rw[if_pos h,if_neg (by simp[h])];exact z
  ·rw[if_neg h,if_pos (by simp[h]),Oo,z]
theorem zT{T:Tariff}{w:Who}{a n:Nat}(ok:za T)(hd:∀p∈T.products,p.days.length=7)(z:w.cls<=4):
  (((weights T w a (a+n)).zipIdx.filter fun(x:Nat×Nat)=>x.1 != 0).map fun x=>[a+x.2,x.1])=(N0 n).filterMap fun i=>if bK T w a n i-bK T w a n (i+1)=0 then none else some [a+i,bK T w a n i-bK T w a n (i+1)]:=by
 rw[zI ok hd z (),show a+n-a=n by lia,wP,mW]
theorem yz{T:Tariff}{w:Who}{a n:Nat}(ok:za T)(hd:∀p∈T.products,p.days.length=7)(z:w.cls<=4):(covered T w a (a+n)).getD 0=bK T w a n 0:=by
 rw[oB ok hd z (),show a+n-a=n by lia];rfl
theorem Cn{T:Tariff}{w:Who}{a:Nat}{l:List Nat}(hb:∀p∈T.products,p.bounded=true):
  unfair T w a l=T.products.zipIdx.findSome? fun p=>((((spans w a (a+l.length) p.1).flatMap (fun x=>kC x.1 x.2)).find? (oE l a p.1)).map fun m=>(p.2,m)):=by
 unfold unfair;dsimp only;refine iO fun x z=>?_;have h:=bZ (hb x.1 (Pw z));exact zK h.2.1 h.2.2.2.1
theorem jE(bs:Bytes):∀n∈bs.map UInt8.toNat,n<256:=fun n z=>by
 obtain⟨c,_,rfl⟩:=Oq.mp z;exact c.toNat_lt
end FM
namespace FL
open PyFlat
inductive bL:Nat->List Nat->List (List Nat)->OY->Prop
 |tariff (tb:List UInt8) (cs:List Nat) (h1:tb.length<=5000) (h2:cs.length<=1500):bL 1 [] [tb.map UInt8.toNat,cs] (.tariff tb cs)
 |print:bL 2 [] [] .print
 |clock (t:Nat):bL 3 [t] [] (.clock t)
 |price (a b c:Nat) (bs:List UInt8) (h:bs.length<=40):bL 4 [a,b,c] [bs.map UInt8.toNat] (.price a b c bs)
 |row (a b c:Nat) (bs:List UInt8) (h:bs.length<=40):bL 5 [a,b,c] [bs.map UInt8.toNat] (.row a b c bs)
 |proof (a b c:Nat) (bs:List UInt8) (h:bs.length<=40):bL 6 [a,b,c] [bs.map UInt8.toNat] (.proof a b c bs)
 |fair (a c:Nat) (bs:List UInt8) (l:List Nat) (h:bs.length<=40) (h2:l.length<=1500):bL 7 [a,c] [bs.map UInt8.toNat,l] (.fair a c bs l)
 |season (f l:Nat) (bs:List UInt8) (h:bs.length<=40):bL 8 [f,l] [bs.map UInt8.toNat] (.season f l bs)
 |enter (c k:Nat):bL 9 [c,k] [] (.enter c k)
 |voucher (k d n:Nat):bL 10 [k,d,n] [] (.voucher k d n)
 |owes (k:Nat):bL 11 [k] [] (.owes k)
 |best (k:Nat):bL 12 [k] [] (.best k)
 |arrange (k:Nat):bL 13 [k] [] (.arrange k)
 |pay (k:Nat) (cs:List Nat) (h:cs.length<=1500):bL 14 [k] [cs] (.pay k cs)
 |lost (k:Nat):bL 15 [k] [] (.lost k)
 |leave (k:Nat):bL 16 [k] [] (.leave k)
 |ticket (k:Nat):bL 17 [k] [] (.ticket k)
 |coins:bL 18 [] [] .coins
 |takings (a b:Nat):bL 19 [a,b] [] (.takings a b)
 |stays:bL 20 [] [] .stays
 |change (x:Nat):bL 21 [x] [] (.change x)
def Pos(l:List Int):Prop:=∀z∈l,0<=z
theorem vR{l:List Int}(h:Pos l):(OP l).map OW=l:=by
 unfold OP;rw[On];refine(Om fun z F=>?_).trans (VG l);have:=h z F;exact Int.toNat_of_nonneg this
theorem iB{l:List Int}(h:∀z∈l,0<=z/\z<=255):(OI l).map UInt8.toNat=OP l:=by
 unfold OI OP;rw[On];refine Om fun z F=>?_;have:=h z F;show(UInt8.ofNat z.toNat).toNat=z.toNat;rw[UInt8.toNat_ofNat'];lia
theorem jF(l:List Int):(OI l).length=l.length:=NV ..
theorem jG(l:List Int):(OP l).length=l.length:=NV ..
theorem aZ{lo hi z:Int}(h:N8 lo hi z=true):lo<=z/\z<=hi:=by
 unfold N8 at h;rw[NW,decide_eq_true_eq,decide_eq_true_eq] at h;exact h
theorem fP{lo hi:Int}{l:List Int}(h:l.all (N8 lo hi)=true):∀z∈l,lo<=z/\z<=hi:=fun z F=>aZ (OM.mp h z F)
theorem kI{α:Type}{l:List α}(h:0=l.length):l=[]:=Tq.mp h.symm
theorem c_{α:Type}{l:List α}(h:1=l.length):∃a,l=[a]:=length_eq_one_iff.mp h.symm
theorem gJ{α:Type}{l:List α}(h:2=l.length):∃a b,l=[a,b]:=match l,h with
 |[a,b],_=>⟨a,b,rfl⟩
theorem uF{α:Type}{l:List α}(h:3=l.length):∃a b c,l=[a,b,c]:=match l,h with
 |[a,b,c],_=>⟨a,b,c,rfl⟩
structure Parsed (c:List (List Int)):Prop where
 wh:RS c=c
 ex:∃(n:Nat)(a:List Int)(xs:List (List Int))(fc:OY),c=((n:Int)::a)::xs/\Pos a/\(∀x∈xs,Pos x)/\bL n (OP a) (xs.map OP) fc/\VH c=some fc
theorem sx{J:List Int}{m:Nat}{hi:Int}{b:Bool}(h:(decide (0<=J.length)&&decide (J.length<=m)&&J.all (N8 0 hi)&&b)=true):J.length<=m/\(∀z∈J,0<=z/\z<=hi)/\b=true:=by
 simp only[NW,decide_eq_true_eq] at h;exact⟨h.1.1.2,fP h.1.2,h.2⟩
theorem ny{a:Int}{b:Bool}(h:(N8 0 4294967295 a&&b)=true):(0<=a/\a<=4294967295)/\b=true:=by
 rw[NW] at h;exact⟨aZ h.1,h.2⟩
theorem pn:Pos []:=fun z I=>by cases I
theorem po{a:Int}{l:List Int}(h:0<=a)(k:Pos l):Pos (a::l):=fun z I=>by
 cases I with
 |head=>exact h
 |tail _ I=>exact k z I
theorem HX{c:List (List Int)}(ok:okCall SN c)(b:PyInside.call SO c=true):Parsed c:=by
 obtain⟨p,a,xs,rfl,hs⟩:=ok;have b:(PyInside.each (SO p).1 a&&PyInside.lists (SO p).2 xs)=true:=b;rw[NW] at b;obtain⟨F,Y⟩:=b
 have cs:p=1\/p=2\/p=3\/p=4\/p=5\/p=6\/p=7\/p=8\/p=9\/p=10\/p=11\/p=12\/p=13\/p=14\/p=15\/p=16\/p=17\/p=18\/p=19\/p=20\/p=21:=by
  refine Classical.byContradiction fun n=>?_;simp only[not_or] at n;obtain⟨h1,h2,h3,h4,h5,h6,h7,h8,h9,al,an,ar,as,av,b3,b4,b5,b6,bd,bk,bo⟩:=n;rw[SN,if_neg h1,if_neg h2,if_neg h3,if_neg h4,if_neg h5,if_neg h6,if_neg h7,if_neg h8,if_neg h9,if_neg al,if_neg an,if_neg ar,if_neg as,if_neg av,if_neg b3,if_neg b4,if_neg b5,if_neg b6,if_neg bd,if_neg bk,if_neg bo] at hs;cases hs
 rcases cs with rfl|rfl|rfl|rfl|rfl|rfl|rfl|rfl|rfl|rfl|rfl|rfl|rfl|rfl|rfl|rfl|rfl|rfl|rfl|rfl|rfl
 ·have hs:some (0,2)=some (a.length,xs.length):=hs;obtain⟨O,S⟩:=Prod.mk.inj (N6.inj hs);obtain rfl:=kI O;obtain⟨J,x1,rfl⟩:=gJ S;obtain⟨l0,Z,Y⟩:=sx (J:=J) (m:=5000) (hi:=255) Y;obtain⟨l1,v1,_⟩:=sx (J:=x1) (m:=1500) (hi:=4294967295) (b:=true) Y
  refine⟨rfl,1,[],[J,x1],.tariff (OI J) (OP x1),rfl,pn,(fun x L=>by
   simp only[Og,Oy,or_false] at L;rcases L with rfl|rfl
   ·exact fun z I=>(Z z I).1
   ·exact fun z I=>(v1 z I).1),?_,rfl⟩
  have M:=bL.tariff (OI J) (OP x1) (by rw[jF];lia) (by rw[jG];lia);rw[iB Z] at M;exact M
 ·have hs:some (0,0)=some (a.length,xs.length):=hs;obtain⟨O,S⟩:=Prod.mk.inj (N6.inj hs);obtain rfl:=kI O;obtain rfl:=kI S;refine⟨rfl,2,[],[],.print,rfl,pn,(fun x L=>by cases L),?_,rfl⟩;have M:=bL.print;exact M
 ·have hs:some (1,0)=some (a.length,xs.length):=hs;obtain⟨O,S⟩:=Prod.mk.inj (N6.inj hs);obtain⟨a0,rfl⟩:=c_ O;obtain rfl:=kI S;obtain⟨w0,F⟩:=ny (a:=a0) F;refine⟨rfl,3,[a0],[],.clock a0.toNat,rfl,(po w0.1 pn),(fun x L=>by cases L),?_,rfl⟩;have M:=bL.clock a0.toNat;exact M
 ·have hs:some (3,1)=some (a.length,xs.length):=hs;obtain⟨O,S⟩:=Prod.mk.inj (N6.inj hs);obtain⟨a0,a1,a2,rfl⟩:=uF O;obtain⟨J,rfl⟩:=c_ S;obtain⟨w0,F⟩:=ny (a:=a0) F;obtain⟨w1,F⟩:=ny (a:=a1) F;obtain⟨w2,F⟩:=ny (a:=a2) F;obtain⟨l0,Z,_⟩:=sx (J:=J) (m:=40) (hi:=255) (b:=true) Y
  refine⟨rfl,4,[a0,a1,a2],[J],.price a0.toNat a1.toNat a2.toNat (OI J),rfl,(po w0.1 (po w1.1 (po w2.1 pn))),(fun x L=>by
   simp only[Og,Oy,or_false] at L;rcases L with rfl
   ·exact fun z I=>(Z z I).1),?_,rfl⟩
  have M:=bL.price a0.toNat a1.toNat a2.toNat (OI J) (by rw[jF];lia);rw[iB Z] at M;exact M
 ·have hs:some (3,1)=some (a.length,xs.length):=hs;obtain⟨O,S⟩:=Prod.mk.inj (N6.inj hs);obtain⟨a0,a1,a2,rfl⟩:=uF O;obtain⟨J,rfl⟩:=c_ S;obtain⟨w0,F⟩:=ny (a:=a0) F;obtain⟨w1,F⟩:=ny (a:=a1) F;obtain⟨w2,F⟩:=ny (a:=a2) F;obtain⟨l0,Z,_⟩:=sx (J:=J) (m:=40) (hi:=255) (b:=true) Y
  refine⟨rfl,5,[a0,a1,a2],[J],.row a0.toNat a1.toNat a2.toNat (OI J),rfl,(po w0.1 (po w1.1 (po w2.1 pn))),(fun x L=>by
   simp only[Og,Oy,or_false] at L;rcases L with rfl
   ·exact fun z I=>(Z z I).1),?_,rfl⟩
  have M:=bL.row a0.toNat a1.toNat a2.toNat (OI J) (by rw[jF];lia);rw[iB Z] at M;exact M
 ·have hs:some (3,1)=some (a.length,xs.length):=hs;obtain⟨O,S⟩:=Prod.mk.inj (N6.inj hs);obtain⟨a0,a1,a2,rfl⟩:=uF O;obtain⟨J,rfl⟩:=c_ S;obtain⟨w0,F⟩:=ny (a:=a0) F;obtain⟨w1,F⟩:=ny (a:=a1) F;obtain⟨w2,F⟩:=ny (a:=a2) F;obtain⟨l0,Z,_⟩:=sx (J:=J) (m:=40) (hi:=255) (b:=true) Y
  refine⟨rfl,6,[a0,a1,a2],[J],.proof a0.toNat a1.toNat a2.toNat (OI J),rfl,(po w0.1 (po w1.1 (po w2.1 pn))),(fun x L=>by
   simp only[Og,Oy,or_false] at L;rcases L with rfl
   ·exact fun z I=>(Z z I).1),?_,rfl⟩
  have M:=bL.proof a0.toNat a1.toNat a2.toNat (OI J) (by rw[jF];lia);rw[iB Z] at M;exact M
 ·have hs:some (2,2)=some (a.length,xs.length):=hs;obtain⟨O,S⟩:=Prod.mk.inj (N6.inj hs);obtain⟨a0,a1,rfl⟩:=gJ O;obtain⟨J,x1,rfl⟩:=gJ S;obtain⟨w0,F⟩:=ny (a:=a0) F;obtain⟨w1,F⟩:=ny (a:=a1) F;obtain⟨l0,Z,Y⟩:=sx (J:=J) (m:=40) (hi:=255) Y;obtain⟨l1,v1,_⟩:=sx (J:=x1) (m:=1500) (hi:=4294967295) (b:=true) Y
  refine⟨rfl,7,[a0,a1],[J,x1],.fair a0.toNat a1.toNat (OI J) (OP x1),rfl,(po w0.1 (po w1.1 pn)),(fun x L=>by
   simp only[Og,Oy,or_false] at L;rcases L with rfl|rfl
   ·exact fun z I=>(Z z I).1
   ·exact fun z I=>(v1 z I).1),?_,rfl⟩
  have M:=bL.fair a0.toNat a1.toNat (OI J) (OP x1) (by rw[jF];lia) (by rw[jG];lia);rw[iB Z] at M;exact M
 ·have hs:some (2,1)=some (a.length,xs.length):=hs;obtain⟨O,S⟩:=Prod.mk.inj (N6.inj hs);obtain⟨a0,a1,rfl⟩:=gJ O;obtain⟨J,rfl⟩:=c_ S;obtain⟨w0,F⟩:=ny (a:=a0) F;obtain⟨w1,F⟩:=ny (a:=a1) F;obtain⟨l0,Z,_⟩:=sx (J:=J) (m:=40) (hi:=255) (b:=true) Y
  refine⟨rfl,8,[a0,a1],[J],.season a0.toNat a1.toNat (OI J),rfl,(po w0.1 (po w1.1 pn)),(fun x L=>by
   simp only[Og,Oy,or_false] at L;rcases L with rfl
   ·exact fun z I=>(Z z I).1),?_,rfl⟩
  have M:=bL.season a0.toNat a1.toNat (OI J) (by rw[jF];lia);rw[iB Z] at M;exact M
 ·have hs:some (2,0)=some (a.length,xs.length):=hs;obtain⟨O,S⟩:=Prod.mk.inj (N6.inj hs);obtain⟨a0,a1,rfl⟩:=gJ O;obtain rfl:=kI S;obtain⟨w0,F⟩:=ny (a:=a0) F;obtain⟨w1,F⟩:=ny (a:=a1) F;refine⟨rfl,9,[a0,a1],[],.enter a0.toNat a1.toNat,rfl,(po w0.1 (po w1.1 pn)),(fun x L=>by cases L),?_,rfl⟩;have M:=bL.enter a0.toNat a1.toNat;exact M
 ·have hs:some (3,0)=some (a.length,xs.length):=hs;obtain⟨O,S⟩:=Prod.mk.inj (N6.inj hs);obtain⟨a0,a1,a2,rfl⟩:=uF O;obtain rfl:=kI S;obtain⟨w0,F⟩:=ny (a:=a0) F;obtain⟨w1,F⟩:=ny (a:=a1) F;obtain⟨w2,F⟩:=ny (a:=a2) F;refine⟨rfl,10,[a0,a1,a2],[],.voucher a0.toNat a1.toNat a2.toNat,rfl,(po w0.1 (po w1.1 (po w2.1 pn))),(fun x L=>by cases L),?_,rfl⟩;have M:=bL.voucher a0.toNat a1.toNat a2.toNat;exact M
 ·have hs:some (1,0)=some (a.length,xs.length):=hs;obtain⟨O,S⟩:=Prod.mk.inj (N6.inj hs);obtain⟨a0,rfl⟩:=c_ O;obtain rfl:=kI S;obtain⟨w0,F⟩:=ny (a:=a0) F;refine⟨rfl,11,[a0],[],.owes a0.toNat,rfl,(po w0.1 pn),(fun x L=>by cases L),?_,rfl⟩;have M:=bL.owes a0.toNat;exact M
 ·have hs:some (1,0)=some (a.length,xs.length):=hs;obtain⟨O,S⟩:=Prod.mk.inj (N6.inj hs);obtain⟨a0,rfl⟩:=c_ O;obtain rfl:=kI S;obtain⟨w0,F⟩:=ny (a:=a0) F;refine⟨rfl,12,[a0],[],.best a0.toNat,rfl,(po w0.1 pn),(fun x L=>by cases L),?_,rfl⟩;have M:=bL.best a0.toNat;exact M
 ·have hs:some (1,0)=some (a.length,xs.length):=hs;obtain⟨O,S⟩:=Prod.mk.inj (N6.inj hs);obtain⟨a0,rfl⟩:=c_ O;obtain rfl:=kI S;obtain⟨w0,F⟩:=ny (a:=a0) F;refine⟨rfl,13,[a0],[],.arrange a0.toNat,rfl,(po w0.1 pn),(fun x L=>by cases L),?_,rfl⟩;have M:=bL.arrange a0.toNat;exact M
 ·have hs:some (1,1)=some (a.length,xs.length):=hs;obtain⟨O,S⟩:=Prod.mk.inj (N6.inj hs);obtain⟨a0,rfl⟩:=c_ O;obtain⟨J,rfl⟩:=c_ S;obtain⟨w0,F⟩:=ny (a:=a0) F;obtain⟨l0,Z,_⟩:=sx (J:=J) (m:=1500) (hi:=4294967295) (b:=true) Y
  refine⟨rfl,14,[a0],[J],.pay a0.toNat (OP J),rfl,(po w0.1 pn),(fun x L=>by
   simp only[Og,Oy,or_false] at L;rcases L with rfl
   ·exact fun z I=>(Z z I).1),?_,rfl⟩
  have M:=bL.pay a0.toNat (OP J) (by rw[jG];lia);exact M
 ·have hs:some (1,0)=some (a.length,xs.length):=hs;obtain⟨O,S⟩:=Prod.mk.inj (N6.inj hs);obtain⟨a0,rfl⟩:=c_ O;obtain rfl:=kI S;obtain⟨w0,F⟩:=ny (a:=a0) F;refine⟨rfl,15,[a0],[],.lost a0.toNat,rfl,(po w0.1 pn),(fun x L=>by cases L),?_,rfl⟩;have M:=bL.lost a0.toNat;exact M
 ·have hs:some (1,0)=some (a.length,xs.length):=hs;obtain⟨O,S⟩:=Prod.mk.inj (N6.inj hs);obtain⟨a0,rfl⟩:=c_ O;obtain rfl:=kI S;obtain⟨w0,F⟩:=ny (a:=a0) F;refine⟨rfl,16,[a0],[],.leave a0.toNat,rfl,(po w0.1 pn),(fun x L=>by cases L),?_,rfl⟩;have M:=bL.leave a0.toNat;exact M
 ·have hs:some (1,0)=some (a.length,xs.length):=hs;obtain⟨O,S⟩:=Prod.mk.inj (N6.inj hs);obtain⟨a0,rfl⟩:=c_ O;obtain rfl:=kI S;obtain⟨w0,F⟩:=ny (a:=a0) F;refine⟨rfl,17,[a0],[],.ticket a0.toNat,rfl,(po w0.1 pn),(fun x L=>by cases L),?_,rfl⟩;have M:=bL.ticket a0.toNat;exact M
 ·have hs:some (0,0)=some (a.length,xs.length):=hs;obtain⟨O,S⟩:=Prod.mk.inj (N6.inj hs);obtain rfl:=kI O;obtain rfl:=kI S;refine⟨rfl,18,[],[],.coins,rfl,pn,(fun x L=>by cases L),?_,rfl⟩;have M:=bL.coins;exact M
 ·have hs:some (2,0)=some (a.length,xs.length):=hs;obtain⟨O,S⟩:=Prod.mk.inj (N6.inj hs);obtain⟨a0,a1,rfl⟩:=gJ O;obtain rfl:=kI S;obtain⟨w0,F⟩:=ny (a:=a0) F;obtain⟨w1,F⟩:=ny (a:=a1) F;refine⟨rfl,19,[a0,a1],[],.takings a0.toNat a1.toNat,rfl,(po w0.1 (po w1.1 pn)),(fun x L=>by cases L),?_,rfl⟩;have M:=bL.takings a0.toNat a1.toNat;exact M
 ·have hs:some (0,0)=some (a.length,xs.length):=hs;obtain⟨O,S⟩:=Prod.mk.inj (N6.inj hs);obtain rfl:=kI O;obtain rfl:=kI S;refine⟨rfl,20,[],[],.stays,rfl,pn,(fun x L=>by cases L),?_,rfl⟩;have M:=bL.stays;exact M
 ·have hs:some (1,0)=some (a.length,xs.length):=hs;obtain⟨O,S⟩:=Prod.mk.inj (N6.inj hs);obtain⟨a0,rfl⟩:=c_ O;obtain rfl:=kI S;obtain⟨w0,F⟩:=ny (a:=a0) F;refine⟨rfl,21,[a0],[],.change a0.toNat,rfl,(po w0.1 pn),(fun x L=>by cases L),?_,rfl⟩;have M:=bL.change a0.toNat;exact M
def after:OS->List (List (List Int))->OS
 |s,[]=>s
 |s,c::r=>after (Ot s c).1 r
theorem tG:∀(l:List (List (List Int)))(s:OS)(c:List (List Int)),after s (l++[c])=(Ot (after s l) c).1
 |[],_,_=>rfl
 |d::l,s,c=>tG l (Ot s d).1 c
theorem qD:∀(l:List (List (List Int)))(s:OS)(c:List (List Int)),played Ot s (l++[c])=played Ot s l++[(Ot (after s l) c).2]
 |[],_,_=>rfl
 |d::l,s,c=>by
  show(Ot s d).2::played Ot (Ot s d).1 (l++[c])=_;rw[qD l];rfl
def so(l:List (List (List Int))):List Int:=told (played Ot O5 l)
theorem FD(l:List (List (List Int)))(c:List (List Int)):so (l++[c])=so l++((Ot (after O5 l) c).2.length:Int)::(Ot (after O5 l) c).2:=by
 unfold so told;rw[qD,QH];simp
theorem tH:∀(l m:List (List (List Int)))(s:OS),played Ot s (l++m)=played Ot s l++played Ot (after s l) m
 |[],_,_=>rfl
 |d::l,m,s=>by
  show(Ot s d).2::played Ot (Ot s d).1 (l++m)=_;rw[tH l];rfl
theorem Jo(l m:List (List (List Int))):(so l).length<=(so (l++m)).length:=by
 unfold so told;rw[tH,QH,Of];lia
theorem wQ:∀(a b:List (List (List Int))),put (a++b)=put a++put b
 |[],_=>rfl
 |c::a,b=>by
  show put1 c++put (a++b)=(put1 c++put a)++put b;rw[wQ a,Oz]
theorem yA{l:List Int}(h:Sq l=true):∃F,l=put F/\(∀c∈F,Parsed c)/\F.length<=60/\Rp l=so F/\(so F).length<=10000000:=by
 unfold Sq at h;cases e:PyFlat.calls SN l.length l with
 |none=>rw[e] at h;cases h
 |some z=>
  rw[e] at h;simp only[NW] at h;obtain⟨⟨⟨⟨_,h2⟩,M⟩,_⟩,O⟩:=h;have I:=put_calls _ _ _ e
  have J:Rp l=so z:=by
   unfold Rp PyWqgarh.calls;rw[e];show told (played Ot O5 (z.map RS))=so z;rw[show z.map RS=z from(Om fun c L=>(HX (I.2 c L) (OM.mp M c L)).wh).trans (VG z)];rfl
  refine⟨z,I.1,fun c L=>HX (I.2 c L) (OM.mp M c L),of_decide_eq_true h2,J,?_⟩;rw[<-J];exact of_decide_eq_true O
end FL
end
namespace Fare
open PySem PySem.Spec PyProof.Rows L2 FrTariff FrCover FrTicket FrCoins FareSpec GarText FareNeutral PyFlat PyInside PyWqgarh
local macro_rules|`(tactic|fail $s:str)=>do
 let f:=fun(x:Array (Lean.TSyntax `tactic))=>`(tactic|first $[|$x:tactic]*)
 let [_,t]:=s.getString.splitOn "~"|Lean.Macro.throwUnsupported
 f (← (t.splitOn "|").toArray.mapM fun p=>do
  let y ←(p.splitOn ";").toArray.mapM fun q=>do
   let c::l:=q.splitOn " "|Lean.Macro.throwUnsupported
   let x:=(l.map fun n=>Lean.mkIdent (if n.contains '.' then n else "L2."++n).toName).toArray
   let w:=Lean.Syntax.mkStrLit (l.headD "")
   match c with
   |"#"=>`(tactic|simp only[$[$x:ident],*])
   |"*"=>`(tactic|simp only[$[$x:ident],*, *])
   |"s"=>`(tactic|walk_at $w)
   |"r"=>`(tactic|repeat walk_at $w)
   |"="=>`(tactic|assumption)
   |"m"=>`(tactic|repeat (first|exact .head _|refine .tail _ ?_))
   |_=>
    let a ←c.toList.toArray.mapM fun k=>match k with|'a'=>`(by assumption)|'t'=>`(by walk_at "at")|'d'=>`(by decide)|'_'=>`(_)|_=>`(?_)
    f (← x.mapM fun n=>`(tactic|with_reducible refine $n $a*))
  y[1:].foldlM (fun a b=>`(tactic|($a;$b))) y[0]!)
inductive fK(P:N3)(w:Oh)(K:PySem.W.Frag)(mg:N_->Option NU)(base:Heap)(k:Nat)(x:N_)(ps:List N_)(sp:Sp):Prop|mk(f fd:_)(_:mg x=some (.ref f))(_:PySem.W.keepIn K (.ref f)=true)(_:Binds K fd ps [])(_:jO P w K mg base CZ k f fd ps sp)
section
variable{P:N3}{w:Oh}{K:PySem.W.Frag}{mg:N_->Option NU}{base:Heap}{X:Cx}
theorem aE{x:N_}{n:Int}{pos:Q2}(h:di X.mg x n)(hg:Gl X x:=by rfl)(hd:(x==("__debug__":N_))=false:=by decide):PE X (.Name x pos) (tC (.int n)):=by
 obtain⟨t,h⟩:=h;exact rM hg h ⟨t,rfl⟩ hd
theorem DH{x:N_}{n:N_}{pos:Q2}(h:AY X.mg x n)(hg:Gl X x:=by rfl)(hd:(x==("__debug__":N_))=false:=by decide):PE X (.Name x pos) (tC (.str n)):=by
 obtain⟨t,h⟩:=h;exact rM hg h ⟨t,rfl⟩ hd
end
theorem AZ(i j:Int):Dc (.int i) (.int j)=true:=rfl
theorem A0(i j:N_):Dc (.str i) (.str j)=true:=rfl
theorem A1(i j:Bool):Dc (.bl i) (.bl j)=true:=rfl
theorem lZ(i j:Int):decide (V.int i=V.int j)=decide (i=j):=by
 by_cases h:i=j
 ·rw[h];simp
 ·rw[decide_eq_false h,decide_eq_false (fun e=>h (V.int.inj e))]
theorem l_(i j:N_):decide (V.str i=V.str j)=decide (i=j):=by
 by_cases h:i=j
 ·rw[h];simp
 ·rw[decide_eq_false h,decide_eq_false (fun e=>h (V.str.inj e))]
theorem HH{α:Type}(a b:α)(l:List α):(a::l).set 0 b=b::l:=rfl
theorem DI{α:Type}(a b:α)(n:Nat)(l:List α):(a::l).set (n+1) b=a::l.set n b:=rfl
theorem bU:Pp "len"=some (.builtin "len"):=by decide+kernel
theorem gY:Pp "min"=some (.builtin "min"):=by decide+kernel
theorem sJ:Pp "max"=some (.builtin "max"):=by decide+kernel
theorem wA:Pp "sum"=some (.builtin "sum"):=by decide+kernel
theorem zC:Pp "any"=some (.builtin "any"):=by decide+kernel
theorem HI:Pp "all"=some (.builtin "all"):=by decide+kernel
def DJ(K:PySem.W.Frag)(xs:List V):TE:=fun _ H Q=>∀a,(∀H',gI K H' a xs)->Q (.ref a) H
theorem gZ{X:Cx}{x:N_}{xs:List V}{pos:Q2}(h:Vm X.K X.mg x xs)(hg:Gl X x:=by rfl)(hd:(x==("__debug__":N_))=false:=by decide):PE X (.Name x pos) (DJ X.K xs):=by
 obtain⟨a,h,hs⟩:=h;intro pins s σ H Q I z;exact rM (v:=.ref a) hg h rfl hd pins s σ H Q I (z a hs)
theorem DK{M:Vf}{A:OG}{E:NU->NY->Prop}{s:NY}{env:Tk}{v i:OH}{p pos:Q2}{args:List OH}{keywords:List Vp}{Q:NU->NY->Prop}(h:wpAny M A (eval (.Subscript v i p) env) (fun f z=>wpAny M A (Tx pos f [] (backTo pos (starEach args env)) (SD pos (Ru keywords env))) Q E z) E s):
  wpAny M A (eval (.Call (.Subscript v i p) args keywords pos) env) Q E s:=by
 have e:eval (.Call (.Subscript v i p) args keywords pos) env=(do let f <-eval (.Subscript v i p) env;Tx pos f [] (backTo pos (starEach args env)) (SD pos (Ru keywords env))):=by
  first|rfl|(rw[eval];rfl)
 rw[e];exact wpAny_bind h
section
variable{X:Cx}
inductive DLp(X:Cx)(t:TA)(σ:L2.St)(H1:Hp)(Q:VK)(x:V):Prop|mk(f fd ps sp k:_)(_:x=.ref f)(_:jO X.prog X.w X.K X.mg X.base CZ k f fd ps sp)(_:gr k X.A)(_:PySem.W.keepIn X.K (.ref f)=true)(_:Binds X.K fd ps [])(_:t σ H1 fun vs H2=>sp vs H2 Q E0)
def DL(X:Cx)(te:TE)(t:TA):TE:=fun σ H Q=>te σ H fun x H1=>DLp X t σ H1 Q x
theorem yh{v i e:OH}{es:List OH}{p pos:Q2}{te:TE}{t:TA}(he:PE X (.Subscript v i p) te)(ha:PA X (e::es) t)(z:starEach (e::es) X.env=(false,eval e X.env)::starEach es X.env:=by rfl)(J:(backTo pos (starEach es X.env)).any (·.1)=false:=by rfl):PE X (.Call (.Subscript v i p) (e::es) [] pos) (DL X te t):=by
 intro pins s σ H Q I h;refine DK (dQ (he pins s σ H _ I h) fun u M ⟨x,H1,O,S,f,fd,ps,sp,k,ex,F,Y,Z,hb,q⟩=>?_);subst ex;obtain rfl:u=NU.ref f:=S;refine PySem.W.callWith_K (h₀:=X.base) I.ok.mod.kin Z (dQ (ha pos pins M σ H1 _ O q) fun us s2 ⟨vs,H2,L,r,q2⟩=>⟨L.kIn,?_⟩) z J;exact zp (dvs:=[]) (ds:=[]) (E:=E0) F Y hb .nil i6 L r (by rw[OC];exact q2)
inductive Gjp(X:Cx)(x y:V)(H2:Hp)(Q:VK):Prop|mk(a kvs k v:_)(_:x=.ref a)(_:y=kV k)(_:qy X.prog X.w X.K a kvs)(_:dH kvs k=some v)(_:Q v H2)
def Gj(X:Cx)(td ty:TE):TE:=fun σ H Q=>td σ H fun x H1=>ty σ H1 fun y H2=>Gjp X x y H2 Q
theorem wB{o i:OH}{pos:Q2}{td ty:TE}(M:PE X o td)(hi:PE X i ty)(hs:GY i):PE X (.Subscript o i pos) (Gj X td ty):=by
 intro pins s σ H Q I h;refine AN PySem.F.slot_dict_getitem.lookup hs (dQ (M pins s σ H _ I h) fun u O ⟨x,H1,S,Y,Z⟩=>dQ (hi pins O σ H1 _ S Z) fun iv s2 ⟨y,H2,L,ry,a,kvs,k,v,ex,ey,⟨al,vs,z,dd⟩,l,q2⟩=>?_);subst ex ey;obtain rfl:u=NU.ref a:=Y;have d:=dd s2.heap L.kIn;obtain⟨w',hw,J⟩:=kK.some_of (v:=v) (o:=Sl vs k) (by rw[<-l];exact z.val k);exact⟨d.typeIs,Ud (sE ry) d.mapOf hw ⟨v,H2,L.tok _,J,q2⟩⟩
def Gk(K:PySem.W.Frag)(P:N3)(w:Oh)(kvs:List (fu×V)):TE:=fun _ H Q=>∀a,qy P w K a kvs->Q (.ref a) H
theorem rS{x:N_}{kvs:List (fu×V)}{pos:Q2}(h:nj X.prog X.w X.K X.mg x kvs)(hg:Gl X x:=by rfl)(hd:(x==("__debug__":N_))=false:=by decide):PE X (.Name x pos) (Gk X.K X.prog X.w kvs):=by
 obtain⟨a,h,hs⟩:=h;intro pins s σ H Q I z;exact rM (v:=.ref a) hg h rfl hd pins s σ H Q I (z a hs)
def Jg(t:TA):TE:=fun σ H Q=>t σ H fun vs H1=>∃i j:Int,vs=[.int i,.int j]/\(-(2 ^ 62)<=i/\i<2 ^ 62/\-(2 ^ 62)<=j/\j<2 ^ 62)/\∀p,H1 p=none->Q (.ref p) (upd H1 p (.rng i j))
theorem DM{a b:OH}{ta:TA}{p pos:Q2}(hg:Gl X "range")(O:X.mg "range"=none)(ha:PA X [a,b] ta)(hs:starEach [a,b] X.env=[(false,eval a X.env),(false,eval b X.env)]:=by rfl)(z:starEach [b] X.env=[(false,eval b X.env)]:=by rfl):
  PE X (.Call (.Name "range" p) [a,b] [] pos) (Jg ta):=by
 intro pins s σ H Q I h;refine UC (jm I hg O Sg (PyProof.Rows.callWith_type1 (dQ (ha pos pins s σ H _ I h) fun us J ⟨vs,H1,L,S,M⟩=>?_) (by rw[hs,z]) (by rw[z];rfl)));obtain⟨i,j,e,⟨M,Z,q3,q4⟩,q⟩:=M;subst e;cases S with
 |cons r F=>
  cases F with
  |cons r' F=>
   cases F;obtain⟨t,rfl⟩:=r;obtain⟨t',rfl⟩:=r';refine call_range_2 ?_;have Y:H1 J.heap.objs.size=none:=L.hok.fresh (NX _);exact⟨.ref J.heap.objs.size,_,L.laid (fun b u e=>Heap.get?_push_of_some _ e) (NX _) (show eY X.prog X.w _ _ _ (.rng i j) from⟨_,_,_,Heap.get?_push_size _ rfl⟩),rfl,q _ Y⟩
theorem mP(O:X.calm=true):g8 X (.type "list") (fun xs H Q=>∃p lo hi,xs=[.ref p]/\H p=some (.rng lo hi)/\(-(2 ^ 62)<=lo/\lo<2 ^ 62/\-(2 ^ 62)<=hi/\hi<2 ^ 62)/\(hi-lo).toNat<=2 ^ 24/\
  ∀l,H l=none->Q (.ref l) (upd H l (.lst ((N0 (hi-lo).toNat).map fun i=>V.int (lo+(i:Nat)))))):=by
 intro pins s σ H xs us Q I r h;obtain⟨p,lo,hi,rfl,S,⟨Y,Z,q3,q4⟩,M,q⟩:=h;obtain⟨u,rfl,rx⟩:=Vv r;cases rx;obtain⟨t,u,v,e⟩:=I.hok p _ S;have hsz:Ox.Range.rangeSize lo hi 1=((hi-lo).toNat:Nat):=by rw[U5];split<;>lia
 refine call_list_range (I.ok.hd O) (show IsRange s.heap p lo hi 1 t u v from e) (small_one Y Z q3 q4) hsz M fun h' tk z c' kp e2 it=>?_
 have hl:((N0 (hi-lo).toNat).map fun i=>V.int (lo+(i:Nat))).length<=sizeLine:=by
  rw[NV,Re];exact Od M (by decide)
 have hv:bT ((N0 (hi-lo).toNat).map fun i=>V.int (lo+(i:Nat))) z.toList:=by
  obtain⟨z1,z2⟩:=it
  have gen:∀(k:Nat)(us:List NU)(o:Nat),us.length=k->(∀j v,us[j]?=some v->∃t,v=NU.int (lo+((o+j:Nat):Int)) t)->bT ((N0 k).map fun i=>V.int (lo+((o+i:Nat):Int))) us:=by
   intro k
   induction k with
   |zero=>
    intro us o hl J;have:us=[]:=Qk hl;subst this;exact .nil
   |succ k ih=>
    intro us o hl J;cases us with
    |nil=>cases hl
    |cons x us=>
     rw[Qe,Oo,On];refine .cons ?_ ?_
     ·obtain⟨t,F⟩:=J 0 x rfl;exact⟨t,F⟩
     ·have:=ih us (o+1) (by simpa using hl) fun j v L=>by
       obtain⟨t,F⟩:=J (j+1) v L;exact⟨t,by rw[F,show o+(j+1)=o+1+j by lia]⟩
      have e3:((fun i:Nat=>V.int (lo+((o+i:Nat):Int))) ∘ Nat.succ)=fun i:Nat=>V.int (lo+((o+1+i:Nat):Int)):=by
       funext i;show V.int (lo+((o+(i+1):Nat):Int))=_;rw[show o+(i+1)=o+1+i by lia]
      rw[e3];exact this
  have g:=gen (hi-lo).toNat z.toList 0 (by rw[Array.length_toList];exact z1) fun j v L=>by
   obtain⟨t,F⟩:=z2 j v (by rw[<-Array.getElem?_toList];exact L);refine⟨t,?_⟩;rw[F,RE,Vu]
  simpa using g
 exact⟨.ref s.heap.objs.size,_,I.laid (t':=tk) kp (NX _) (show eY X.prog X.w _ h' _ (.lst _) from⟨hl,z.toList,c',hv,by simpa using e2⟩),rfl,q _ (I.hok.fresh (NX _))⟩
end
section
variable{X:Cx}{K:PySem.W.Frag}
theorem Fc{e:OH}{ta:TE}{f:N_}{pos:Q2}(z:X.K=K)(he:PE X e ta)(hb:PD e f X.env (eval e X.env)=eval e X.env):PE X (.Attribute e f pos) (BB K ta f):=z ▸ fJ he hb
theorem lu(z:X.K=K):Iu X (xK K):=z ▸ ay
theorem jc{pos:Q2}{es:List OH}{k:Nat}{t:EF}{n:Nat}(F:X.K=K)(I:X.calm=true)(h:IC X es t)(J:(QY es X.env).length=n:=by rfl)(z:(QY es X.env).findIdx? (·.1)=none:=by rfl):PG X (.Tuple es k pos) (GH K n t):=F ▸ sj I h J z
theorem mQ(z:X.K=K):g8 X (.builtin "len") (fun xs H Q=>∃p ys,xs=[.ref p]/\(aI K H p ys\/gI K H p ys)/\Q (.int ys.length) H):=z ▸ aB
end
def dJ(K:PySem.W.Frag)(f:N_)(x:V)(H1:Hp)(Q:VK):Prop:=∃a C dx fs v,x=.ref a/\H1 a=some (.ins C dx fs)/\rN K C/\aX K C f/\fs.lookup f=some v/\Q v H1
theorem wC(K:PySem.W.Frag)(ta:TE)(f:N_)(σ:L2.St)(H:Hp)(Q:VK):BB K ta f σ H Q=ta σ H (fun x H1=>dJ K f x H1 Q):=rfl
abbrev Fd(fs:List (N_×V))(f:N_)(v:V):Prop:=fs.lookup f=some v
theorem fL{K:PySem.W.Frag}{f:N_}{p C dx:Addr}{fs:List (N_×V)}{v:V}{H:Hp}(h:H p=some (.ins C dx fs))(c:rN K C)(n:aX K C f)(l:Fd fs f v)(Q:VK):dJ K f (.ref p) H Q=Q v H:=by
 apply propext;constructor
 ·rintro⟨a,I,F,fs',J,e,h',_,_,z,q⟩;cases e;rw[h] at h';cases h';rw[l] at z;cases z;exact q
 ·intro q;exact⟨p,C,dx,fs,v,rfl,h,c,n,l,q⟩
theorem aS{CX:BE}{P:N3}{w:Oh}{K:PySem.W.Frag}{mg:N_->Option NU}{base:Heap}{N:List N_}{z:N_}{scope:QA}{f:Addr}{cd:NU}{A:OG}{outer:List Tk}{s:NY}{H:Hp}{E:XK}:(xG CX P w K mg base N z scope f cd A outer s H E).K=K:=rfl
theorem bW{X:Cx}:X.nox.K=X.K:=rfl
def St(l:List Nat):N_:=⟨l.toArray⟩
theorem pG{l m:List Nat}:St l=St m↔l=m:=⟨fun h=>by
 have:l.toArray=m.toArray:=congrArg N_.cps h;simpa using this,fun h=>by rw[h]⟩
theorem nk:N_.ofString ""=St []:=by decide+kernel
theorem gj(l:List Nat):(St l).length=l.length:=by show l.toArray.size=_;simp
structure ah (A:cX) (H:Hp) (p:Addr) (a b cls:Nat) (card:List Nat):Prop where
 ex:∃dx fs,H p=some (.ins A.Stay dx fs)/\Fd fs "begin" (.int a)/\Fd fs "end" (.int b)/\Fd fs "car_class" (.int cls)/\Fd fs "card" (.str (St card))
def vD:Rg->V
 |.mins m=>.int m
 |.till _=>.non
def vE:Rg->V
 |.mins _=>.non
 |.till h=>.int h
def ou(P:N1):List Nat:=P.days.map fun d=>if d=true then 49 else 48
def dC(o:Option OB):List Nat:=match o with
 |none=>[]
 |some c=>c.map UInt8.toNat
structure aa (A:cX) (H:Hp) (p:Addr) (k:Nat) (P:N1):Prop where
 ex:∃dx fs,H p=some (.ins A.Product dx fs)/\Fd fs "number" (.int k)/\Fd fs "cents" (.int P.cents)/\Fd fs "minutes" (vD P.holds)/\Fd fs "till" (vE P.holds)/\Fd fs "weekdays" (.str (St (ou P)))/\
  Fd fs "begins_from" (.int P.from_)/\Fd fs "begins_before" (.int P.to_)/\Fd fs "most_class" (.int P.most)/\Fd fs "first_only" (.bl P.first)/\Fd fs "card" (.str (St (dC P.card)))
section
variable{K:PySem.W.Frag}{mg:N_->Option NU}{A:cX}{H H':Hp}{p:Addr}{a b cls k:Nat}{card:List Nat}{Pr:N1}
theorem ah.keep(h:ah A H p a b cls card)(s:Same H H'):ah A H' p a b cls card:=by
 obtain⟨dx,fs,h1,h2⟩:=h;exact⟨dx,fs,s _ _ h1,h2⟩
theorem aa.keep(h:aa A H p k Pr)(s:Same H H'):aa A H' p k Pr:=by
 obtain⟨dx,fs,h1,h2⟩:=h;exact⟨dx,fs,s _ _ h1,h2⟩
theorem ah.begin_(T:Txt K mg A)(h:ah A H p a b cls card)(Q:VK):dJ K "begin" (.ref p) H Q=Q (.int a) H:=by
 obtain⟨dx,fs,h1,h2,z,F,I⟩:=h;exact fL h1 T.KC T.Lu h2 Q
theorem ah.end_(T:Txt K mg A)(h:ah A H p a b cls card)(Q:VK):dJ K "end" (.ref p) H Q=Q (.int b) H:=by
 obtain⟨dx,fs,h1,h2,z,F,I⟩:=h;exact fL h1 T.KC T.Lv z Q
theorem ah.class_(T:Txt K mg A)(h:ah A H p a b cls card)(Q:VK):dJ K "car_class" (.ref p) H Q=Q (.int cls) H:=by
 obtain⟨dx,fs,h1,h2,F,z,I⟩:=h;exact fL h1 T.KC T.Lw z Q
theorem ah.card_(T:Txt K mg A)(h:ah A H p a b cls card)(Q:VK):dJ K "card" (.ref p) H Q=Q (.str (St card)) H:=by
 obtain⟨dx,fs,h1,h2,F,I,z⟩:=h;exact fL h1 T.KC T.Lx z Q
theorem aa.number_(T:Txt K mg A)(h:aa A H p k Pr)(Q:VK):dJ K "number" (.ref p) H Q=Q (.int k) H:=by
 obtain⟨dx,fs,h1,h2,_⟩:=h;exact fL h1 T.Ku T.LA h2 Q
theorem aa.cents_(T:Txt K mg A)(h:aa A H p k Pr)(Q:VK):dJ K "cents" (.ref p) H Q=Q (.int Pr.cents) H:=by
 obtain⟨dx,fs,h1,_,h2,_⟩:=h;exact fL h1 T.Ku T.LB h2 Q
theorem aa.minutes_(T:Txt K mg A)(h:aa A H p k Pr)(Q:VK):dJ K "minutes" (.ref p) H Q=Q (vD Pr.holds) H:=by
 obtain⟨dx,fs,h1,_,_,h2,_⟩:=h;exact fL h1 T.Ku T.K7 h2 Q
theorem aa.till_(T:Txt K mg A)(h:aa A H p k Pr)(Q:VK):dJ K "till" (.ref p) H Q=Q (vE Pr.holds) H:=by
 obtain⟨dx,fs,h1,_,_,_,h2,_⟩:=h;exact fL h1 T.Ku T.K8 h2 Q
theorem aa.weekdays_(T:Txt K mg A)(h:aa A H p k Pr)(Q:VK):dJ K "weekdays" (.ref p) H Q=Q (.str (St (ou Pr))) H:=by
 obtain⟨dx,fs,h1,_,_,_,_,h2,_⟩:=h;exact fL h1 T.Ku T.LC h2 Q
theorem aa.from__(T:Txt K mg A)(h:aa A H p k Pr)(Q:VK):dJ K "begins_from" (.ref p) H Q=Q (.int Pr.from_) H:=by
 obtain⟨dx,fs,h1,_,_,_,_,_,h2,_⟩:=h;exact fL h1 T.Ku T.LD h2 Q
theorem aa.before_(T:Txt K mg A)(h:aa A H p k Pr)(Q:VK):dJ K "begins_before" (.ref p) H Q=Q (.int Pr.to_) H:=by
 obtain⟨dx,fs,h1,_,_,_,_,_,_,h2,_⟩:=h;exact fL h1 T.Ku T.LG h2 Q
theorem aa.most_(T:Txt K mg A)(h:aa A H p k Pr)(Q:VK):dJ K "most_class" (.ref p) H Q=Q (.int Pr.most) H:=by
 obtain⟨dx,fs,h1,_,_,_,_,_,_,_,h2,_⟩:=h;exact fL h1 T.Ku T.LH h2 Q
theorem aa.first_(T:Txt K mg A)(h:aa A H p k Pr)(Q:VK):dJ K "first_only" (.ref p) H Q=Q (.bl Pr.first) H:=by
 obtain⟨dx,fs,h1,_,_,_,_,_,_,_,_,h2,_⟩:=h;exact fL h1 T.Ku T.LI h2 Q
theorem aa.card_(T:Txt K mg A)(h:aa A H p k Pr)(Q:VK):dJ K "card" (.ref p) H Q=Q (.str (St (dC Pr.card))) H:=by
 obtain⟨dx,fs,h1,_,_,_,_,_,_,_,_,_,h2⟩:=h;exact fL h1 T.Ku T.LJ h2 Q
end
def Ff(t:TT)(ta tb:TE):TE:=fun σ H Q=>t σ H fun c H1=>∃v,(if c=true then ta σ H1 (fun x H2=>x=v/\H2=H1) else tb σ H1 (fun x H2=>x=v/\H2=H1))/\Q v H1
theorem HJ{X:Cx}{c a b:OH}{pos:Q2}{tA:TT}{ta tb:TE}(Y:PT X c tA)(ha:PE X a ta)(hb:PE X b tb):PE X (.IfExp c a b pos) (Ff tA ta tb):=by
 intro pins s σ H Q I h;refine wpAny_IfExp (dQ (Y pins s σ H _ I h) fun d M ⟨H1,O,v,z,S⟩=>?_);cases d with
 |true=>
  rw[if_pos rfl] at z;refine dQ (ha pins M σ H1 _ O z) fun u Z ⟨x,H2,F,r,J,L⟩=>?_;subst J L;exact⟨_,_,F,r,S⟩
 |false=>
  rw[if_neg (by decide)] at z;refine dQ (hb pins M σ H1 _ O z) fun u Z ⟨x,H2,F,r,J,L⟩=>?_;subst J L;exact⟨_,_,F,r,S⟩
theorem Same.new{H:Hp}{q:Addr}{o:HO}(h:H q=none):Same H (upd H q o):=fun b u e=>by
 rw[aj (aw e h)];exact e
theorem Fg{K:PySem.W.Frag}{tl:TE}{te:TE}{vs:List Nat}{σ:L2.St}{H:Hp}{Q:VK}{a:Addr}{xs:List V}{j:Nat}(f:V->V)(ha:∀R:VK,R (.ref a) H->tl σ H R)(I:aI K H a xs)(hsz:xs.length<=1000000)(L:∀x,bV ((bV σ vs).set j (some x)) vs=bV σ vs)(hs:∀(x:V)(H':Hp),x∈xs->Same H H'->∀R:VK,(∀z,Same H' z->R (f x) z)->te ((bV σ vs).set j (some x)) H' R)(M:∀(D:Addr)(H':Hp),H D=none->Same H H'->H' D=some (.lst (xs.map f))->Q (.ref D) H'):EH (AA K tl) (fS j) GW te vs σ H Q:=by
 show tl σ H _;refine ha _ ⟨a,rfl,⟨xs,I⟩,fun D F=>?_⟩;have O:Same H (upd H D (.lst [])):=Same.new F;refine E1 (K:=K) (a:=a) (xs:=xs) (fun i H'=>Same H H'/\H' D=some (.lst ((xs.take i).map f))) ⟨O,ac⟩ (fun i H' _ h=>h.1.seq I) (fun i x H' hi h=>?_) (fun H' h=>M D H' F h.1 (by rw[h.2,Qg]));refine⟨L x,?_⟩;show te _ H' _;refine hs x H' (Oe hi) h.1 _ fun z J=>⟨_,J _ _ h.2,?_,?_,?_⟩
 ·rw[NV,QE];exact O8 (Od (QI _ _) hsz) (by decide)
 ·intro b o e;have hb:b≠D:=aw e F;rw[aj hb];exact J _ _ (h.1 _ _ e)
 ·rw[ac]
  have:xs.take (i+1)=xs.take i++[x]:=by
   rw[Pg,hi];rfl
  rw[this,Oj];rfl
section
variable{σ:L2.St}{H:Hp}{Q:VK}{v u:V}{a0 a1 a2 a3 a4 a5 a6 a7 a8 a9 a10:Option V}{i j:Int}{x y:N_}{b c:Bool}
theorem jn{n:Nat}(h:σ[n]?=some (some v)):fX n σ H Q=Q v H:=propext ⟨fun⟨_,e,q⟩=>by rw[h] at e;cases e;exact q,fun q=>⟨v,h,q⟩⟩
theorem J0:fX 0 (some v::σ) H Q=Q v H:=jn rfl
theorem J5:fX 1 (a0::some v::σ) H Q=Q v H:=jn rfl
theorem J6:fX 2 (a0::a1::some v::σ) H Q=Q v H:=jn rfl
theorem J7:fX 3 (a0::a1::a2::some v::σ) H Q=Q v H:=jn rfl
theorem J8:fX 4 (a0::a1::a2::a3::some v::σ) H Q=Q v H:=jn rfl
theorem J9:fX 5 (a0::a1::a2::a3::a4::some v::σ) H Q=Q v H:=jn rfl
theorem J_:fX 6 (a0::a1::a2::a3::a4::a5::some v::σ) H Q=Q v H:=jn rfl
theorem Ka:fX 7 (a0::a1::a2::a3::a4::a5::a6::some v::σ) H Q=Q v H:=jn rfl
theorem Kb:fX 8 (a0::a1::a2::a3::a4::a5::a6::a7::some v::σ) H Q=Q v H:=jn rfl
theorem Kc:fX 9 (a0::a1::a2::a3::a4::a5::a6::a7::a8::some v::σ) H Q=Q v H:=jn rfl
theorem HK{g:Int->Int->V}:ss g (.int i) (.int j) H Q=Q (g i j) H:=propext ⟨fun⟨_,_,z,F,q⟩=>by cases z;cases F;exact q,fun q=>⟨i,j,rfl,rfl,q⟩⟩
theorem Jh{C:Int->Int->Prop}{g:Int->Int->V}:rI C g (.int i) (.int j) H Q=(C i j/\Q (g i j) H):=propext ⟨fun⟨_,_,z,F,q⟩=>by cases z;cases F;exact q,fun q=>⟨i,j,rfl,rfl,q⟩⟩
theorem Ji{g:Int->V}:rU g (.int i) H Q=Q (g i) H:=propext ⟨fun⟨_,z,q⟩=>by cases z;exact q,fun q=>⟨i,rfl,q⟩⟩
theorem Gm:EG (.int i) (.int j) H Q=Q (.bl (decide (i=j))) H:=propext ⟨fun q=>by have:=q.2;rw[lZ] at this;exact this,fun q=>⟨rfl,by rw[lZ];exact q⟩⟩
theorem Gn:EG (.str x) (.str y) H Q=Q (.bl (decide (x=y))) H:=propext ⟨fun q=>by have:=q.2;rw[l_] at this;exact this,fun q=>⟨rfl,by rw[l_];exact q⟩⟩
theorem Go:GM (.int i) (.int j) H Q=Q (.bl (!decide (i=j))) H:=propext ⟨fun q=>by have:=q.2;rw[lZ] at this;exact this,fun q=>⟨rfl,by rw[lZ];exact q⟩⟩
theorem Gp:GM (.str x) (.str y) H Q=Q (.bl (!decide (x=y))) H:=propext ⟨fun q=>by have:=q.2;rw[l_] at this;exact this,fun q=>⟨rfl,by rw[l_];exact q⟩⟩
theorem Jj{P:Bool->Prop}:(∃k,V.bl b=V.bl k/\P k)=P b:=propext ⟨fun⟨_,e,h⟩=>by cases e;exact h,fun h=>⟨b,rfl,h⟩⟩
theorem Fh{P:Int->Int->Prop}:(∃z F,[V.int i,V.int j]=[V.int z,V.int F]/\P z F)=P i j:=propext ⟨fun⟨_,_,e,h⟩=>by cases e;exact h,fun h=>⟨i,j,rfl,h⟩⟩
theorem HL{P:Int->Prop}:(∃z,V.int i=V.int z/\P z)=P i:=propext ⟨fun⟨_,e,h⟩=>by cases e;exact h,fun h=>⟨i,rfl,h⟩⟩
theorem Fi{P:N_->Prop}:(∃z,[V.str x]=[V.str z]/\P z)=P x:=propext ⟨fun⟨_,e,h⟩=>by cases e;exact h,fun h=>⟨x,rfl,h⟩⟩
theorem Fj{p:Prop}[Decidable p]{A B:Prop}:(if decide p=true then A else B)=(if p then A else B):=by
 by_cases h:p<;>simp[h]
theorem Jk{r:V->List V->Hp->VK->Prop}:((∃a,V.str x=V.str a)/\r (.str x) [] H Q)=r (.str x) [] H Q:=propext ⟨fun q=>q.2,fun q=>⟨⟨x,rfl⟩,q⟩⟩
theorem Fk:EU (.str x) (.int i) H Q=(x.length<=sizeLine/\∃c,AG x.cps.toList i=some c/\Q (.str ⟨#[c]⟩) H):=propext ⟨fun⟨_,_,c,z,F,h1,h2,q⟩=>by cases z;cases F;exact⟨h1,c,h2,q⟩,fun⟨h1,c,h2,q⟩=>⟨x,i,c,rfl,rfl,h1,h2,q⟩⟩
theorem zD{l:Addr}:nW (.ref l) [v] H Q=(∃xs,H l=some (.lst xs)/\xs.length<sizeLine/\Q .non (upd H l (.lst (xs++[v])))):=propext ⟨fun⟨_,xs,_,z,F,h1,h2,q⟩=>by cases z;cases F;exact⟨xs,h1,h2,q⟩,fun⟨xs,h1,h2,q⟩=>⟨l,xs,v,rfl,rfl,h1,h2,q⟩⟩
end
section
variable{X:Cx}{K:PySem.W.Frag}
def yi:V->List V->Hp->VK->Prop:=fun x vs H Q=>∃l xs y,x=.ref l/\vs=[.int 0,y]/\H l=some (.lst xs)/\xs.length<sizeLine/\Q .non (upd H l (.lst (y::xs)))
theorem BR:JT X "list.insert" yi:=by
 intro pins s σ H x vs v us Q I M O h;obtain⟨l,xs,y,rfl,rfl,L,Z,q⟩:=h;cases M;cases O with
 |cons S J=>
  cases J with
  |cons Y J=>
   cases J;obtain⟨t,rfl⟩:=S;rename_i u;obtain⟨z,its,n,r,hl,e⟩:=I.lstM L;refine Q0 PySem.F.slot_list_insert ⟨_,e,rfl⟩ PySem.F.entry_list_insert (PySem.F.args_list_insert_3 _ _ _) (PySem.AutoSeq1.list_insert_list_int_val_1 l its.toArray n 0 t u (by decide) (by rw[Ow];lia)) ⟨e,?_⟩;refine⟨.non,_,I.lset (its':=u::its) L e (by simp) (.cons Y r) ?_,rfl,q⟩;rw[Ol];lia
theorem uz(z:X.K=K):ng X (O2 .NotIn) (JS K true):=z ▸ nV
def Jl(X:Cx)(ty td:TE):TE:=fun σ H Q=>ty σ H fun y H1=>td σ H1 fun x H2=>∃a kvs k,x=.ref a/\y=kV k/\qy X.prog X.w X.K a kvs/\Q (.bl (dH kvs k).isSome) H2
theorem HM{o i:OH}{td ty:TE}(hi:PE X i ty)(L:PE X o td):PC X .In i o (Jl X ty td):=by
 intro pins s σ H Q I h;refine dQ (hi pins s σ H _ I h) fun iv M ⟨y,H1,O,S,Y⟩=>dQ (L pins M σ H1 _ O Y) fun u Z ⟨x,H2,J,rx,a,kvs,k,ex,ey,⟨z,vs,F,dd⟩,q2⟩=>?_;subst ex ey;obtain rfl:u=NU.ref a:=rx;have d:=dd Z.heap J.kIn;refine wpAny_in_of (sE S) z d.mapOf ?_;rw[<-(F.val k).isSome_eq];exact⟨.bl (dH kvs k).isSome,_,J.tok _,rfl,q2⟩
end
section
variable{prog:N3}{w:Oh}{A:OG}{E:NU->NY->Prop}{s:NY}
theorem qz{it t:Addr}{i:Nat}{xs:Array NU}{x:NU}{Q:NU->NY->Prop}(hi:P5 s.heap it t i)(I:Td s.heap t xs)(J:xs[i]?=some x)(q:∀h',P5 h' it t (i+1)->Heap.SameBut it s.heap h'->Q x {s with heap:=h'}):wpAny (model prog w) A (Ox.SmallTypes.nextOf (.ref it)) Q E s:=by
 obtain⟨S,F,L,z⟩:=id hi;obtain⟨Y,M,_,Z,O⟩:=I;unfold Ox.SmallTypes.nextOf;refine wpAny_bind (Qo (name:=N_.ofString "__next__") hi.typeIs QO (Ro QO hi.typeIs SK ?_ (S_ _)));show wpAny _ _ (UO (.ref it) 0 >>= _) _ _ s;refine wpAny_bind (PL F z (x:=.ref t) rfl ?_);show wpAny _ _ (if (NU.ref t==NU.none)=true then _ else _) _ _ s;rw[if_neg (show ¬((NU.ref t==NU.none)=true) from N2)];show wpAny _ _ (UO (.ref it) 1 >>= _) _ _ s;refine wpAny_bind (PL F z (x:=.int i 0) rfl ?_);show wpAny _ _ (seqItems? (.ref t) >>= _) _ _ s;refine wpAny_bind (P8 M O ?_);simp only[QB,J];refine wpAny_bind (UP F z (by simp) (wpAny_pure ⟨x,rfl,wpAny_pure (q _ ?_ (Heap.SameBut.update ..))⟩));exact⟨_,Heap.get?_update_self _ F (Obj.isFreed_of_fields (Obj.data_mapFields z _)),(Obj.cls_mapFields ..).trans L,by rw[Obj.data_mapFields z];simp[UB]⟩
theorem zE{it t:Addr}{i:Nat}{xs:Array NU}{Q:NU->NY->Prop}(I:A.handled=none)(hi:P5 s.heap it t i)(J:Td s.heap t xs)(L:xs[i]?=none)(q:∀h' e,Heap.ExtBut it s.heap h'->(∃o,h'.get? e=some o/\o.cls=.type "StopIteration")->E (.ref e) {s with heap:=h'}):wpAny (model prog w) A (Ox.SmallTypes.nextOf (.ref it)) Q E s:=by
 obtain⟨S,z,Y,F⟩:=id hi;obtain⟨Z,M,_,nt,O⟩:=J;unfold Ox.SmallTypes.nextOf;refine wpAny_bind (Qo (name:=N_.ofString "__next__") hi.typeIs QO (Ro QO hi.typeIs SK ?_ (S_ _)));show wpAny _ _ (UO (.ref it) 0 >>= _) _ _ s;refine wpAny_bind (PL z F (x:=.ref t) rfl ?_);show wpAny _ _ (if (NU.ref t==NU.none)=true then _ else _) _ _ s;rw[if_neg (show ¬((NU.ref t==NU.none)=true) from N2)];show wpAny _ _ (UO (.ref it) 1 >>= _) _ _ s;refine wpAny_bind (PL z F (x:=.int i 0) rfl ?_);show wpAny _ _ (seqItems? (.ref t) >>= _) _ _ s;refine wpAny_bind (P8 M O ?_);simp only[QB,L];refine wpAny_bind (UQ (wpAny_bind (UP z F (by simp) ?_)));show wpAny _ _ (newExc (.type "StopIteration") [] >>= _) _ _ _;refine wpAny_bind ?_;simp only[newExc,newTuple];refine wpAny_bind (R0 ?_ (by size_fits));refine wpAny_bind (m:=UR _ _) (wpAny_of_eq (a:=NU.none) (by first|rfl|(simp only[UR];rfl)) ?_);refine R0 ?_ (by size_fits);simp only[raiseNew];refine wpAny_bind (wpAny_handled ?_)
 first|rw[show A.in1.handled=none from I]|rw[I]
 refine wpAny_bind (wpAny_pure (wpAny_throw ?_));exact q _ _ (((Heap.SameBut.update ..).extBut.push _).push _) ⟨_,Heap.get?_push_size _ rfl,rfl⟩
theorem Fl{z TI TO i1 I S Y:Addr}{k1 k2:Nat}{xs ys:Array NU}{x y a b:NU}{Q:NU->NY->Prop}(D:SG z TI TO i1 I S Y)(Z:RD s.heap z TI TO .none)(hI:P7 s.heap TI (.ref i1) (.ref I))(hO:P7 s.heap TO a b)(h1:P5 s.heap i1 S k1)(h2:s.heap.IsListIter I Y k2)(g1:Td s.heap S xs)(g2:s.heap.IsList Y ys)(hx:xs[k1]?=some x)(hy:ys[k2]?=some y)(hq:∀h',RD h' z TI TO (UB s.heap.objs.size)->P7 h' TO x y->P5 h' i1 S (k1+1)->h'.IsListIter I Y (k2+1)->P7 h' s.heap.objs.size x y->h'.objs.size=s.heap.objs.size+1->(∀c o,c≠z->c≠TO->c≠i1->c≠I->s.heap.get? c=some o->h'.get? c=some o)->Q (.ref s.heap.objs.size) {s with heap:=h'}):
  wpAny (model prog w) A (Ox.«zip.__next__» ⟨[.ref z],[]⟩) (fun fin s'=>∃v,fin=.done (.ret v)/\Q v s') E s:=by
 show wpAny _ _ (UO (.ref z) 2 >>= _) _ _ _;refine wpAny_bind (PL Z rfl (x:=.bool false) rfl ?_);show wpAny _ _ (UO (.ref z) 3 >>= _) _ _ _;refine wpAny_bind (PL Z rfl (x:=.ref TI) rfl ?_);refine wpAny_bind (P8 hI rfl ?_);show wpAny _ _ (Ox.SmallTypes.ownedTupleIsFree (.ref z) >>= _) _ _ _;refine wpAny_bind ?_;unfold Ox.SmallTypes.ownedTupleIsFree;refine wpAny_bind (PL Z rfl (x:=.none) rfl (wpAny_pure ?_));simp only[if_true];refine wpAny_bind (UQ ?_);refine wpAny_bind (PL Z rfl (x:=.ref TO) rfl ?_);refine wpAny_bind (P9 Z (by simp) fun p1 z1 J=>?_);replace z1:RD p1 z TI TO .ellipsis:=z1;refine wpAny_bind ?_;simp only[R3,zipIdx_nil,Tn,Ub];refine wpAny_bind (wpAny_bind (R5 ?_));show wpAny _ _ (Ox.SmallTypes.nextOf (.ref i1) >>= _) _ _ _;refine wpAny_bind (qz (h1.extBut J.extBut D.i1z) (g1.extBut J.extBut D.l1z) hx fun p2 j2 M=>wpAny_pure ?_);have o2:P7 p2 TO a b:=M.extBut _ _ D.TOi1 (J.extBut _ _ D.TOz hO);refine wpAny_bind (P8 o2 rfl ?_);refine wpAny_bind (Rv o2 fun p3 o3 O=>?_);replace o3:P7 p3 TO x b:=o3;refine wpAny_bind (Up (wpAny_pure ?_));refine wpAny_bind (wpAny_bind (R5 ?_));show wpAny _ _ (Ox.SmallTypes.nextOf (.ref I) >>= _) _ _ _;refine wpAny_bind (wpAny_nextOf_list_item (((h2.extBut J.extBut D.i2z).extBut M.extBut D.i12.symm).extBut O.extBut D.TOi2.symm) (((g2.extBut J.extBut D.l2z).extBut M.extBut D.l2i1).extBut O.extBut D.l2TO) hy fun p4 j4 s4=>wpAny_pure ?_);have o4:P7 p4 TO x b:=s4.extBut _ _ D.TOi2 o3;refine wpAny_bind (P8 o4 rfl ?_);refine wpAny_bind (Rv o4 fun F o5 s5=>?_);replace o5:P7 F TO x y:=o5;refine wpAny_bind (Up (wpAny_pure (wpAny_pure ?_)));refine wpAny_bind (P8 o5 rfl ?_);refine wpAny_bind (wpAny_newTuple ?_);have sz:F.objs.size=s.heap.objs.size:=by rw[s5.1,s4.1,O.1,M.1,J.1]
 have z5:RD F z TI TO .ellipsis:=s5.extBut _ _ D.TOz.symm (s4.extBut _ _ D.i2z.symm (O.extBut _ _ D.TOz.symm (M.extBut _ _ D.i1z.symm z1)));have k5:∀c o,c≠z->c≠TO->c≠i1->c≠I->s.heap.get? c=some o->F.get? c=some o:=fun c o L c2 c3 c4 e=>s5.extBut _ _ c2 (s4.extBut _ _ c4 (O.extBut _ _ c2 (M.extBut _ _ c3 (J.extBut _ _ L e))));have u1:P5 F i1 S (k1+1):=((j2.extBut O.extBut D.TOi1.symm).extBut s4.extBut D.i12).extBut s5.extBut D.TOi1.symm;have u2:F.IsListIter I Y (k2+1):=j4.extBut s5.extBut D.TOi2.symm;have lz:z<F.objs.size:=Heap.lt_size z5;show wpAny _ _ (Ox.SmallTypes.ownedTupleHandOut (.ref z) (.ref F.objs.size) >>= _) _ _ _;refine wpAny_bind ?_;unfold Ox.SmallTypes.ownedTupleHandOut;have z6:RD (F.push {cls:=.type "tuple",data:=.seq #[x,y]}) z TI TO .ellipsis:=Heap.get?_push_of_some _ z5;refine wpAny_bind (P9 z6 (by simp) fun p7 z7 s7=>?_);replace z7:RD p7 z TI TO (UB F.objs.size):=z7;refine P9 z7 (by simp) fun p8 z8 s8=>?_;replace z8:RD p8 z TI TO (UB F.objs.size):=z8;have up:∀c o,c≠z->F.get? c=some o->p8.get? c=some o:=fun c o L e=>s8.extBut _ _ L (s7.extBut _ _ L (Heap.get?_push_of_some _ e));have t8:P7 p8 F.objs.size x y:=s8.extBut _ _ (Q9 lz) (s7.extBut _ _ (Q9 lz) (Heap.get?_push_size _ rfl));have n8:p8.objs.size=F.objs.size+1:=by rw[s8.1,s7.1,Heap.size_push]
 rw[sz] at z8 t8 n8;refine wpAny_pure ⟨_,rfl,?_⟩;show Q (.ref F.objs.size) _;rw[sz];refine hq p8 z8 (up _ _ D.TOz o5) ?_ (u2.at fun o e=>up _ o D.i2z e) t8 n8 fun c o L c2 c3 c4 e=>up c o L (k5 c o L c2 c3 c4 e);obtain⟨o,v1,v2⟩:=u1;exact⟨o,up _ o D.i1z v1,v2⟩
theorem HN{z TI TO i1 O l1 l2:Addr}{k1 k2:Nat}{xs ys:Array NU}{a b:NU}{Q:Fin->NY->Prop}(hA:A.handled=none)(D:SG z TI TO i1 O l1 l2)(S:RD s.heap z TI TO .none)(hI:P7 s.heap TI (.ref i1) (.ref O))(hO:P7 s.heap TO a b)(h1:P5 s.heap i1 l1 k1)(h2:s.heap.IsListIter O l2 k2)(g1:Td s.heap l1 xs)(g2:s.heap.IsList l2 ys)(Y:xs[k1]?=none\/ys[k2]?=none)(hq:∀h' e,(∀c o,c≠z->c≠TO->c≠i1->c≠O->s.heap.get? c=some o->h'.get? c=some o)->(∃o,h'.get? e=some o/\o.cls=.type "StopIteration")->E (.ref e) {s with heap:=h'}):
  wpAny (model prog w) A (Ox.«zip.__next__» ⟨[.ref z],[]⟩) Q E s:=by
 show wpAny _ _ (UO (.ref z) 2 >>= _) _ _ _;refine wpAny_bind (PL S rfl (x:=.bool false) rfl ?_);show wpAny _ _ (UO (.ref z) 3 >>= _) _ _ _;refine wpAny_bind (PL S rfl (x:=.ref TI) rfl ?_);refine wpAny_bind (P8 hI rfl ?_);show wpAny _ _ (Ox.SmallTypes.ownedTupleIsFree (.ref z) >>= _) _ _ _;refine wpAny_bind ?_;unfold Ox.SmallTypes.ownedTupleIsFree;refine wpAny_bind (PL S rfl (x:=.none) rfl (wpAny_pure ?_));simp only[if_true];refine wpAny_bind (UQ ?_);refine wpAny_bind (PL S rfl (x:=.ref TO) rfl ?_);refine wpAny_bind (P9 S (by simp) fun p1 z1 J=>?_);replace z1:RD p1 z TI TO .ellipsis:=z1;refine wpAny_bind ?_;simp only[R3,zipIdx_nil,Tn,Ub];refine wpAny_bind (wpAny_bind (R5 ?_));show wpAny _ _ (Ox.SmallTypes.nextOf (.ref i1) >>= _) _ _ _;cases hx:xs[k1]? with
 |none=>
  refine wpAny_bind (zE hA (h1.extBut J.extBut D.i1z) (g1.extBut J.extBut D.l1z) hx fun p2 e L he=>?_);obtain⟨oe,F,I⟩:=he;have z2:RD p2 z TI TO .ellipsis:=L _ _ D.i1z.symm z1;have ne:e≠z:=fun q=>by subst q;rw[z2] at F;cases F;simp at I
  refine P9 z2 (by simp) fun p3 _ M=>hq p3 e (fun c o Z _ c3 _ x=>M.extBut _ _ Z (L _ _ c3 (J.extBut _ _ Z x))) ⟨oe,M.extBut _ _ ne F,I⟩
 |some x=>
  have hy:ys[k2]?=none:=by
   rcases Y with h|h
   ·rw[hx] at h;cases h
   ·exact h
  refine wpAny_bind (qz (h1.extBut J.extBut D.i1z) (g1.extBut J.extBut D.l1z) hx fun p2 j2 L=>wpAny_pure ?_);have o2:P7 p2 TO a b:=L.extBut _ _ D.TOi1 (J.extBut _ _ D.TOz hO);refine wpAny_bind (P8 o2 rfl ?_);refine wpAny_bind (Rv o2 fun p3 o3 M=>?_);refine wpAny_bind (Up (wpAny_pure ?_));refine wpAny_bind (wpAny_bind (R5 ?_));show wpAny _ _ (Ox.SmallTypes.nextOf (.ref O) >>= _) _ _ _;refine wpAny_bind (wpAny_nextOf_list_end hA (((h2.extBut J.extBut D.i2z).extBut L.extBut D.i12.symm).extBut M.extBut D.TOi2.symm) (((g2.extBut J.extBut D.l2z).extBut L.extBut D.l2i1).extBut M.extBut D.l2TO) hy fun p4 e s4 he=>?_);obtain⟨oe,F,I⟩:=he;have z4:RD p4 z TI TO .ellipsis:=s4 _ _ D.i2z.symm (M.extBut _ _ D.TOz.symm (L.extBut _ _ D.i1z.symm z1));have ne:e≠z:=fun q=>by subst q;rw[z4] at F;cases F;simp at I
  refine P9 z4 (by simp) fun p5 _ s5=>hq p5 e (fun c o Z c2 c3 c4 x=>s5.extBut _ _ Z (s4 _ _ c4 (M.extBut _ _ c2 (L.extBut _ _ c3 (J.extBut _ _ Z x))))) ⟨oe,s5.extBut _ _ ne F,I⟩
theorem zF{z TI TO i1 I J L:Addr}{M O:Nat}{xs ys:Array NU}{x y a b:NU}{Q:Option NU->NY->Prop}(D:SG z TI TO i1 I J L)(S:RD s.heap z TI TO .none)(Z:P7 s.heap TI (.ref i1) (.ref I))(hO:P7 s.heap TO a b)(h1:P5 s.heap i1 J M)(h2:s.heap.IsListIter I L O)(g1:Td s.heap J xs)(g2:s.heap.IsList L ys)(hx:xs[M]?=some x)(hy:ys[O]?=some y)(hq:∀h',RD h' z TI TO (UB s.heap.objs.size)->P7 h' TO x y->P5 h' i1 J (M+1)->h'.IsListIter I L (O+1)->P7 h' s.heap.objs.size x y->h'.objs.size=s.heap.objs.size+1->(∀c o,c≠z->c≠TO->c≠i1->c≠I->s.heap.get? c=some o->h'.get? c=some o)->Q (some (.ref s.heap.objs.size)) {s with heap:=h'}):
  wpAny (model prog w) A (TZ (.ref z)) Q E s:=by
 have Y:s.TypeIs (.ref z) "zip":=⟨_,S,rfl⟩;unfold TZ;exact wpAny_bind (Va (Qo (name:=N_.ofString "__next__") Y PySem.F.slot_zip_next (Ro PySem.F.slot_zip_next Y PySem.F.entry_zip_next (Fl D S Z hO h1 h2 g1 g2 hx hy fun h' a1 a2 a3 a4 a5 a6 a7=>wpAny_pure (hq h' a1 a2 a3 a4 a5 a6 a7)) (PySem.F.args_zip_next_1 _))))
theorem BS{z TI TO i1 J L M:Addr}{O S:Nat}{xs ys:Array NU}{a b:NU}{Q:Option NU->NY->Prop}(hA:A.handled=none)(D:SG z TI TO i1 J L M)(Y:RD s.heap z TI TO .none)(hI:P7 s.heap TI (.ref i1) (.ref J))(hO:P7 s.heap TO a b)(h1:P5 s.heap i1 L O)(h2:s.heap.IsListIter J M S)(g1:Td s.heap L xs)(g2:s.heap.IsList M ys)(I:xs[O]?=none\/ys[S]?=none)(hq:∀h',(∀c o,c≠z->c≠TO->c≠i1->c≠J->s.heap.get? c=some o->h'.get? c=some o)->Q none {s with heap:=h'}):wpAny (model prog w) A (TZ (.ref z)) Q E s:=by
 have Z:s.TypeIs (.ref z) "zip":=⟨_,Y,rfl⟩;unfold TZ;refine wpAny_bind (Va (Qo (name:=N_.ofString "__next__") Z PySem.F.slot_zip_next (Ro PySem.F.slot_zip_next Z PySem.F.entry_zip_next (HN hA D Y hI hO h1 h2 g1 g2 I fun h' e hk he=>?_) (PySem.F.args_zip_next_1 _))));obtain⟨o,ho,hc⟩:=he;exact wpAny_bind (wpAny_isInstance (T:="StopIteration") (b:=true) ⟨o,ho,hc⟩ isSubtype_stop (wpAny_pure (hq _ hk)))
end
abbrev Fm(h:Heap)(z:Addr):Heap:=h.push {cls:=.type "tuple_iterator",data:=.fields #[.ref z,.int 0 0]}
abbrev Fn(h:Heap)(z F:Addr):Heap:=(Fm h z).push {cls:=.type "list_iterator",data:=.fields #[.ref F,.int 0 0]}
abbrev Fo(h:Heap)(z F:Addr):Heap:=(Fn h z F).push {cls:=.type "tuple",data:=.seq #[.ref h.objs.size,.ref (Fm h z).objs.size]}
abbrev Fp(h:Heap)(z F:Addr):Heap:=(Fo h z F).push {cls:=.type "tuple",data:=.seq #[.none,.none]}
abbrev BU(h:Heap)(z F:Addr):Heap:=(Fp h z F).push {cls:=.type "zip",data:=.fields #[.none,.bool false,.bool false,.ref (Fn h z F).objs.size,.ref (Fo h z F).objs.size]}
theorem BV(z F:Addr)(xs ys:Array NU):
  Meets (Ox.«zip.__new__» ⟨[.type "zip",.ref z,.ref F],[]⟩) (fun _ R s=>Td s.heap z xs/\s.heap.IsList F ys/\R (.ok (.ret (.ref (Fp s.heap z F).objs.size))) {s with heap:=BU s.heap z F}):=
 .of_wp fun prog w A R s h=>by
  obtain⟨L,g,d,tk,os⟩:=s;obtain⟨t1,O,h⟩:=h;have M:=sub_zip;have I:Td (NY.heap ⟨L,g,d,tk,os⟩) z xs:=t1;have J:Heap.IsList (NY.heap ⟨L.push {cls:=.type "tuple_iterator",data:=.fields #[.ref z,.int 0 0]},g,d,tk,os⟩) F ys:=Heap.IsList.push O _
  wp_walk using iter_tuple I,RX J
  exact⟨_,rfl,h⟩
section
variable{prog:N3}{w:Oh}{A:OG}{E:NU->NY->Prop}{s:NY}
theorem BW{z I:Addr}{xs ys:Array NU}{Q:NU->NY->Prop}(g1:Td s.heap z xs)(g2:s.heap.IsList I ys)(h:∀h',RD h' (s.heap.objs.size+4) (s.heap.objs.size+2) (s.heap.objs.size+3) .none->P7 h' (s.heap.objs.size+2) (.ref s.heap.objs.size) (.ref (s.heap.objs.size+1))->P7 h' (s.heap.objs.size+3) .none .none->P5 h' s.heap.objs.size z 0->h'.IsListIter (s.heap.objs.size+1) I 0->(∀c o,s.heap.get? c=some o->h'.get? c=some o)->Q (.ref (s.heap.objs.size+4)) {s with heap:=h'}):
  wpAny (model prog w) A (call (.type "zip") [.ref z,.ref I]) Q E s:=by
 refine callType_new PySem.F.called_zip (by decide) (PySem.F.typeCall_zip_2 _ _) (PySem.F.newCall_zip_2 _ _) (fun obj=>PySem.F.args_object_init_3 obj _ _) PySem.F.entry_zip_new (BV z I xs ys) ⟨g1,g2,?_⟩;have J:(Fm s.heap z).objs.size=s.heap.objs.size+1:=Heap.size_push ..;have L:(Fn s.heap z I).objs.size=s.heap.objs.size+2:=by rw[Heap.size_push,J]
 have M:(Fo s.heap z I).objs.size=s.heap.objs.size+3:=by rw[Heap.size_push,L]
 have S:(Fp s.heap z I).objs.size=s.heap.objs.size+4:=by rw[Heap.size_push,M]
 have O:(BU s.heap z I).get? (Fp s.heap z I).objs.size=some _:=Heap.get?_push_size _ rfl;have Y:(BU s.heap z I).get? (Fo s.heap z I).objs.size=some _:=Heap.get?_push_of_some _ (Heap.get?_push_size _ rfl);have Z:(BU s.heap z I).get? (Fn s.heap z I).objs.size=some _:=Heap.get?_push_of_some _ (Heap.get?_push_of_some _ (Heap.get?_push_size _ rfl));have y2:(BU s.heap z I).get? (Fm s.heap z).objs.size=some _:=Heap.get?_push_of_some _ (Heap.get?_push_of_some _ (Heap.get?_push_of_some _ (Heap.get?_push_size _ rfl)));have y1:(BU s.heap z I).get? s.heap.objs.size=some _:=Heap.get?_push_of_some _ (Heap.get?_push_of_some _ (Heap.get?_push_of_some _ (Heap.get?_push_of_some _ (Heap.get?_push_size _ rfl))));show _/\_;rw[L,M,S] at O;rw[J,L] at Z;rw[M] at Y;rw[J] at y2;rw[S];exact⟨⟨_,O,rfl⟩,h _ O Z Y ⟨_,y1,rfl,rfl⟩ ⟨_,y2,rfl,rfl⟩ fun c o x=>Heap.get?_push_of_some _ (Heap.get?_push_of_some _ (Heap.get?_push_of_some _ (Heap.get?_push_of_some _ (Heap.get?_push_of_some _ x))))⟩
end
def BX(K:PySem.W.Frag)(a b:Addr):It:=
 ⟨fun i H=>∃(xs ys:List V)(x y:V),gI K H a xs/\aI K H b ys/\xs[i]?=some x/\ys[i]?=some y,
  fun i H v H'=>∃T x y,v=.ref T/\H T=none/\H'=upd H T (.tup [x,y])/\(∀xs,gI K H a xs->xs[i]?=some x)/\∀ys,aI K H b ys->ys[i]?=some y,
  fun i H=>∃xs ys:List V,gI K H a xs/\aI K H b ys/\(xs.length<=i\/ys.length<=i)⟩
theorem DN{h h':Heap}{a t i}(x:P5 h a t i)(k:∀o,h.get? a=some o->h'.get? a=some o):P5 h' a t i:=let ⟨o,e,r⟩:=x;⟨o,k o e,r⟩
theorem Fq{P:N3}{w:Oh}{K:PySem.W.Frag}{ar:List OH}{kk:Nat}{tpos:Q2}{a b z TI TO i1 J:Addr}(D:SG z TI TO i1 J a b):
  xB P w K (.Tuple ar kk tpos) (BX K a b) [z,TI,TO,i1,J] z (fun i h=>RD h z TI TO .none/\P7 h TI (.ref i1) (.ref J)/\(∃x y,P7 h TO x y)/\P5 h i1 a i/\h.IsListIter J b i) where
 mem:=by simp
 obj:=fun i h st c hc=>by
  obtain⟨S,L,⟨x,y,Y⟩,⟨o1,e1,_,d1⟩,⟨o2,e2,_,d2⟩⟩:=st;have e':c=z\/c=TI\/c=TO\/c=i1\/c=J:=by simpa using hc
  rcases e' with q|q|q|q|q
  ·rw[q];exact⟨_,S,fun v q=>nomatch q⟩
  ·rw[q];exact⟨_,L,fun v q=>nomatch q⟩
  ·rw[q];exact⟨_,Y,fun v q=>nomatch q⟩
  ·rw[q];exact⟨o1,e1,fun v q=>by rw[d1] at q;cases q⟩
  ·rw[q];exact⟨o2,e2,fun v q=>by rw[d2] at q;cases q⟩
 keep:=fun i h h' st k=>by
  obtain⟨S,L,⟨x,y,Y⟩,h1,h2⟩:=st;exact⟨k z (by simp) _ S,k TI (by simp) _ L,⟨x,y,k TO (by simp) _ Y⟩,DN h1 fun o q=>k i1 (by simp) o q,h2.at fun o q=>k J (by simp) o q⟩
 item:=by
  intro X hP hw hK hc i pins s σ H E I hf st hg;subst hP hw hK;obtain⟨S,L,⟨x0,y0,Y⟩,h1,h2⟩:=st;obtain⟨xs,ys,x,y,M,O,hx,hy⟩:=hg;obtain⟨its,rv,p,_⟩:=I.tuple M;obtain⟨Z,al,p2,_⟩:=I.list O;obtain⟨u,hu,ru⟩:=rv.get hx;obtain⟨u2,b2,b3⟩:=al.get hy;have as:z<s.heap.objs.size:=Heap.lt_size S;refine zF D S L Y h1 h2 p p2.isList (x:=u) (y:=u2) (by simpa using hu) (by simpa using b2) fun h' z' TO' b4 b5 hT hsz hk=>?_;refine⟨_,rfl,RV (s:={s with heap:=h'}) z' fun an b6 sb=>?_⟩;have bd:an.get? s.heap.objs.size=some {cls:=.type "tuple",data:=.seq #[u,u2]}:=(sb.2 _ (Q9 as)).trans hT;have bk:eY X.prog X.w (upd H s.heap.objs.size (.tup [x,y])) an s.heap.objs.size (.tup [x,y]):=⟨by show 2<=sizeLine;decide,[u,u2],.cons ru (.cons b3 .nil),⟨_,bd,rfl,_,rfl⟩⟩
  have I1:Inv X pins σ (upd H s.heap.objs.size (.tup [x,y])) {s with heap:=an}:=
   I.turnedNew (t':=s.toks) (ch:=[z,TI,TO,i1,J]) (fun c o hb q=>(sb.2 c (fun F=>hb (by simp[F]))).trans (hk c o (fun F=>hb (by simp[F])) (fun F=>hb (by simp[F])) (fun F=>hb (by simp[F])) (fun F=>hb (by simp[F])) q)) hf (NX _) bk
  refine⟨.ref s.heap.objs.size,_,I1,rfl,⟨_,x,y,rfl,I.hok.fresh (NX _),rfl,fun l hl=>by rw[I.tuple_inj hl M];exact hx,fun l hl=>by rw[I.list_inj hl O];exact hy⟩,⟨b6,?_,⟨u,u2,?_⟩,?_,?_⟩,fun c av=>?_⟩
  ·exact(sb.2 _ D.TIz).trans (hk _ _ D.TIz D.TITO D.TIi1 D.TIi2 L)
  ·exact(sb.2 _ D.TOz).trans TO'
  ·exact DN b4 fun o q=>(sb.2 _ D.i1z).trans q
  ·exact b5.at fun o q=>(sb.2 _ D.i2z).trans q
  ·have bo:c<s.heap.objs.size:=by
    have e':c=z\/c=TI\/c=TO\/c=i1\/c=J:=by simpa using av
    rcases e' with q|q|q|q|q
    ·rw[q];exact as
    ·rw[q];exact Heap.lt_size L
    ·rw[q];exact Heap.lt_size Y
    ·rw[q];obtain⟨_,e1,_⟩:=h1;exact Heap.lt_size e1
    ·rw[q];obtain⟨_,e2,_⟩:=h2;exact Heap.lt_size e2
   rw[aj (OL bo)];exact(hf c av).1
 done:=by
  intro X hP hw hK hc i pins s σ H E I hf st hg;subst hP hw hK;obtain⟨S,L,⟨x0,y0,Y⟩,h1,h2⟩:=st;obtain⟨xs,ys,M,O,b1⟩:=hg;obtain⟨its,rv,p,_⟩:=I.tuple M;obtain⟨Z,al,p2,_⟩:=I.list O;have l1:=rv.length;have l2:=al.length
  have he:its.toArray[i]?=none\/Z.toArray[i]?=none:=by
   rcases b1 with q|q
   ·exact .inl (by simp;lia)
   ·exact .inr (by simp;lia)
  exact BS (I.ok.hd hc) D S L Y h1 h2 p p2.isList he fun h' hk=>⟨rfl,I.turnedL (t':=s.toks) (ch:=[z,TI,TO,i1,J]) (fun c o hb q=>
   hk c o (fun F=>hb (by simp[F])) (fun F=>hb (by simp[F])) (fun F=>hb (by simp[F])) (fun F=>hb (by simp[F])) q) hf⟩
 self:=fun A i s Q E st h=>Rn st.1 h
def Gq(K:PySem.W.Frag)(ta:TA):TI:=fun σ H R=>ta σ H fun vs H1=>∃a b xs ys,vs=[.ref a,.ref b]/\gI K H1 a xs/\aI K H1 b ys/\R (BX K a b) H1
theorem Fs{X:Cx}{e J:OH}{ta:TA}{p pos tpos:Q2}{L:List OH}{kk:Nat}(hg:Gl X "zip")(hm:X.mg "zip"=none)(ha:PA X [e,J] ta)(hs:starEach [e,J] X.env=(false,eval e X.env)::starEach [J] X.env:=by rfl)(S:(backTo pos (starEach [J] X.env)).any (·.1)=false:=by rfl):
  PI X (.Tuple L kk tpos) (.Call (.Name "zip" p) [e,J] [] pos) (Gq X.K ta):=by
 intro pins s σ H R I h;refine UC (jm I hg hm ve (PyProof.Rows.callWith_type1 (dQ (ha pos pins s σ H _ I h) fun us F ⟨vs,H1,M,r1,q1⟩=>?_) hs S));obtain⟨a,b,xs,ys,ex,Y,Z,q⟩:=q1;subst ex;cases r1 with
 |cons r rr=>
  cases rr with
  |cons r' rr=>
   cases rr;cases r;cases r';obtain⟨its,rv,p1,_⟩:=M.tuple Y;obtain⟨as,av,p2,_⟩:=M.list Z;have la:a<F.heap.objs.size:=by obtain⟨o,e,_⟩:=p1;exact Heap.lt_size e
   have lb:b<F.heap.objs.size:=p2.lt;refine BW p1 p2.isList fun h' hz al an h1 h2 hk=>Rn hz ?_;have I2:Inv X pins σ H1 {F with heap:=h'}:=M.kept (t':=F.toks) hk;refine⟨F.heap.objs.size+4,[F.heap.objs.size+4,F.heap.objs.size+2,F.heap.objs.size+3,F.heap.objs.size,F.heap.objs.size+1],_,_,H1,rfl,I2,Fq (PySem.W.ktu_apart F.heap.objs.size a b la lb),⟨hz,al,⟨_,_,an⟩,h1,h2⟩,fun c ar=>?_,q⟩
   have O:F.heap.objs.size<=c:=by
    have e':c=F.heap.objs.size+4\/c=F.heap.objs.size+2\/c=F.heap.objs.size+3\/c=F.heap.objs.size\/c=F.heap.objs.size+1:=by simpa using ar
    rcases e' with z|z|z|z|z<;>rw[z]<;>first|exact NX _|exact P0 _ _
   exact M.fpOk O (M.hok.fresh O)
local macro_rules|`(tactic|walk_at $s:str)=>do
 let t ←match s.getString with|"rd"=>pure "# we C8 xy su pi tC fX y_ IJ ss rI rU EG GM Bv EU C6 IA C7 si Bu xx IB tB xA fS sC GO sB wj Jf HB IP xI nR E7 Fare.wC Fare.aS Fare.bW BD Dh xz IS nW Fare.Ff L2.start List.replicate Nat.reduceSub Nat.sub_self List.map_cons List.map_nil List.length_cons List.length_nil List.cons_append List.nil_append List.append_nil List.getElem?_cons_zero List.getElem?_cons_succ Fare.HH Fare.DI Option.some.injEq _root_.exists_eq_left' _root_.exists_eq_left _root_.exists_and_left _root_.exists_eq' L2.V.int.injEq L2.V.bl.injEq L2.V.str.injEq L2.V.ref.injEq Fare.AZ Fare.A0 Fare.A1 Fare.lZ Fare.l_ _root_.true_and _root_.decide_eq_true_eq List.cons.injEq _root_.and_true _root_.exists_const"|_=>Lean.Macro.throwUnsupported
 `(tactic|fail $(Lean.Syntax.mkStrLit ("~"++t)))
section
def fT(c:Nat):Bool:=FM.small c||dE c||c==32||c==10||c==63
theorem tI(n:Nat):fT (bM n)=true:=by
 unfold bM fT FM.small dE;split
 ·rename_i h;simp only[Pa,NW,decide_eq_true_eq,beq_iff_eq];lia
 ·rfl
theorem oJ{c:Nat}(h:fT c=true):c<128:=by
 unfold fT FM.small dE at h;simp only[Pa,NW,decide_eq_true_eq,beq_iff_eq] at h;lia
theorem Co:∀c,c<128->fT c=true->Unicode.isAlpha c=FM.small c:=by decide+kernel
theorem Cp:∀c,c<128->fT c=true->Unicode.isAlnum c=(FM.small c||dE c):=by decide+kernel
theorem Cq:∀c,c<128->fT c=true->Unicode.isDigit c=dE c:=by decide+kernel
theorem tJ{f g:Nat->Bool}:∀{l:List Nat},(∀c∈l,f c=g c)->l.all f=l.all g
 |[],_=>rfl
 |c::l,h=>by
  rw[Qc,Qc,h c (Oi ..),tJ fun d hd=>h d (N5 _ hd)]
theorem zU{l:List Nat}(h:l.all fT=true):Txt.isalnum (St l)=(decide (l≠[])&&gu l):=by
 unfold Txt.isalnum gu;rw[gj];have:(St l).cps.all Unicode.isAlnum=l.all Unicode.isAlnum:=by show l.toArray.all _=_;simp
 rw[this,tJ fun c z=>Cp c (oJ (OM.mp h c z)) (OM.mp h c z)];cases l<;>simp
theorem zV{l:List Nat}(h:l.all fT=true):Txt.isdigit (St l)=(l.all dE&&decide (l≠[])):=by
 unfold Txt.isdigit;rw[gj];have:(St l).cps.all Unicode.isDigit=l.all Unicode.isDigit:=by show l.toArray.all _=_;simp
 rw[this,tJ fun c z=>Cq c (oJ (OM.mp h c z)) (OM.mp h c z)];cases l with
 |nil=>rfl
 |cons c l=>simp[Bool.and_comm]
theorem vS:∀(ls:List (List Nat)),TL.joinL [] ls=ls.flatten
 |[]=>rfl
 |[p]=>by simp[TL.joinL]
 |p::q::r=>by
  show p++([]++TL.joinL [] (q::r))=_;rw[Pd,vS (q::r)];rfl
theorem rT{x y:N_}(h:TL.tl x=TL.tl y):x=y:=by
 obtain⟨a⟩:=x;obtain⟨b⟩:=y;congr 1;exact Array.toList_inj.mp h
section
variable{P:N3}{w:Oh}{K:PySem.W.Frag}{mg:N_->Option NU}{base:Heap}{A:cX}
inductive zW(vs:List V)(H:Hp)(Q:VK)(E:XK):Prop|mk(b:Nat)(_:vs=[.int b])(_:b<256)(_:Q (.str (St [bM b])) H)
def FE:N_:="abcdefghijklmnopqrstuvwxyz"
def HY:N_:="0123456789"
theorem zX(b:Nat)(h1:97<=b)(h2:b<=122):AG (N_.ofString "abcdefghijklmnopqrstuvwxyz").cps.toList ((b:Int)-97)=some b:=by
 obtain⟨j,rfl⟩:∃j,b=97+j:=⟨b-97,by lia⟩;rw[show(((97+j:Nat):Int)-97)=(j:Int) by lia];refine rO ?_;have:∀j:Nat,j<26->FE.cps.toList[j]?=some (97+j):=by decide+kernel
 exact this j ()
theorem Cr(b:Nat)(h1:48<=b)(h2:b<=57):AG (N_.ofString "0123456789").cps.toList ((b:Int)-48)=some b:=by
 obtain⟨j,rfl⟩:∃j,b=48+j:=⟨b-48,by lia⟩;rw[show(((48+j:Nat):Int)-48)=(j:Int) by lia];refine rO ?_;have:∀j:Nat,j<10->HY.cps.toList[j]?=some (48+j):=by decide+kernel
 exact this j ()
theorem zY:ax ["byte"] ["byte"] (ap vq):=axo
theorem Bb:(N_.ofString " ")=St [32]:=by decide+kernel
theorem D5:(N_.ofString "\n")=St [10]:=by decide+kernel
theorem Jp:(N_.ofString "?")=St [63]:=by decide+kernel
theorem zZ(T:Txt K mg A):fK P w K mg base 1 "sign_of" ["byte"] zW:=by
 obtain⟨f,fd,F,z⟩:=T.MK;refine⟨f,fd,z,F.kp,F.binds,?_⟩;refine F.ok zY (fun vs H Q E h=>?_) (fun I L outer s H vs Q E M h=>?_)
 ·obtain⟨b,rfl,_⟩:=h;rfl
 ·obtain⟨b,rfl,hb,k⟩:=h
  refine⟨_,(ae (bc (kQ fi fi ao (pv 0) ao) (ak (au (AJ wq (DH T.Mj) (aD bO (pv 0) ao) (fun _ _=>rfl)))) aG)
   (ae (bc (kQ fi fi ao (pv 0) ao) (ak (au (AJ wq (DH T.Ml) (aD bO (pv 0) ao) (fun _ _=>rfl)))) aG)
   (ae (bc (hG fB (pv 0) ao (iC _)) (ak (au de)) aG)
   (ae (bc (hG fB (pv 0) ao (iC _)) (ak (au de)) aG)
   (ak (au de)))))),?_⟩
  have e:bM b=if (97<=b/\b<=122)\/(48<=b/\b<=57)\/b=32\/b=10 then b else 63:=rfl
  walk_at "rd";rw[Bb,D5,Jp]
  have own:∀c,c=b->((97<=b/\b<=122)\/(48<=b/\b<=57)\/b=32\/b=10)->Q (.str (St [c])) H:=fun c J h=>by
   rw[if_pos h] at e;rw[J,<-e];exact k
  have last:¬((97<=b/\b<=122)\/(48<=b/\b<=57)\/b=32\/b=10)->Q (.str (St [63])) H:=fun h=>by
   rw[if_neg h] at e;rw[<-e];exact k
  repeat' (first|refine qS (fun _=>?_) (fun _=>?_))
  all_goals first
   |(exfalso;exact N2 (by assumption))
   |exact⟨by decide+kernel,b,zX b () (),own b rfl ()⟩
   |exact⟨by decide+kernel,b,Cr b () (),own b rfl ()⟩
   |exact own 32 () ()
   |exact own 10 () ()
   |exact last ()
inductive z9(K:PySem.W.Frag)(vs:List V)(H:Hp)(Q:VK)(E:XK):Prop|mk(a:Addr)(ns:List Nat)(_:vs=[.ref a])(_:aI K H a (ns.map fun n=>V.int (n:Nat)))(_:(∀n∈ns,n<256))(_:ns.length<=100000)(_:∀H':Hp,Same H H'->Q (.str (St (ns.map bM))) H')
theorem tK:ax ["row","byte"] ["row"] (ap vt):=axo
theorem z_(ns:List Nat):Txt.join (N_.ofString "") (ns.map fun n=>St [bM n])=St (ns.map bM):=by
 refine rT ?_;rw[TL.join_eq,TL.tl_join];have z:TL.tl (N_.ofString "")=[]:=by decide+kernel
 rw[z,vS,On];show((ns.map fun n=>[bM n]).flatten)=ns.map bM
 induction ns with
 |nil=>rfl
 |cons n ns F=>
  rw[Oo,QJ,F];rfl
theorem j3(T:Txt K mg A):fK P w K mg base 2 "text_of" ["row"] (z9 K):=by
 obtain⟨f,fd,F,O⟩:=T.ML;obtain⟨f_sign_of,fd_sign_of,m_sign_of,k_sign_of,b_sign_of,G_sign_of⟩:=zZ (P:=P) (w:=w) (base:=base) T;have nd:=tK.nd;refine⟨f,fd,O,F.kp,F.binds,?_⟩;refine F.ok tK (fun vs H Q E h=>?_) (fun S Ar outer s H vs Q E Y h=>?_)
 ·obtain⟨a,ns,rfl,_⟩:=h;rfl
 ·obtain⟨a,ns,rfl,I,hb,hl,J⟩:=h;refine⟨_,(ak (au (E6 de (iE rfl nd (dj (pv 0)) (dn (own:=[("byte",1)]) rfl) (fun _ _ _ _ _=>(by exact(wf (i:=1) nd rfl (by first|exact Or.inl rfl|exact Or.inr rfl)))) (fun _ _ _ _ _=>(by exact fA)) (fun _ _ _ _ _=>(by exact(iY G_sign_of (Y.mono (by decide)) (by rfl) m_sign_of k_sign_of b_sign_of .nil i6 (ab (pv 1) ag)))))))),?_⟩;walk_at "rd";refine Fg (a:=a) (xs:=ns.map fun n=>V.int (n:Nat)) (fun x=>match x with|.int n=>.str (St [bM n.toNat])|_=>.non) (fun R h=>⟨_,rfl,h⟩) I (by rw[NV];lia) (fun _=>rfl) (fun x H' Z L R hR=>?_) (fun D H' hD L z=>?_)
  ·obtain⟨n,hn,rfl⟩:=Oq.mp Z;exact⟨_,rfl,n,rfl,hb n hn,hR H' (Same.refl _)⟩
  ·have M:(ns.map fun n=>V.int (n:Nat)).map (fun x=>match x with|.int n=>V.str (St [bM n.toNat])|_=>V.non)=(ns.map fun n=>St [bM n]).map V.str:=by
    rw[On,On];rfl
   rw[M] at z;refine⟨D,rfl,ns.map fun n=>St [bM n],.inl (aI.of z),?_,?_⟩
   ·have e0:(N_.ofString "").length=0:=by decide+kernel
    rw[e0,Nat.mul_zero,On]
    have:((ns.map ((fun x=>x.length) ∘ fun n=>St [bM n])).sum)=ns.length:=by
     clear I hb hl J z M
     induction ns with
     |nil=>rfl
     |cons n ns ih=>
      rw[Oo,QR,ih,Ol];show 1+ns.length=_;lia
    rw[this];lia
   ·rw[z_];exact J H' L
inductive tL(vs:List V)(H:Hp)(Q:VK)(E:XK):Prop|mk(l:List Nat)(_:vs=[.str (St l)])(_:l.all fT=true)(_:l.length<=100000)(_:Q (.bl (dS l)) H)
theorem Aa:ax ["text"] ["text"] (ap vw):=axo
def pR:List Nat->Bool
 |[]=>false
 |c::_=>FM.small c
theorem Ab(l:List Nat):dS l=(decide (l.length<=12)&&pR l&&gu l):=by cases l<;>rfl
theorem Ac{l:List Nat}(h:l.all fT=true):Txt.isalpha (zA (St l) none (some 1))=pR l:=by
 cases l with
 |nil=>exact(by decide+kernel:Txt.isalpha (zA (St []) none (some 1))=pR [])
 |cons c l=>
  have z:fT c=true:=(O9.mp (Qc ▸ h)).1
  have e:zA (St (c::l)) none (some 1)=St [c]:=by
   refine rT ?_;unfold zA;have F:HT.sIx (St (c::l)).length (St (c::l)).length (some 1)=min 1 (St (c::l)).length:=HT.sIx_nat _ _ 1;rw[HT.sIx_none,F];show((c::l).drop 0).take (min 1 (St (c::l)).length-0)=[c];rw[gj,RJ,Ol,Ph ()];rfl
  rw[e];unfold Txt.isalpha;show(decide (0<1)&&#[c].all Unicode.isAlpha)=_;have:#[c].all Unicode.isAlpha=Unicode.isAlpha c:=by simp
  rw[this,Co c (oJ z) z];rfl
theorem iQ(T:Txt K mg A):fK P w K mg base 1 "is_name" ["text"] tL:=by
 obtain⟨f,fd,F,L⟩:=T.MM;refine⟨f,fd,L,F.kp,F.binds,?_⟩;refine F.ok Aa (fun vs H Q E h=>?_) (fun M O outer s H vs Q E S h=>?_)
 ·obtain⟨l,rfl,_⟩:=h;rfl
 ·obtain⟨l,rfl,hs,hl,z⟩:=h;refine⟨_,(ak (au (fZ (nQ fi (az jP (by rfl) T.Ks bU (ab (pv 0) ag)) (aE T.Mm) (iC _)) (fZ (DC PySem.F.slot_str_isalpha PySem.F.type_str_isalpha zy (fC HC (pv 0) nS (dO ao))) (gq (DC PySem.F.slot_str_isalnum PySem.F.type_str_isalnum zz (pv 0))))))),?_⟩;walk_at "rd";have J:(St l).length<=sizeLine:=by rw[gj];exact Od hl (by decide)
  have e:=Ab l;rw[<-Ac hs] at e;refine⟨J,qS (fun h1=>⟨J,?_⟩) (fun h1=>?_)⟩
  ·have h1:l.length<=12:=by rw[gj] at h1;lia
   rw[decide_eq_true h1,Op] at e;refine qS (fun h2=>?_) (fun h2=>?_)
   ·rw[h2,Op] at e;rw[zU hs]
    have I:l≠[]:=by
     rintro rfl;exact absurd h2 (by decide+kernel)
    rw[decide_eq_true I,Op,<-e];exact z
   ·rw[Bool.not_eq_true] at h2;rw[h2,OQ] at e;rw[<-e];exact z
  ·have h1:¬l.length<=12:=by rw[gj] at h1;lia
   rw[decide_eq_false h1,OQ,OQ] at e;rw[<-e];exact z
end
end
section
local macro_rules|`(tactic|walk_at $s:str)=>do
 let t ←match s.getString with|"rd"=>pure "* we C8 xy su pi tC y_ IJ Bv C6 IA C7 si Bu xx IB Fare.Ff tB xA fS sC GO sB wj Jf HB IP xI nR E7 Fare.wC Fare.aS Fare.bW BD Dh xz IS Fare.J0 Fare.J5 Fare.J6 Fare.J7 Fare.J8 Fare.J9 Fare.J_ Fare.Ka Fare.Kb Fare.Kc Fare.HK Fare.Jh Fare.Ji Fare.Gm Fare.Gn Fare.Go Fare.Gp Fare.Jj Fare.Fh Fare.HL Fare.Fi Fare.Fj Fare.Jk Fare.Fk Fare.zD L2.start List.replicate Nat.reduceSub Nat.sub_self List.map_cons List.map_nil List.length_cons List.length_nil List.cons_append List.nil_append List.append_nil Fare.HH Fare.DI _root_.true_and"|_=>Lean.Macro.throwUnsupported
 `(tactic|fail $(Lean.Syntax.mkStrLit ("~"++t)))
section
variable{P:N3}{w:Oh}{K:PySem.W.Frag}{mg:N_->Option NU}{base:Heap}{A:cX}
def Ad(Pr:N1)(cls:Nat)(card:List Nat):Bool:=decide (cls<=Pr.most)&&(decide (dC Pr.card=[])||decide (dC Pr.card=card))
inductive Cs(A:cX)(vs:List V)(H:Hp)(Q:VK)(E:XK):Prop|mk(p q:Addr)(k:Nat)(Pr:N1)(a b cls:Nat)(card:List Nat)(_:vs=[.ref p,.ref q])(_:aa A H p k Pr)(_:ah A H q a b cls card)(_:Q (.bl (Ad Pr cls card)) H)
theorem Ct:ax ["product","stay"] ["product","stay"] (ap ye):=axo
theorem Cu(T:Txt K mg A):fK P w K mg base 1 "is_for" ["product","stay"] (Cs A):=by
 obtain⟨f,fd,F,I⟩:=T.MO;refine⟨f,fd,I,F.kp,F.binds,?_⟩;refine F.ok Ct (fun vs H Q E h=>?_) (fun M Ar outer s H vs Q E hr h=>?_)
 ·obtain⟨p,q,k,Pr,a,b,cls,card,rfl,_⟩:=h;rfl
 ·obtain⟨p,q,k,Pr,a,b,cls,card,rfl,J,L,z⟩:=h;refine⟨_,(ak (au (fZ (nQ fi (fJ (pv 1) rfl) (fJ (pv 0) rfl) (iC _)) (gq (Az (nQ fB (fJ (pv 0) rfl) de (iC _)) (gq (nQ fB (fJ (pv 0) rfl) (fJ (pv 1) rfl) (iC _)))))))),?_⟩;unfold Ad at z;have O:=J.most_ T;have S:=J.card_ T;have Y:=L.class_ T;have Z:=L.card_ T;have f5:=nk;clear I;walk_at "rd";clear O S Y Z f5;refine qS (fun h1=>qS (fun h2=>?_) (fun h2=>?_)) (fun h1=>?_)
  ·have h1:cls<=Pr.most:=by lia
   have h2:dC Pr.card=[]:=pG.mp h2;rw[decide_eq_true h1,decide_eq_true h2] at z;exact z
  ·have h1:cls<=Pr.most:=by lia
   have h2:¬dC Pr.card=[]:=fun q=>h2 (pG.mpr q);rw[decide_eq_true h1,decide_eq_false h2] at z
   have e:decide (St (dC Pr.card)=St card)=decide (dC Pr.card=card):=by
    by_cases h:dC Pr.card=card
    ·rw[decide_eq_true h,h];simp
    ·rw[decide_eq_false h,decide_eq_false fun q=>h (pG.mp q)]
   rw[e];exact z
  ·have h1:¬cls<=Pr.most:=by lia
   rw[decide_eq_false h1] at z;exact z
inductive Cv(A:cX)(vs:List V)(H:Hp)(Q:VK)(E:XK):Prop|mk(p:Addr)(k:Nat)(Pr:N1)(m:Nat)(_:vs=[.ref p,.int m])(_:aa A H p k Pr)(_:Pr.holds.ok=true)(_:Q (.int (OZ Pr m)) H)
theorem Cw:ax ["product","minute"] ["product","minute"] (ap yf):=axo
theorem vT(T:Txt K mg A):fK P w K mg base 1 "end_of" ["product","minute"] (Cv A):=by
 obtain⟨f,fd,F,L⟩:=T.MQ;refine⟨f,fd,L,F.kp,F.binds,?_⟩;refine F.ok Cw (fun vs H Q E h=>?_) (fun M S outer s H vs Q E Y h=>?_)
 ·obtain⟨p,k,Pr,m,rfl,_⟩:=h;rfl
 ·obtain⟨p,k,Pr,m,rfl,I,O,z⟩:=h
  refine⟨_,(ae (bc (hG ph (fJ (pv 0) rfl) fk (iC _)) (ak (au (aD b0 (pv 1) (fJ (pv 0) rfl)))) aG)
   (ak (au (aD b0 (aD b0 (pv 1) ao) (aD zh (aD bO (aD bO (fJ (pv 0) rfl) (pv 1)) ao) (aE T.Kx)))))),?_⟩
  have Z:=I.till_ T;have f2:=I.minutes_ T;walk_at "rd";unfold OZ at z;cases J:Pr.holds with
  |mins n=>
   rw[J] at z;unfold vE vD;walk_at "rd";exact qS (fun _=>z) (fun q=>absurd trivial q)
  |till t=>
   rw[J] at z O;unfold vE vD;walk_at "rd";refine qS (fun q=>by cases q) (fun _=>⟨by decide,?_⟩)
   have e:((m+((t+Rl-SQ m-1)%Rl+1):Nat):Int)=(m:Int)+1+((t:Int)-m-1)%1440:=by
    unfold SQ Rl;lia
   rw[<-e];exact z
end
end
section
theorem lL(a b:Nat)(p:N1):∀(k d:Nat),dh a b p d (k+1)=dh a b p d k++(if dG a b p (d+k)=true then[db a b p (d+k)] else[])
 |0,d=>by
  show(if dG a b p d=true then[db a b p d] else[])++[]=[]++_;rw[OC,Pd];rfl
 |k+1,d=>by
  rw[ge,lL a b p k (d+1),ge,Oz,show d+1+k=d+(k+1) by lia]
structure aT (H:Hp) (q:Addr) (l:List (Nat×Nat)):Prop where
 ex:∃ts:List Addr,H q=some (.lst (ts.map V.ref))/\ts.length=l.length/\∀(i:Nat)(t:Addr)(x:Nat×Nat),ts[i]?=some t->l[i]?=some x->H t=some (.tup [.int x.1,.int x.2])
theorem aT.nil{H:Hp}{q:Addr}(h:H q=some (.lst [])):aT H q []:=⟨[],h,rfl,fun i t x h=>by simp at h⟩
theorem aT.keep{H H':Hp}{q:Addr}{l:List (Nat×Nat)}(h:aT H q l)(s:Same H H'):aT H' q l:=by
 obtain⟨z,h1,h2,F⟩:=h;exact⟨z,s _ _ h1,h2,fun i t x I J=>s _ _ (F i t x I J)⟩
theorem aT.snoc{H:Hp}{q t:Addr}{l:List (Nat×Nat)}{x y:Nat}{xs:List V}(h:aT H q l)(L:H q=some (.lst xs))(ht:H t=none):aT (upd (upd H t (.tup [.int x,.int y])) q (.lst (xs++[.ref t]))) q (l++[(x,y)]):=by
 obtain⟨I,h1,h2,h3⟩:=h;have M:q≠t:=aw L ht;rw[h1] at L;cases L;refine⟨I++[t],by rw[ac,Oj];rfl,by simp[h2],fun i u z F J=>?_⟩
 have hi:i<I.length+1:=by
  have:=(N4.mp F).1;simpa using this
 by_cases O:i<I.length
 ·rw[O7 O] at F;rw[O7 ()] at J;have S:=h3 i u z F J;have Y:u≠t:=aw S ht;have Z:u≠q:=b8 S h1 (by intro q;cases q);rw[aj Z,aj Y];exact S
 ·have al:i=I.length:=by lia
  subst al;rw[OJ (NX _),Ri] at F;rw[h2,OJ (NX _),Ri] at J;cases F;cases J;rw[aj (fun z=>M z.symm),ac]
def wR(Pr:N1)(a b cls:Nat)(card:List Nat):List (Nat×Nat):=if Ad Pr cls card=true then dh a b Pr (a/1440) (dt a b Pr) else[]
theorem D6{ta:TA}{g:TG}{tb:TS}{D:kM}{σ:L2.St}{H:Hp}(lo:Int)(n:Nat)(h:∀R:It->Hp->Prop,R (qR lo n) H->xD ta σ H R)(F:∃W:Nat->Nat->L2.St->Hp->Prop,(∃m,W 0 m σ H)/\∀i m σ H,W i m σ H->((qR lo n).stop i H/\D.nx σ H)\/((qR lo n).go i H/\∃N:L2.St->Hp->Prop,(∀σ' H',N σ' H'->∃z,z<m/\W (i+1) z σ' H')/\∀x H',(qR lo n).yld i H x H'->g x σ H' fun I H2=>tb {D with nx:=N,ct:=N,bk:=D.nx} I H2)):
  Bx (xD ta) g tb D σ H:=h _ F
theorem Bc{xs:List Nat}{z:Int}{j:Nat}{v:Nat}(e:z=(j:Int))(h:xs[j]?=some v):AG xs z=some v:=by
 rw[e];exact rO h
theorem Ae(a b:Nat)(p:N1):∀(k d:Nat),(dh a b p d k).length<=k
 |0,d=>NX _
 |k+1,d=>by
  rw[ge,Of];have:=Ae a b p k (d+1);split<;>simp<;>lia
section
variable{P:N3}{w:Oh}{K:PySem.W.Frag}{mg:N_->Option NU}{base:Heap}{A:cX}
inductive yB(A:cX)(vs:List V)(H:Hp)(Q:VK)(E:XK):Prop|mk(p q:Addr)(k:Nat)(Pr:N1)(a b cls:Nat)(card:List Nat)(_:vs=[.ref p,.ref q])(_:aa A H p k Pr)(_:ah A H q a b cls card)(_:Pr.bounded=true)(_:Pr.days.length=7)(_:a<=b)(_:b<=10000000)(_:∀(H':Hp)(r:Addr),H r=none->Same H H'->aT H' r (wR Pr a b cls card)->Q (.ref r) H')
theorem qE:ax ["product","stay","spans","before","day","begin","end"] ["product","stay"] (ap sL):=axo
theorem dvx{d a:Nat}(h:¬d=0):(((d:Int)-1)/1440+1-(a:Int)/1440).toNat=(d-1)/1440+1-a/1440:=by
 obtain⟨e,rfl⟩:=Nat.exists_eq_succ_of_ne_zero h;rw[show((e.succ:Nat):Int)-1=(e:Int) by lia];exact Int.toNat_sub (e/1440+1) (a/1440)
theorem dvy(d a:Nat):(((d:Int)-1)/1440+1-(a:Int)/1440).toNat<=(d-1)/1440+1-a/1440:=by
 by_cases h:d=0
 ·subst h;have:(((0:Nat):Int)-1)/1440+1-(a:Int)/1440<=0:=by lia
  rw[Int.toNat_of_nonpos this];exact Nat.zero_le _
 ·exact Nat.le_of_eq (dvx h)
end
end
section
theorem rV{K:PySem.W.Frag}{ta tv:TE}{f:N_}{p C dx:Addr}{fs:List (N_×V)}{v:V}{D:kM}{σ:L2.St}{H:Hp}(c:rN K C)(n:aX K C f)(hv:∀R:VK,R v H->tv σ H R)(ha:∀R:VK,R (.ref p) H->ta σ H R)(h:H p=some (.ins C dx fs))(hl:fs.length<1000)(q:D.nx σ (upd H p (.ins C dx (bf f v fs)))):ER K ta tv f D σ H:=hv _ (ha _ ⟨p,C,dx,fs,rfl,h,c,n,hl,q⟩)
inductive oK(P:N3)(w:Oh)(K:PySem.W.Frag)(mg:N_->Option NU)(base:Heap)(k:Nat)(C:Addr)(ps:List N_)(sp:Sp):Prop|mk(f fd:_)(_:Mk K C f)(_:Binds K fd ps [])(_:jO P w K mg base CZ k f fd ps sp)
theorem fF{f:N_}{v:V}{fs:List (N_×V)}{n:Nat}(h:fs.length<=n):(bf f v fs).length<=n+1:=Od (kR f v fs) ()
section
variable{P:N3}{w:Oh}{K:PySem.W.Frag}{mg:N_->Option NU}{base:Heap}{A:cX}
inductive FF(A:cX)(vs:List V)(H:Hp)(Q:VK)(E:XK):Prop|mk(p dx:Addr)(a b cls:Nat)(card:List Nat)(_:vs=[.ref p,.int a,.int b,.int cls,.str (St card)])(_:H p=some (.ins A.Stay dx []))(_:∀H':Hp,ah A H' p a b cls card->(∀c o,H c=some o->c≠p->H' c=some o)->Q .non H')
theorem FG:ax ["self","begin","end","car_class","card"] ["self","begin","end","car_class","card"] (ap ku):=axo
theorem rW(T:Txt K mg A):oK P w K mg base 1 A.Stay ["self","begin","end","car_class","card"] (FF A):=by
 obtain⟨f,fd,M,F⟩:=T.Mx;refine⟨f,fd,M,F.binds,?_⟩;refine F.ok FG (fun vs H Q E h=>?_) (fun I O outer s H vs Q E S h=>?_)
 ·obtain⟨p,dx,a,b,cls,card,rfl,_⟩:=h;rfl
 ·obtain⟨p,dx,a,b,cls,card,rfl,J,L⟩:=h
  refine⟨_,(ae (sA (pv 0) (pv 1) rfl)
   (ae (sA (pv 0) (pv 2) rfl)
   (ae (sA (pv 0) (pv 3) rfl)
   (ak (sA (pv 0) (pv 4) rfl))))),?_⟩
  dsimp only[we,bW,aS];refine rV (p:=p) (dx:=dx) (fs:=[]) T.KC T.Lu (fun R q=>⟨_,rfl,q⟩) (fun R q=>⟨_,rfl,q⟩) J (by decide) ?_;dsimp only[we,bW,aS];refine rV (p:=p) (dx:=dx) T.KC T.Lv (fun R q=>⟨_,rfl,q⟩) (fun R q=>⟨_,rfl,q⟩) ac (O8 (fF (NX 0)) (by decide)) ?_;dsimp only[we,bW,aS];refine rV (p:=p) (dx:=dx) T.KC T.Lw (fun R q=>⟨_,rfl,q⟩) (fun R q=>⟨_,rfl,q⟩) ac (O8 (fF (fF (NX 0))) (by decide)) ?_;dsimp only[we,bW,aS];refine rV (p:=p) (dx:=dx) T.KC T.Lx (fun R q=>⟨_,rfl,q⟩) (fun R q=>⟨_,rfl,q⟩) ac (O8 (fF (fF (fF (NX 0)))) (by decide)) ?_;refine L _ ⟨dx,_,ac,?_,?_,?_,?_⟩ (fun c o e z=>?_)
  ·show OV _ _=_;rw[dk,if_neg (by decide+kernel),dk,if_neg (by decide+kernel),dk,if_neg (by decide+kernel),dk,if_pos rfl]
  ·show OV _ _=_;rw[dk,if_neg (by decide+kernel),dk,if_neg (by decide+kernel),dk,if_pos rfl]
  ·show OV _ _=_;rw[dk,if_neg (by decide+kernel),dk,if_pos rfl]
  ·show OV _ _=_;rw[dk,if_pos rfl]
  ·rw[aj z,aj z,aj z,aj z];exact e
end
end
section
variable{K:PySem.W.Frag}{D:kM}{σ:L2.St}{H:Hp}{Q:VK}{v u:V}{B:Bool->Hp->Prop}{R:List V->Hp->Prop}{ta tb tc te:TE}{tA tA':TT}{t u':TS}{g:TG}{r r':R2}{i j:Int}{x y:N_}{a0 a1 a2 a3 a4 a5 a6 a7 a8 a9 a10 a11 a12 a13:Option V}
theorem ci(h:t {D with nx:=u' D} σ H):we t u' D σ H:=h
theorem bg(h:D.nx σ H):xy D σ H:=h
theorem bh(h:te σ H fun _ H1=>D.nx σ H1):xz te D σ H:=h
theorem cj(h:te σ H D.rt):Bv te D σ H:=h
theorem ck{c:TT}(h:c σ H fun b H1=>if b=true then t D σ H1 else u' D σ H1):C8 c t u' D σ H:=h
theorem cp(h:te σ H fun x H1=>g x σ H1 D.nx):xA te g D σ H:=h
theorem h_(h:Q v H):tC v σ H Q:=h
theorem dY(h:ta σ H fun x H1=>tb σ H1 fun y H2=>r x y H2 Q):y_ r ta tb σ H Q:=h
theorem dZ{r:V->Hp->VK->Prop}(h:ta σ H fun x H1=>r x H1 Q):IJ r ta σ H Q:=h
theorem bi(h:te σ H fun x H'=>∃k,x=.bl k/\B k H'):su te σ H B:=h
theorem d3(h:te σ H fun x H'=>∃k,x=.bl k/\B k H'):tB te σ H B:=h
theorem cq(h:tA σ H fun c H1=>if c=true then tA' σ H1 B else B false H1):C6 tA tA' σ H B:=h
theorem d4(h:tA σ H fun c H1=>if c=true then B true H1 else tA' σ H1 B):IA tA tA' σ H B:=h
theorem cr(h:tA σ H fun c H1=>B (!c) H1):C7 tA σ H B:=h
theorem bj(h:ta σ H fun x H1=>∃c,x=.bl c/\if c=true then tb σ H1 Q else Q (.bl false) H1):si ta tb σ H Q:=h
theorem cu(h:ta σ H fun x H1=>∃c,x=.bl c/\if c=true then Q (.bl true) H1 else tb σ H1 Q):Bu ta tb σ H Q:=h
theorem bm(h:ta σ H fun x H1=>∃c,x=.bl c/\Q (.bl (!c)) H1):xx ta σ H Q:=h
theorem d5(h:tA σ H fun c H1=>if c=true then ta σ H1 Q else tb σ H1 Q):IB tA ta tb σ H Q:=h
theorem bn{sp:Sp}{dvs:List V}{E:XK}{t:TA}(h:t σ H fun vs H1=>sp (vs++dvs) H1 Q E):sC sp dvs E t σ H Q:=h
theorem d6{r:List V->Hp->VK->Prop}{t:TA}(h:t σ H fun vs H1=>r vs H1 Q):GO r t σ H Q:=h
theorem cw(h:R [] H):wj σ H R:=h
theorem bp{z:TA}(h:ta σ H fun x H1=>z σ H1 fun xs H2=>R (x::xs) H2):sB ta z σ H R:=h
theorem cx{f:N_}(h:ta σ H fun x H1=>dJ K f x H1 Q):BB K ta f σ H Q:=h
theorem cy{t:TA}(h:t σ H fun xs H1=>xs.length<=sizeLine/\∀p,H1 p=none->Q (.ref p) (upd H1 p (.lst xs))):BD t σ H Q:=h
theorem cz{t:TA}(h:t σ H fun xs H1=>xs.length<=sizeLine/\∀p,H1 p=none->Q (.ref p) (upd H1 p (.tup xs))):Dh t σ H Q:=h
theorem d9{T:String}{r:V->List V->Hp->VK->Prop}{t:TA}(h:ta σ H fun x H1=>IR K T x H1/\t σ H1 fun xs H2=>r x xs H2 Q):IS K T r ta t σ H Q:=h
theorem d_{r:V->List V->Hp->VK->Prop}(h:ta σ H fun x H1=>(∃a,x=.str a)/\r x [] H1 Q):Jf r ta σ H Q:=h
theorem ee{r:V->List V->Hp->VK->Prop}(h:ta σ H fun x H1=>(∃a,x=.str a)/\te σ H1 fun y H2=>r x [y] H2 Q):HB r ta te σ H Q:=h
theorem er{r:V->Option Int->Option Int->Hp->VK->Prop}{tl th:TO}(h:te σ H fun x H1=>tl σ H1 fun l H2=>th σ H2 fun u z=>r x l u z Q):IP r te tl th σ H Q:=h
theorem aK{O:Option Int->Hp->Prop}(h:O none H):nR σ H O:=h
theorem br{O:Option Int->Hp->Prop}(h:te σ H fun x H1=>∃i,x=.int i/\O (some i) H1):xI te σ H O:=h
theorem bt{C:Addr}{sp:Sp}{dvs:List V}{E:XK}{t:TA}(h:t σ H fun vs H1=>∀x dx,H1 x=none->H1 dx=none->dx≠x->sp (.ref x::(vs++dvs)) (upd (upd H1 dx (.own x)) x (.ins C dx [])) (fun v H2=>v=.non/\Q (.ref x) H2) E):AF C sp dvs E t σ H Q:=h
theorem bu{C:Addr}{m:N_}{sp:Sp}{dvs:List V}{E:XK}{t:TA}(h:ta σ H fun x H1=>∃a dx fs,x=.ref a/\H1 a=some (.ins C dx fs)/\fs.lookup m=none/\t σ H1 fun vs H2=>sp (x::(vs++dvs)) H2 Q E):F9 C m sp dvs E ta t σ H Q:=h
theorem yC{n:Nat}{F:IE}(e:σ[n]?=some (some v))(h:te σ H fun y H1=>F v y H1 fun z H2=>D.nx (σ.set n (some z)) H2):II n te F D σ H:=⟨v,e,h⟩
theorem cA{f:Int->Int->Int}(h:Q (.int (f i j)) H):JN f (.int i) (.int j) H Q:=⟨i,j,rfl,rfl,h⟩
theorem cB(h:B true H):GW σ H B:=h
theorem bv{G:L2.St->Hp->Prop}(h:G σ H):IF [] σ H G:=⟨rfl,h⟩
theorem aQ{G:L2.St->Hp->Prop}{z:EF}{vs:List V}(h:g v σ H fun σ' H'=>z vs σ' H' G):F3 g z (v::vs) σ H G:=⟨v,vs,rfl,h⟩
theorem bw{to z:TE}{t:EK}{G:L2.St->Hp->Prop}(h:to σ H fun o H1=>z σ H1 fun i H2=>t o i v H2 fun F=>G σ F):IG to z t v σ H G:=h
theorem g_(h:Q v H):fX 0 (some v::σ) H Q:=⟨v,rfl,h⟩
theorem ia(h:Q v H):fX 1 (a0::some v::σ) H Q:=⟨v,rfl,h⟩
theorem ib(h:Q v H):fX 2 (a0::a1::some v::σ) H Q:=⟨v,rfl,h⟩
theorem ie(h:Q v H):fX 3 (a0::a1::a2::some v::σ) H Q:=⟨v,rfl,h⟩
theorem ig(h:Q v H):fX 4 (a0::a1::a2::a3::some v::σ) H Q:=⟨v,rfl,h⟩
theorem ii(h:Q v H):fX 5 (a0::a1::a2::a3::a4::some v::σ) H Q:=⟨v,rfl,h⟩
theorem ij(h:Q v H):fX 6 (a0::a1::a2::a3::a4::a5::some v::σ) H Q:=⟨v,rfl,h⟩
theorem ik(h:Q v H):fX 7 (a0::a1::a2::a3::a4::a5::a6::some v::σ) H Q:=⟨v,rfl,h⟩
theorem il(h:Q v H):fX 8 (a0::a1::a2::a3::a4::a5::a6::a7::some v::σ) H Q:=⟨v,rfl,h⟩
theorem im(h:Q v H):fX 9 (a0::a1::a2::a3::a4::a5::a6::a7::a8::some v::σ) H Q:=⟨v,rfl,h⟩
theorem eA(h:Q v H):fX 10 (a0::a1::a2::a3::a4::a5::a6::a7::a8::a9::some v::σ) H Q:=⟨v,rfl,h⟩
theorem eB(h:Q v H):fX 11 (a0::a1::a2::a3::a4::a5::a6::a7::a8::a9::a10::some v::σ) H Q:=⟨v,rfl,h⟩
theorem eC(h:Q v H):fX 12 (a0::a1::a2::a3::a4::a5::a6::a7::a8::a9::a10::a11::some v::σ) H Q:=⟨v,rfl,h⟩
theorem eD(h:Q v H):fX 13 (a0::a1::a2::a3::a4::a5::a6::a7::a8::a9::a10::a11::a12::some v::σ) H Q:=⟨v,rfl,h⟩
variable{G:L2.St->Hp->Prop}
theorem g5(h:G (a0::some v::σ) H):fS 1 v (a0::a1::σ) H G:=h
theorem io(h:G (a0::a1::some v::σ) H):fS 2 v (a0::a1::a2::σ) H G:=h
theorem ip(h:G (a0::a1::a2::some v::σ) H):fS 3 v (a0::a1::a2::a3::σ) H G:=h
theorem iq(h:G (a0::a1::a2::a3::some v::σ) H):fS 4 v (a0::a1::a2::a3::a4::σ) H G:=h
theorem ir(h:G (a0::a1::a2::a3::a4::some v::σ) H):fS 5 v (a0::a1::a2::a3::a4::a5::σ) H G:=h
theorem iu(h:G (a0::a1::a2::a3::a4::a5::some v::σ) H):fS 6 v (a0::a1::a2::a3::a4::a5::a6::σ) H G:=h
theorem iw(h:G (a0::a1::a2::a3::a4::a5::a6::some v::σ) H):fS 7 v (a0::a1::a2::a3::a4::a5::a6::a7::σ) H G:=h
theorem iz(h:G (a0::a1::a2::a3::a4::a5::a6::a7::some v::σ) H):fS 8 v (a0::a1::a2::a3::a4::a5::a6::a7::a8::σ) H G:=h
theorem iA(h:G (a0::a1::a2::a3::a4::a5::a6::a7::a8::some v::σ) H):fS 9 v (a0::a1::a2::a3::a4::a5::a6::a7::a8::a9::σ) H G:=h
theorem eE(h:G (a0::a1::a2::a3::a4::a5::a6::a7::a8::a9::some v::σ) H):fS 10 v (a0::a1::a2::a3::a4::a5::a6::a7::a8::a9::a10::σ) H G:=h
theorem eF(h:G (a0::a1::a2::a3::a4::a5::a6::a7::a8::a9::a10::some v::σ) H):fS 11 v (a0::a1::a2::a3::a4::a5::a6::a7::a8::a9::a10::a11::σ) H G:=h
theorem eG(h:G (a0::a1::a2::a3::a4::a5::a6::a7::a8::a9::a10::a11::some v::σ) H):fS 12 v (a0::a1::a2::a3::a4::a5::a6::a7::a8::a9::a10::a11::a12::σ) H G:=h
theorem eI(h:G (a0::a1::a2::a3::a4::a5::a6::a7::a8::a9::a10::a11::a12::some v::σ) H):fS 13 v (a0::a1::a2::a3::a4::a5::a6::a7::a8::a9::a10::a11::a12::a13::σ) H G:=h
theorem cC(h:Q (.int (i+j)) H):ss (fun i j=>.int (i+j)) (.int i) (.int j) H Q:=⟨i,j,rfl,rfl,h⟩
theorem cD(h:Q (.int (i-j)) H):ss (fun i j=>.int (i-j)) (.int i) (.int j) H Q:=⟨i,j,rfl,rfl,h⟩
theorem eJ(h:Q (.bl (decide (i<j))) H):ss (fun i j=>.bl (decide (i<j))) (.int i) (.int j) H Q:=⟨i,j,rfl,rfl,h⟩
theorem eK(h:Q (.bl (decide (i<=j))) H):ss (fun i j=>.bl (decide (i<=j))) (.int i) (.int j) H Q:=⟨i,j,rfl,rfl,h⟩
theorem eM(h:Q (.bl (decide (j<i))) H):ss (fun i j=>.bl (decide (j<i))) (.int i) (.int j) H Q:=⟨i,j,rfl,rfl,h⟩
theorem eN(h:Q (.bl (decide (j<=i))) H):ss (fun i j=>.bl (decide (j<=i))) (.int i) (.int j) H Q:=⟨i,j,rfl,rfl,h⟩
theorem bY(c:xE i j)(h:Q (.int (i*j)) H):rI xE (fun i j=>.int (i*j)) (.int i) (.int j) H Q:=⟨i,j,rfl,rfl,c,h⟩
theorem b9(c:EM i j)(h:Q (.int (i/j)) H):rI EM (fun i j=>.int (i/j)) (.int i) (.int j) H Q:=⟨i,j,rfl,rfl,c,h⟩
theorem b9d(h:0<j)(h':j<1073741824)(z:Q (.int (i/j)) H):rI EM (fun i j=>.int (i/j)) (.int i) (.int j) H Q:=b9 ⟨h,h'⟩ z
theorem cE(c:0<j)(h:Q (.int (i%j)) H):rI (fun _ j=>0<j) (fun i j=>.int (i%j)) (.int i) (.int j) H Q:=⟨i,j,rfl,rfl,c,h⟩
theorem cF(h:Q (.int (-i)) H):rU (fun i=>.int (-i)) (.int i) H Q:=⟨i,rfl,h⟩
theorem cc(h:Q (.bl (decide (i=j))) H):EG (.int i) (.int j) H Q:=by rw[Gm];exact h
theorem cG(h:Q (.bl (decide (x=y))) H):EG (.str x) (.str y) H Q:=by rw[Gn];exact h
theorem cH(h:Q (.bl (!decide (i=j))) H):GM (.int i) (.int j) H Q:=by rw[Go];exact h
theorem cI(h:Q (.bl (!decide (x=y))) H):GM (.str x) (.str y) H Q:=by rw[Gp];exact h
theorem eO{b:Bool}{P:Bool->Prop}(h:P b):∃k,V.bl b=V.bl k/\P k:=⟨b,rfl,h⟩
theorem cJ{P:Int->Prop}(h:P i):∃k,V.int i=V.int k/\P k:=⟨i,rfl,h⟩
theorem bx{P:Int->Int->Prop}(h:P i j):∃z F,[V.int i,V.int j]=[V.int z,V.int F]/\P z F:=⟨i,j,rfl,h⟩
theorem cK{P:Prop}(h:P):V.non=V.non/\P:=⟨rfl,h⟩
theorem cM{P:Prop}(h:P):(∃a,V.str x=V.str a)/\P:=⟨⟨x,rfl⟩,h⟩
theorem gz{p:Prop}[Decidable p]{A C:Prop}(a:p->A)(b:¬p->C):if decide p=true then A else C:=by
 by_cases h:p
 ·rw[if_pos (decide_eq_true h)];exact a h
 ·rw[if_neg (by rw[decide_eq_false h];exact N2)];exact b h
theorem FH{p:Prop}[Decidable p]{A C:Prop}(a:¬p->A)(b:p->C):if (!decide p)=true then A else C:=by
 by_cases h:p
 ·rw[if_neg (by rw[decide_eq_true h];exact N2)];exact b h
 ·rw[if_pos (by rw[decide_eq_false h];rfl)];exact a h
theorem zb{c:Bool}{A C:Prop}(a:c=true->A)(b:c=false->C):if c=true then A else C:=by
 cases c
 ·exact b rfl
 ·exact a rfl
theorem jq{c:Bool}{A C:Prop}(a:c=false->A)(b:c=true->C):if (!c)=true then A else C:=by
 cases c
 ·exact a rfl
 ·exact b rfl
theorem g6{A C:Prop}(a:A):if true=true then A else C:=a
theorem hC{A C:Prop}(a:C):if false=true then A else C:=a
theorem _root_.L2.Same.upd{H H':Hp}{l:Addr}{o:HO}(s:Same H H')(n:H l=none):Same H (upd H' l o):=fun b u e=>by
 rw[aj (aw e n)];exact s b u e
theorem _root_.L2.Same.updN{H H':Hp}{l:Addr}{o:HO}(s:Same H H')(n:H' l=none):Same H (L2.upd H' l o):=s.trans (Same.new n)
theorem gB{p:Addr}{xs:List V}{i:Int}{j:Nat}(hs:aI K H p xs)(e:i=(j:Int))(hv:xs[j]?=some v)(h:Q v H):xK K (.ref p) (.int i) H Q:=⟨p,xs,i,v,rfl,rfl,hs,Gi e hv,h⟩
theorem C1{p:Addr}{xs:List V}{i:Int}{j:Nat}(hs:gI K H p xs)(e:i=(j:Int))(hv:xs[j]?=some v)(h:Q v H):IQ K (.ref p) (.int i) H Q:=⟨p,xs,i,v,rfl,rfl,hs,Gi e hv,h⟩
theorem HZ{p:Addr}{xs:List V}(h:aI K H p xs):IR K "list" (.ref p) H:=.inl ⟨rfl,xs,h⟩
theorem fG{l:Addr}{xs:List V}(h:H l=some (.lst xs))(n:xs.length<sizeLine)(q:Q .non (L2.upd H l (.lst (xs++[v])))):nW (.ref l) [v] H Q:=⟨l,xs,v,rfl,rfl,h,n,q⟩
theorem gS{l b:Addr}{xs zs:List V}(h:H l=some (.lst xs))(h2:H b=some (.lst zs))(n:xs.length+zs.length<=sizeLine)(q:Q .non (L2.upd H l (.lst (xs++zs)))):AK (.ref l) [.ref b] H Q:=⟨l,b,xs,zs,rfl,rfl,h,h2,n,q⟩
theorem lM{l b:Addr}{xs zs:List V}(h:H l=some (.lst xs))(h2:H b=some (.lst zs))(n:xs.length+zs.length<=sizeLine)(q:∀p,H p=none->Q (.ref p) (L2.upd H p (.lst (xs++zs)))):IT (.ref l) (.ref b) H Q:=⟨l,b,xs,zs,rfl,rfl,h,h2,n,q⟩
structure Vt (J:It) (H0:Hp) (n:Nat) (y:Nat->V->Hp->Prop):Prop where
 go:∀i H,Same H0 H->i<n->J.go i H/\∀x H',J.yld i H x H'->Same H H'/\y i x H'
 stop:∀i H,Same H0 H->n<=i->J.stop i H
theorem pS{p:Addr}{xs:List V}{z:Hp}(h:aI K z p xs):Vt (uw K p) z xs.length (fun i x _=>xs[i]?=some x) where
 go i H s hi:=⟨⟨xs,xs[i],s.seq h,by simp[hi]⟩,fun x H' ⟨e,q⟩=>by subst e;exact⟨Same.refl _,q xs (s.seq h)⟩⟩
 stop i H s hi:=⟨xs,s.seq h,hi⟩
theorem Af{lo:Int}{n:Nat}{z:Hp}:Vt (qR lo n) z n (fun i x _=>x=.int (lo+i)) where
 go i H s hi:=⟨hi,fun x H' ⟨e,q⟩=>by subst e;exact⟨Same.refl _,q⟩⟩
 stop i H s hi:=hi
theorem yD{a b:Addr}{xs ys:List V}{z:Hp}(ha:aI K z a xs)(hb:aI K z b ys):Vt (Ix K a b) z (min xs.length ys.length) (fun i x H=>∃T u v,x=.ref T/\H T=some (.tup [u,v])/\xs[i]?=some u/\ys[i]?=some v) where
 go i H s hi:=⟨⟨xs,ys,xs[i]'(),ys[i]'(),s.seq ha,s.seq hb,by simp,by simp⟩,fun x H' ⟨T,u,v,e,n,e',F,I⟩=>by
  subst e e';exact⟨Same.new n,T,u,v,rfl,ac,F xs (s.seq ha),I ys (s.seq hb)⟩⟩
 stop i H s hi:=⟨xs,ys,s.seq ha,s.seq hb,by lia⟩
theorem _root_.L2.Same.seqT{H H':Hp}{a:Addr}{xs:List V}(e:Same H H')(h:gI K H a xs):gI K H' a xs:=by
 rcases h with(h|⟨o,h⟩)|h
 ·exact .inl (.inl (e _ _ h))
 ·exact .inl (.inr ⟨o,e _ _ h⟩)
 ·exact .inr h
theorem Cy{a b:Addr}{xs ys:List V}{z:Hp}(ha:gI K z a xs)(hb:aI K z b ys):Vt (BX K a b) z (min xs.length ys.length) (fun i x H=>∃T u v,x=.ref T/\H T=some (.tup [u,v])/\xs[i]?=some u/\ys[i]?=some v) where
 go i H s hi:=⟨⟨xs,ys,xs[i]'(),ys[i]'(),s.seqT ha,s.seq hb,by simp,by simp⟩,fun x H' ⟨T,u,v,e,n,e',F,I⟩=>by
  subst e e';exact⟨Same.new n,T,u,v,rfl,ac,F xs (s.seqT ha),I ys (s.seq hb)⟩⟩
 stop i H s hi:=⟨xs,ys,s.seqT ha,s.seq hb,by lia⟩
theorem vU{p:Addr}{xs:List V}{z:Hp}(h:aI K z p xs):Vt (Iw K p) z xs.length (fun i x H=>∃T u,x=.ref T/\H T=some (.tup [.int (i:Nat),u])/\xs[i]?=some u) where
 go i H s hi:=⟨⟨xs,xs[i],s.seq h,by simp[hi]⟩,fun x H' ⟨T,u,e,n,e',q⟩=>by
  subst e e';exact⟨Same.new n,T,u,rfl,ac,q xs (s.seq h)⟩⟩
 stop i H s hi:=⟨xs,s.seq h,hi⟩
theorem Bd{Qd:Addr->Hp->Prop}{J:It}{H1 Hb:Hp}{n:Nat}{y:Nat->V->Hp->Prop}{tt:TT}{vs:List Nat}(r:Vt J Hb n y)(keep:Nat->Bool)(F:Addr->Nat->V->Hp->Prop)(al:Same Hb H1)(hn:n<=1000000)(mono:∀P i v H H',i<n->F P i v H->Same H H'->F P i v H')(M:∀P i v H acc an,i<n->F P i v H->H P=some (.lst acc)->F P i v (L2.upd H P (.lst an)))(hs:∀P i x H H' acc,i<n->H1 P=none->Same H1 H->Same H H'->H P=some (.lst acc)->y i x H'->∀R:V->Hp->Prop,∀R':Hp->Prop,(∀v I,keep i=true->Same H' I->F P i v I->R v I)->(∀I,keep i=false->Same H' I->R' I)->
   g x (bV σ vs) H' fun O H2=>bV O vs=bV σ vs/\tt O H2 fun b H3=>if b=true then te O H3 R else R' H3)(hq:∀(P:Addr)(H':Hp)(ys:List V),H1 P=none->Same H1 H'->H' P=some (.lst ys)->ys.length=((N0 n).filter keep).length->(∀(j i:Nat)(v:V),((N0 n).filter keep)[j]?=some i->ys[j]?=some v->F P i v H')->Qd P H'):
  ∀P,H1 P=none->∃W:Nat->Nat->Hp->Prop,(∃m,W 0 m (L2.upd H1 P (.lst [])))/\∀i m H,W i m H->
   (J.stop i H/\Qd P H)\/(J.go i H/\∃Nx:Hp->Prop,(∀H',Nx H'->∃m',m'<m/\W (i+1) m' H')/\∀x H',J.yld i H x H'->g x (bV σ vs) H' fun O H2=>bV O vs=bV σ vs/\tt O H2 fun b H3=>
    if b=true then te O H3 fun y I=>∃acc,I P=some (.lst acc)/\acc.length<sizeLine/\Nx (L2.upd I P (.lst (acc++[y]))) else Nx H3):=by
 intro P hP
 have rng:∀i,i<n->(N0 (i+1)).filter keep=(N0 i).filter keep++(if keep i=true then[i] else[]):=fun i hi=>by
  rw[P_,Rt];congr 1;rw[Qh];rfl
 refine⟨fun i m H=>m=n-i/\i<=n/\Same H1 H/\∃acc:List V,H P=some (.lst acc)/\acc.length=((N0 i).filter keep).length/\∀(j k:Nat)(v:V),((N0 i).filter keep)[j]?=some k->acc[j]?=some v->F P k v H,
  ⟨n,by simp,OA _,Same.new hP,[],ac,rfl,fun j k v h=>by simp at h⟩,?_⟩
 rintro i m H ⟨rfl,hi,Z,acc,L,hl,ho⟩;by_cases z:i<n
 ·have sb:Same Hb H:=al.trans Z;refine .inr ⟨(r.go i H sb z).1,_,fun H' q=>⟨n-(i+1),by lia,rfl,z,q⟩,fun x H' q=>?_⟩;obtain⟨s2,q⟩:=(r.go i H sb z).2 x H' q
  have sub:∀k,k∈(N0 i).filter keep->k<n:=fun k S=>by
   have:=Px.mp (Qj.mp S).1;lia
  have as:acc.length<=i:=by
   rw[hl];exact Od (QL _ _) (by simp)
  refine hs P i x H H' acc z hP Z s2 L q _ _ (fun v I S s4 hv=>?_) (fun I S s4=>?_)
  ·have s5:=s2.trans s4;have Y:=s5 _ _ L;refine⟨acc,Y,O8 (show acc.length<=1000000 by lia) (by decide),(Z.trans s5).upd hP,acc++[v],ac,?_,?_⟩
   ·rw[rng i z,if_pos S,Of,Of,hl];rfl
   ·intro j k u h1 h2;rw[rng i z,if_pos S] at h1;by_cases hj:j<acc.length
    ·rw[O7 (by rw[<-hl];exact hj)] at h1;rw[O7 hj] at h2;have ar:=sub k (Oe h1);exact M P k u I acc _ ar (mono P k u H I ar (ho j k u h1 h2) s5) Y
    ·rw[OJ ()] at h2;rw[OJ (by rw[<-hl];lia)] at h1;rw[<-hl] at h1
     have e0:j-acc.length=0:=by
      have:=(N4.mp h2).1;simp at this;lia
     rw[e0] at h1 h2;cases h1;cases h2;exact M P i v I acc _ z hv Y
  ·refine⟨Z.trans (s2.trans s4),acc,(s2.trans s4) _ _ L,?_,?_⟩
   ·rw[rng i z,if_neg (by rw[S];exact N2),OC];exact hl
   ·intro j k v h1 h2;rw[rng i z,if_neg (by rw[S];exact N2),OC] at h1;exact mono P k v H I (sub k (Oe h1)) (ho j k v h1 h2) (s2.trans s4)
 ·have:i=n:=by lia
  subst this;exact .inl ⟨r.stop i H (al.trans Z) (NX _),hq P H acc hP Z L hl ho⟩
theorem FI{Y:Addr->Hp->Prop}{J:It}{H1 Hb:Hp}{n:Nat}{y:Nat->V->Hp->Prop}{Z:TT}{vs:List Nat}(r:Vt J Hb n y)(keep:Nat->Bool)(F:Nat->V)(O:Same Hb H1)(hn:n<=1000000)(hs:∀i x H H',i<n->Same H1 H->Same H H'->y i x H'->∀R:V->Hp->Prop,∀M:Hp->Prop,(∀z,keep i=true->Same H' z->R (F i) z)->(∀z,keep i=false->Same H' z->M z)->
   g x (bV σ vs) H' fun I H2=>bV I vs=bV σ vs/\Z I H2 fun b L=>if b=true then te I L R else M L)(hq:∀(P:Addr)(H':Hp),H1 P=none->Same H1 H'->H' P=some (.lst (((N0 n).filter keep).map F))->Y P H'):
  ∀P,H1 P=none->∃W:Nat->Nat->Hp->Prop,(∃m,W 0 m (L2.upd H1 P (.lst [])))/\∀i m H,W i m H->
   (J.stop i H/\Y P H)\/(J.go i H/\∃S:Hp->Prop,(∀H',S H'->∃m',m'<m/\W (i+1) m' H')/\∀x H',J.yld i H x H'->g x (bV σ vs) H' fun I H2=>bV I vs=bV σ vs/\Z I H2 fun b L=>
    if b=true then te I L fun y z=>∃acc,z P=some (.lst acc)/\acc.length<sizeLine/\S (L2.upd z P (.lst (acc++[y]))) else S L):=by
 refine Bd r keep (fun _ i v _=>v=F i) O hn (fun _ _ _ _ _ _ h _=>h) (fun _ _ _ _ _ _ _ h _=>h) (fun P i x H H' acc hi hP s1 s2 ha hy R M k1 k2=>hs i x H H' hi s1 s2 hy R M (fun z hk s4=>k1 _ z hk s4 rfl) k2) (fun P H' ys hP s hl hn ho=>hq P H' hP s ?_);rw[hl];congr 2;apply RF;intro j;rw[NZ];cases h1:((N0 n).filter keep)[j]? with
 |none=>
  rw[Pu] at h1;rw[Option.map_none,Pu];lia
 |some i=>
  have:=(N4.mp h1).1;have h2:ys[j]?=some (ys[j]'()):=by simp
  rw[h2,ho j i _ h1 h2];rfl
end
theorem cN{t:TS}{D:kM}{σ σ':L2.St}{H:Hp}(e:σ=σ')(h:t D σ' H):t D σ H:=e ▸ h
section
variable{K:PySem.W.Frag}{mg:N_->Option NU}{A:cX}{H H':Hp}{p:Addr}{a b cls k:Nat}{card:List Nat}{Pr:N1}{Q:VK}
theorem ah.i_begin(T:Txt K mg A)(h:ah A H p a b cls card)(q:Q (.int a) H):dJ K "begin" (.ref p) H Q:=by rw[h.begin_ T];exact q
theorem ah.i_end(T:Txt K mg A)(h:ah A H p a b cls card)(q:Q (.int b) H):dJ K "end" (.ref p) H Q:=by rw[h.end_ T];exact q
theorem ah.i_class(T:Txt K mg A)(h:ah A H p a b cls card)(q:Q (.int cls) H):dJ K "car_class" (.ref p) H Q:=by rw[h.class_ T];exact q
theorem ah.i_card(T:Txt K mg A)(h:ah A H p a b cls card)(q:Q (.str (St card)) H):dJ K "card" (.ref p) H Q:=by rw[h.card_ T];exact q
theorem aa.i_number(T:Txt K mg A)(h:aa A H p k Pr)(q:Q (.int k) H):dJ K "number" (.ref p) H Q:=by rw[h.number_ T];exact q
theorem aa.i_cents(T:Txt K mg A)(h:aa A H p k Pr)(q:Q (.int Pr.cents) H):dJ K "cents" (.ref p) H Q:=by rw[h.cents_ T];exact q
end
theorem j5(l m:List Nat):decide (St l=St m)=decide (l=m):=by
 by_cases h:l=m
 ·rw[decide_eq_true h,h];simp
 ·rw[decide_eq_false h,decide_eq_false fun q=>h (pG.mp q)]
section
variable{K:PySem.W.Frag}{D:kM}{σ:L2.St}{H:Hp}{Q:VK}{v u:V}
theorem qq{v z:V}(k:Q v H)(e:v=z):Q z H:=e ▸ k
theorem yE{α:Type}(x:α):∀n:Nat,(N7 n [x]).flatten=N7 n x
 |0=>rfl
 |n+1=>by rw[QF,QJ,yE x n];rfl
theorem pT{l:Addr}{x:V}{k:Int}{n:Nat}(h:H l=some (.lst [x]))(e:k=(n:Int)\/(k<0/\-1000000000<k/\n=0))(I:n<=1000000)(q:∀p,H p=none->Q (.ref p) (upd H p (.lst (N7 n x)))):IU (.ref l) (.int k) H Q:=by
 have z:k.toNat=n:=by lia
 refine⟨l,k,[x],rfl,rfl,h,?_,?_,?_,fun p F=>?_⟩
 ·show -(9223372036854775808:Int)<=k;lia
 ·show k<(9223372036854775808:Int);lia
 ·rw[z];show 1*n<=16777216;lia
 ·rw[z,yE];exact q p F
theorem cO{t:TA}(h:t σ H fun vs H1=>∃i j:Int,vs=[.int i,.int j]/\(-(2 ^ 62)<=i/\i<2 ^ 62/\-(2 ^ 62)<=j/\j<2 ^ 62)/\∀p,H1 p=none->Q (.ref p) (upd H1 p (.rng i j))):Jg t σ H Q:=h
theorem gF{i:Int}(h:-1000000000000<i/\i<1000000000000):-(2 ^ 62)<=i/\i<2 ^ 62:=by
 constructor
 ·show -(4611686018427387904:Int)<=i;lia
 ·show i<(4611686018427387904:Int);lia
theorem H_{i j:Int}(h:(-1000000000000<i/\i<1000000000000)/\-1000000000000<j/\j<1000000000000):-(2 ^ 62)<=i/\i<2 ^ 62/\-(2 ^ 62)<=j/\j<2 ^ 62:=⟨(gF h.1).1,(gF h.1).2,(gF h.2).1,(gF h.2).2⟩
theorem D7{i j:Int}{p:Addr}{P:Int->Int->Addr->Prop}(I:H p=some (.rng i j))(hi:-1000000000000<i/\i<1000000000000)(z:-1000000000000<j/\j<1000000000000)(J:(j-i).toNat<=1000000)(q:∀l,H l=none->P i j l):
  ∃F lo hi,[V.ref p]=[.ref F]/\H F=some (.rng lo hi)/\(-(2 ^ 62)<=lo/\lo<2 ^ 62/\-(2 ^ 62)<=hi/\hi<2 ^ 62)/\(hi-lo).toNat<=2 ^ 24/\∀l,H l=none->P lo hi l:=
 ⟨p,i,j,rfl,I,⟨(gF hi).1,(gF hi).2,(gF z).1,(gF z).2⟩,Od J (by decide),q⟩
theorem dI{p:Addr}{xs:List V}{P:List V->Prop}(h:aI K H p xs)(q:P xs):∃z ys,[V.ref p]=[.ref z]/\(aI K H z ys\/gI K H z ys)/\P ys:=⟨p,xs,rfl,.inl h,q⟩
theorem tM{p:Addr}{xs:List V}{P:List V->Prop}(h:gI K H p xs)(q:P xs):∃z ys,[V.ref p]=[.ref z]/\(aI K H z ys\/gI K H z ys)/\P ys:=⟨p,xs,rfl,.inr h,q⟩
theorem Be{m:Nat}(h:(Rg.mins m).ok=true):1<=m/\m<=10080:=by
 have q:=O9.mp (show(decide (1<=m)&&decide (m<=FrTariff.LONG))=true from h);exact⟨of_decide_eq_true q.1,of_decide_eq_true q.2⟩
theorem FJ{m:Nat}(h:(Rg.till m).ok=true):m<1440:=by
 exact of_decide_eq_true (show decide (m<Rl)=true from h)
theorem aa.i_minM{mg:N_->Option NU}{A:cX}{p:Addr}{k m:Nat}{Pr:N1}(T:Txt K mg A)(h:aa A H p k Pr)(e:Pr.holds=.mins m)(q:Q (.int m) H):dJ K "minutes" (.ref p) H Q:=by rw[h.minutes_ T,e];exact q
theorem aa.i_tillM{mg:N_->Option NU}{A:cX}{p:Addr}{k m:Nat}{Pr:N1}(T:Txt K mg A)(h:aa A H p k Pr)(e:Pr.holds=.mins m)(q:Q .non H):dJ K "till" (.ref p) H Q:=by rw[h.till_ T,e];exact q
theorem aa.i_tillT{mg:N_->Option NU}{A:cX}{p:Addr}{k m:Nat}{Pr:N1}(T:Txt K mg A)(h:aa A H p k Pr)(e:Pr.holds=.till m)(q:Q (.int m) H):dJ K "till" (.ref p) H Q:=by rw[h.till_ T,e];exact q
theorem lN(h:Rg):(∃m,h=.mins m)\/∃t,h=.till t:=by cases h with
 |mins m=>exact .inl ⟨m,rfl⟩
 |till t=>exact .inr ⟨t,rfl⟩
theorem bz{A C:Prop}(a:A):if decide (V.non=V.non)=true then A else C:=a
theorem bA{i:Int}{A C:Prop}(a:C):if decide (V.int i=V.non)=true then A else C:=a
theorem bB{i:Addr}{A C:Prop}(a:C):if decide (V.ref i=V.non)=true then A else C:=a
theorem bC{A C:Prop}(a:C):if (!decide (V.non=V.non))=true then A else C:=a
theorem bD{i:Int}{A C:Prop}(a:A):if (!decide (V.int i=V.non))=true then A else C:=a
theorem gG:([]:List V).length<=sizeLine:=by decide
theorem c_{x:V}:[x].length<=sizeLine:=by show 1<=16777216;decide
theorem gJ{x y:V}:[x,y].length<=sizeLine:=by show 2<=16777216;decide
theorem uF{x y z:V}:[x,y,z].length<=sizeLine:=by show 3<=16777216;decide
theorem Ia{x y z a:V}:[x,y,z,a].length<=sizeLine:=by show 4<=16777216;decide
theorem len5{x y z a b:V}:[x,y,z,a,b].length<=sizeLine:=by show 5<=16777216;decide
theorem eP{n:Nat}(h:n<=16000000):n<=sizeLine:=Od h (by decide)
theorem fj{n:Nat}(h:n<=16000000):n<sizeLine:=O8 h (by decide)
theorem qV{n:Nat}{z:EF}{a:Addr}{xs:List V}{G:L2.St->Hp->Prop}(h:gI K H a xs)(F:xs.length=n)(q:z xs σ H G):GH K n z (.ref a) σ H G:=⟨a,xs,rfl,h,F,q⟩
theorem bE{tl:TE}{g:TG}{tb:TS}(h:tl σ H fun x H1=>∃a,x=.ref a/\(∃xs,aI K H1 a xs)/\∃W:Nat->Nat->L2.St->Hp->Prop,(∃m,W 0 m σ H1)/\∀i m σ H,W i m σ H->
   ((uw K a).stop i H/\D.nx σ H)\/((uw K a).go i H/\∃N:L2.St->Hp->Prop,(∀σ' H',N σ' H'->∃z,z<m/\W (i+1) z σ' H')/\∀x H',(uw K a).yld i H x H'->g x σ H' fun F H2=>tb {D with nx:=N,ct:=N,bk:=D.nx} F H2)):Bx (AA K tl) g tb D σ H:=h
theorem kE{xs:List V}{a:Addr}{g:TG}{tb:TS}{Hb:Hp}(I:Same Hb H)(L:aI K Hb a xs)(z:Nat->L2.St->Hp->Prop)(O:z 0 σ H)(hb:∀i σ H,z i σ H->Same Hb H)(hs:∀i x σ H,xs[i]?=some x->z i σ H->g x σ H fun J H2=>tb {D with nx:=z (i+1),ct:=z (i+1),bk:=D.nx} J H2)(hd:∀σ H,z xs.length σ H->D.nx σ H):
  ∃F,V.ref a=.ref F/\(∃xs,aI K H F xs)/\∃W:Nat->Nat->L2.St->Hp->Prop,(∃m,W 0 m σ H)/\∀i m σ H,W i m σ H->
   ((uw K F).stop i H/\D.nx σ H)\/((uw K F).go i H/\∃N:L2.St->Hp->Prop,(∀σ' H',N σ' H'->∃M,M<m/\W (i+1) M σ' H')/\∀x H',(uw K F).yld i H x H'->g x σ H' fun J H2=>tb {D with nx:=N,ct:=N,bk:=D.nx} J H2):=by
 refine⟨a,rfl,⟨xs,I.seq L⟩,?_⟩;exact Db (xs:=xs) z O (fun i σ H _ p=>(hb i σ H p).seq L) hs hd
theorem bF{ta:TA}{g:TG}{tb:TS}(h:ta σ H fun vs H1=>∃i j:Int,vs=[.int i,.int j]/\(-(2 ^ 62)<=i/\i<2 ^ 62/\-(2 ^ 62)<=j/\j<2 ^ 62)/\∃W:Nat->Nat->L2.St->Hp->Prop,(∃m,W 0 m σ H1)/\∀z m σ H,W z m σ H->
   ((qR i (j-i).toNat).stop z H/\D.nx σ H)\/((qR i (j-i).toNat).go z H/\∃N:L2.St->Hp->Prop,(∀σ' H',N σ' H'->∃F,F<m/\W (z+1) F σ' H')/\∀x H',(qR i (j-i).toNat).yld z H x H'->g x σ H' fun I H2=>tb {D with nx:=N,ct:=N,bk:=D.nx} I H2)):Bx (xD ta) g tb D σ H:=h
theorem cP{tl:TE}{g:TG}{I:TT}{te:TE}{vs:List Nat}(h:tl σ H fun x H1=>∃a,x=.ref a/\(∃xs,aI K H1 a xs)/\∀P,H1 P=none->∃W:Nat->Nat->Hp->Prop,(∃m,W 0 m (upd H1 P (.lst [])))/\∀i m H,W i m H->
   ((uw K a).stop i H/\Q (.ref P) H)\/((uw K a).go i H/\∃z:Hp->Prop,(∀H',z H'->∃J,J<m/\W (i+1) J H')/\∀x H',(uw K a).yld i H x H'->g x (bV σ vs) H' fun F H2=>bV F vs=bV σ vs/\I F H2 fun b L=>
    if b=true then te F L fun y M=>∃acc,M P=some (.lst acc)/\acc.length<sizeLine/\z (upd M P (.lst (acc++[y]))) else z L)):EH (AA K tl) g I te vs σ H Q:=h
theorem cQ{ta:TA}{g:TG}{I:TT}{te:TE}{vs:List Nat}(h:ta σ H fun O H1=>∃a b xs ys,O=[.ref a,.ref b]/\aI K H1 a xs/\aI K H1 b ys/\∀P,H1 P=none->∃W:Nat->Nat->Hp->Prop,(∃m,W 0 m (upd H1 P (.lst [])))/\∀i m H,W i m H->
   ((Ix K a b).stop i H/\Q (.ref P) H)\/((Ix K a b).go i H/\∃z:Hp->Prop,(∀H',z H'->∃J,J<m/\W (i+1) J H')/\∀x H',(Ix K a b).yld i H x H'->g x (bV σ vs) H' fun F H2=>bV F vs=bV σ vs/\I F H2 fun b L=>
    if b=true then te F L fun y M=>∃acc,M P=some (.lst acc)/\acc.length<sizeLine/\z (upd M P (.lst (acc++[y]))) else z L)):EH (Je K ta) g I te vs σ H Q:=h
theorem bG{ta:TA}{g:TG}{I:TT}{te:TE}{vs:List Nat}(h:ta σ H fun O H1=>∃a b xs ys,O=[.ref a,.ref b]/\gI K H1 a xs/\aI K H1 b ys/\∀P,H1 P=none->∃W:Nat->Nat->Hp->Prop,(∃m,W 0 m (upd H1 P (.lst [])))/\∀i m H,W i m H->
   ((BX K a b).stop i H/\Q (.ref P) H)\/((BX K a b).go i H/\∃z:Hp->Prop,(∀H',z H'->∃J,J<m/\W (i+1) J H')/\∀x H',(BX K a b).yld i H x H'->g x (bV σ vs) H' fun F H2=>bV F vs=bV σ vs/\I F H2 fun b L=>
    if b=true then te F L fun y M=>∃acc,M P=some (.lst acc)/\acc.length<sizeLine/\z (upd M P (.lst (acc++[y]))) else z L)):EH (Gq K ta) g I te vs σ H Q:=h
theorem cR{ta:TA}{g:TG}{I:TT}{te:TE}{vs:List Nat}(h:ta σ H fun O H1=>∃j:Int,O=[.int j]/\-(2 ^ 62)<=j/\j<2 ^ 62/\∀P,H1 P=none->∃W:Nat->Nat->Hp->Prop,(∃m,W 0 m (upd H1 P (.lst [])))/\∀i m H,W i m H->
   ((qR 0 j.toNat).stop i H/\Q (.ref P) H)\/((qR 0 j.toNat).go i H/\∃z:Hp->Prop,(∀H',z H'->∃J,J<m/\W (i+1) J H')/\∀x H',(qR 0 j.toNat).yld i H x H'->g x (bV σ vs) H' fun F H2=>bV F vs=bV σ vs/\I F H2 fun b L=>
    if b=true then te F L fun y M=>∃acc,M P=some (.lst acc)/\acc.length<sizeLine/\z (upd M P (.lst (acc++[y]))) else z L)):EH (Da ta) g I te vs σ H Q:=h
theorem cS{ta:TA}{g:TG}{I:TT}{te:TE}{vs:List Nat}(h:ta σ H fun O H1=>∃a xs,O=[.ref a]/\aI K H1 a xs/\∀P,H1 P=none->∃W:Nat->Nat->Hp->Prop,(∃m,W 0 m (upd H1 P (.lst [])))/\∀i m H,W i m H->
   ((Iw K a).stop i H/\Q (.ref P) H)\/((Iw K a).go i H/\∃z:Hp->Prop,(∀H',z H'->∃J,J<m/\W (i+1) J H')/\∀x H',(Iw K a).yld i H x H'->g x (bV σ vs) H' fun F H2=>bV F vs=bV σ vs/\I F H2 fun b L=>
    if b=true then te F L fun y M=>∃acc,M P=some (.lst acc)/\acc.length<sizeLine/\z (upd M P (.lst (acc++[y]))) else z L)):EH (Gg K ta) g I te vs σ H Q:=h
end
section
variable{K:PySem.W.Frag}{D:kM}{σ:L2.St}{H:Hp}{Q:VK}{v u:V}
theorem Jq{n:Nat}(e:σ[n]?=some (some v))(h:Q v H):fX n σ H Q:=⟨v,e,h⟩
theorem eQ{n:Nat}(h:fX n σ H Q):fX n σ H Q:=h
theorem eR{n:Nat}{G:L2.St->Hp->Prop}(h:fS n v σ H G):fS n v σ H G:=h
theorem cT{g:Int->Int->V}(h:ss g v u H Q):ss g v u H Q:=h
theorem eS{C:Int->Int->Prop}{g:Int->Int->V}(h:rI C g v u H Q):rI C g v u H Q:=h
theorem eT{α:Type}{P:α->Prop}(h:∃x,P x):∃x,P x:=h
theorem cU{b c:Bool}{A B:Prop}(h:if b=c then A else B):if b=c then A else B:=h
theorem cV{f:N_}(h:dJ K f v H Q):dJ K f v H Q:=h
theorem cW{A B:Prop}(h:A/\B):A/\B:=h
theorem D8{Z:Addr->Hp->Prop}{α:Type}{a:Addr}{l:List α}{c:α->V}{g:TG}{tt:TT}{te:TE}{vs:List Nat}(O:aI K H a (l.map c))(hn:l.length<=1000000)(keep:α->Bool)(f:α->V)(hs:∀x H',x∈l->Same H H'->∀R:V->Hp->Prop,∀M:Hp->Prop,(∀z,keep x=true->Same H' z->R (f x) z)->(∀z,keep x=false->Same H' z->M z)->g (c x) (bV σ vs) H' fun F H2=>bV F vs=bV σ vs/\tt F H2 fun b J=>if b=true then te F J R else M J)(hq:∀(P:Addr)(H':Hp),H P=none->Same H H'->H' P=some (.lst ((l.filter keep).map f))->Z P H'):
  ∃L,V.ref a=.ref L/\(∃xs,aI K H L xs)/\∀P,H P=none->∃W:Nat->Nat->Hp->Prop,(∃m,W 0 m (upd H P (.lst [])))/\∀i m H,W i m H->
   ((uw K L).stop i H/\Z P H)\/((uw K L).go i H/\∃S:Hp->Prop,(∀H',S H'->∃m',m'<m/\W (i+1) m' H')/\∀x H',(uw K L).yld i H x H'->g x (bV σ vs) H' fun F H2=>bV F vs=bV σ vs/\tt F H2 fun b J=>
    if b=true then te F J fun y z=>∃acc,z P=some (.lst acc)/\acc.length<sizeLine/\S (upd z P (.lst (acc++[y]))) else S J):=by
 refine⟨a,rfl,⟨_,O⟩,?_⟩;refine FI (n:=(l.map c).length) (pS O) (fun i=>match l[i]? with|some x=>keep x|none=>false) (fun i=>match l[i]? with|some x=>f x|none=>.non) (Same.refl _) (by rw[NV];exact hn) (fun i x H1 H2 hi s1 s2 hy R M k1 k2=>?_) (fun P H' hP s hl=>hq P H' hP s ?_)
 ·rw[NV] at hi;have e:l[i]?=some l[i]:=by simp[hi]
  rw[NZ,e] at hy;cases hy;refine hs l[i] H2 (Ps hi) (s1.trans s2) R M (fun z I Y=>?_) (fun z I Y=>k2 z (by rw[e];exact I) Y);have:=k1 z (by rw[e];exact I) Y;rw[e] at this;exact this
 ·rw[hl,NV];congr 2;clear hs hq O hl hn s
  have gen:∀(l:List α)(o:Nat)(m:List α),m.length=o->(((N0 l.length).map fun i=>o+i).filter fun i=>match (m++l)[i]? with|some x=>keep x|none=>false).map (fun i=>match (m++l)[i]? with|some x=>f x|none=>V.non)=(l.filter keep).map f:=by
   intro l
   induction l with
   |nil=>intro o m _;rfl
   |cons x l ih=>
    intro o m hm;have e0:(m++x::l)[o]?=some x:=by rw[OJ (),hm];simp
    have e1:(N0 (x::l).length).map (fun i=>o+i)=o::(N0 l.length).map (fun i=>(o+1)+i):=by
     rw[Ol,Qe,Oo,On];congr 1;apply Om;intro i _;show o+(i+1)=o+1+i;lia
    have e2:m++x::l=(m++[x])++l:=by simp
    have:=ih (o+1) (m++[x]) (by simp[hm]);rw[e1,Qh,Qh,e0];rw[<-e2] at this;by_cases I:keep x=true
    ·simp only[I,if_true,Oo,e0];rw[this]
    ·simp only[I,if_false];exact this
  have:=gen l 0 [] rfl;simpa using this
theorem wS{p:Addr}{xs:List V}(hs:aI K H p xs)(hv:xs.getLast?=some v)(h:Q v H):xK K (.ref p) (.int (-1)) H Q:=by
 refine⟨p,xs,-1,v,rfl,rfl,hs,?_,h⟩;unfold AG ET
 have hl:0<xs.length:=by
  cases xs with
  |nil=>simp at hv
  |cons x l=>simp
 rw[if_neg (by decide),if_pos ()];show xs[((-1:Int)+xs.length).toNat]?=some v;rw[show((-1:Int)+xs.length).toNat=xs.length-1 by lia,<-Rx];exact hv
theorem gi{p:Addr}{xs:List V}{P:Prop}(h:aI K H p xs)(q:P):IR K "list" (.ref p) H/\P:=⟨HZ h,q⟩
end
def j6{α:Type}(l:List α)(keep:α->Bool)(i:Nat):Bool:=match l[i]? with
 |some x=>keep x
 |none=>false
theorem Ag{α β:Type}(keep:α->Bool)(g:α->β)(d:β)(l:List α):((N0 l.length).filter (j6 l keep)).map (fun i=>match l[i]? with|some x=>g x|none=>d)=(l.filter keep).map g:=by
 have gen:∀(l:List α)(o:Nat)(m:List α),m.length=o->(((N0 l.length).map fun i=>o+i).filter (j6 (m++l) keep)).map (fun i=>match (m++l)[i]? with|some x=>g x|none=>d)=(l.filter keep).map g:=by
  intro l
  induction l with
  |nil=>intro o m _;rfl
  |cons x l J=>
   intro o m z;have F:(m++x::l)[o]?=some x:=by rw[OJ (),z];simp
   have L:(N0 (x::l).length).map (fun i=>o+i)=o::(N0 l.length).map (fun i=>(o+1)+i):=by
    rw[Ol,Qe,Oo,On];congr 1;apply Om;intro i _;show o+(i+1)=o+1+i;lia
   have M:m++x::l=(m++[x])++l:=by simp
   have:=J (o+1) (m++[x]) (by simp[z]);have O:j6 (m++x::l) keep o=keep x:=by unfold j6;rw[F]
   rw[L,Qh,Qh,O];rw[<-M] at this;by_cases I:keep x=true
   ·simp only[I,if_true,Oo,F];rw[this]
   ·simp only[I,if_false];exact this
 have:=gen l 0 [] rfl;simpa using this
section
variable{K:PySem.W.Frag}{D:kM}{σ:L2.St}{H:Hp}{Q:VK}{v u:V}
theorem Gs{Qd:Addr->Hp->Prop}{α:Type}{l:List α}{J:It}{g:TG}{tt:TT}{te:TE}{vs:List Nat}{y:Nat->V->Hp->Prop}(r:Vt J H l.length y)(hn:l.length<=1000000)(keep:α->Bool)(F:Addr->α->V->Hp->Prop)(mono:∀P x v H H',x∈l->F P x v H->Same H H'->F P x v H')(S:∀P x v H acc L,x∈l->F P x v H->H P=some (.lst acc)->F P x v (L2.upd H P (.lst L)))(hs:∀P i x X H' acc,l[i]?=some x->Same H H'->H P=none->H' P=some (.lst acc)->y i X H'->∀R:V->Hp->Prop,∀R':Hp->Prop,(∀v I,keep x=true->Same H' I->F P x v I->R v I)->(∀I,keep x=false->Same H' I->R' I)->
   g X (bV σ vs) H' fun M H2=>bV M vs=bV σ vs/\tt M H2 fun b Y=>if b=true then te M Y R else R' Y)(hq:∀(P:Addr)(H':Hp)(zs:List (α×V)),H P=none->Same H H'->H' P=some (.lst (zs.map (·.2)))->zs.map (·.1)=l.filter keep->(∀z∈zs,F P z.1 z.2 H')->Qd P H'):
  ∀P,H P=none->∃W:Nat->Nat->Hp->Prop,(∃m,W 0 m (upd H P (.lst [])))/\∀i m H,W i m H->
   (J.stop i H/\Qd P H)\/(J.go i H/\∃Nx:Hp->Prop,(∀H',Nx H'->∃m',m'<m/\W (i+1) m' H')/\∀x H',J.yld i H x H'->g x (bV σ vs) H' fun M H2=>bV M vs=bV σ vs/\tt M H2 fun b Y=>
    if b=true then te M Y fun y I=>∃acc,I P=some (.lst acc)/\acc.length<sizeLine/\Nx (upd I P (.lst (acc++[y]))) else Nx Y):=by
 refine Bd r (j6 l keep) (fun P i v H=>∃x,l[i]?=some x/\F P x v H) (Same.refl _) hn
  (fun P i v H H' hi h s=>let ⟨x,e,q⟩:=h;⟨x,e,mono P x v H H' (Oe e) q s⟩) (fun P i v H acc L hi h Z=>let ⟨x,e,q⟩:=h;⟨x,e,S P x v H acc L (Oe e) q Z⟩)
  (fun P i X H1 H2 acc hi Z s1 s2 ha hy R R' k1 k2=>?_) (fun P H' ys Z s hl al ho=>?_)
 ·have e:l[i]?=some l[i]:=by simp[hi]
  have ek:j6 l keep i=keep l[i]:=by unfold j6;rw[e]
  exact hs P i l[i] X H2 acc e (s1.trans s2) Z (s2 _ _ ha) hy R R' (fun v I hk s4 o4=>k1 v I (ek.trans hk) s4 ⟨_,e,o4⟩) (fun I hk s4=>k2 I (ek.trans hk) s4)
 ·have hf:=Ag keep some none l
  have an:((N0 l.length).filter (j6 l keep)).length=(l.filter keep).length:=by
   have:=congrArg Os hf;simpa using this
  refine hq P H' ((l.filter keep).zip ys) Z s ?_ ?_ ?_
  ·rw[hl,Us];lia
  ·rw[Ut];lia
  ·intro z hz;obtain⟨j,hj⟩:=QM.mp hz;rw[O_] at hj;obtain⟨h1,h2⟩:=hj;have O:=congrArg (fun q=>q[j]?) hf;simp only[NZ] at O;rw[h1] at O;cases hi:((N0 l.length).filter (j6 l keep))[j]? with
   |none=>rw[hi] at O;cases O
   |some i=>
    rw[hi] at O;obtain⟨x,ex,ox⟩:=ho j i z.2 hi h2;have:(match l[i]? with|some x=>some x|none=>none)=some z.1:=N6.inj O;rw[ex] at this;cases this;exact ox
theorem Gu{a:Addr}{P:Addr->Prop}{xs:List V}(h:aI K H a xs)(q:P a):∃z,V.ref a=.ref z/\(∃xs,aI K H z xs)/\P z:=⟨a,rfl,⟨xs,h⟩,q⟩
end
section
variable{K:PySem.W.Frag}{D:kM}{σ:L2.St}{H H':Hp}{Q:VK}{v u:V}{A:cX}
def Gv(K:PySem.W.Frag)(f:N_)(x y:V)(H:Hp)(R:Hp->Prop):Prop:=∃a C dx fs,x=.ref a/\H a=some (.ins C dx fs)/\rN K C/\aX K C f/\fs.length<1000/\R (upd H a (.ins C dx (bf f y fs)))
theorem bH{ta tv:TE}{f:N_}(h:tv σ H fun y H1=>ta σ H1 fun x H2=>Gv K f x y H2 (fun z=>D.nx σ z)):ER K ta tv f D σ H:=h
theorem e_{f:N_}{p C dx:Addr}{fs:List (N_×V)}{R:Hp->Prop}{n:Nat}(c:rN K C)(z:aX K C f)(h:H p=some (.ins C dx fs))(hl:fs.length<=n)(F:n<900)(q:(bf f v fs).length<=n+1->R (upd H p (.ins C dx (bf f v fs)))):Gv K f (.ref p) v H R:=
 ⟨p,C,dx,fs,rfl,h,c,z,by lia,q (fF hl)⟩
theorem Fd.same{f:N_}{v:V}{fs:List (N_×V)}:Fd (bf f v fs) f v:=by
 show OV _ _=_;rw[dk,if_pos rfl]
theorem Fd.ne{f g:N_}{v u:V}{fs:List (N_×V)}(h:Fd fs g u)(n:¬g=f):Fd (bf f v fs) g u:=by
 show OV _ _=_;rw[dk,if_neg n];exact h
theorem Fd.nil{g:N_}{u:V}(h:Fd [] g u):False:=by cases h
theorem Tu{f:N_}{p C dx:Addr}{fs:List (N_×V)}(h:H p=some (.ins C dx fs))(c:rN K C)(n:aX K C f)(l:Fd fs f v)(q:Q v H):dJ K f (.ref p) H Q:=by
 rw[fL h c n l];exact q
theorem aa.upL{p P:Addr}{k:Nat}{Pr:N1}{acc:List V}{o:HO}(h:aa A H p k Pr)(F:H P=some (.lst acc)):aa A (upd H P o) p k Pr:=by
 obtain⟨dx,fs,h1,h2⟩:=h;exact⟨dx,fs,by rw[aj (b8 h1 F (by intro z;cases z))];exact h1,h2⟩
theorem aa.up{p P:Addr}{k:Nat}{Pr:N1}{o:HO}(h:aa A H p k Pr)(z:p≠P):aa A (upd H P o) p k Pr:=by
 obtain⟨dx,fs,h1,h2⟩:=h;exact⟨dx,fs,by rw[aj z];exact h1,h2⟩
theorem aa.new{p o C dx:Addr}{k:Nat}{Pr:N1}(h:aa A H p k Pr)(z:H o=some (.ins C dx [])):p≠o:=by
 obtain⟨dx,fs,h1,h2,_⟩:=h;rintro rfl;rw[h1] at z;cases z;exact Fd.nil h2
theorem ah.up{p P:Addr}{a b c:Nat}{d:List Nat}{o:HO}(h:ah A H p a b c d)(z:p≠P):ah A (upd H P o) p a b c d:=by
 obtain⟨dx,fs,h1,h2⟩:=h;exact⟨dx,fs,by rw[aj z];exact h1,h2⟩
theorem ah.new{p o C dx:Addr}{a b c:Nat}{d:List Nat}(h:ah A H p a b c d)(z:H o=some (.ins C dx [])):p≠o:=by
 obtain⟨dx,fs,h1,h2,_⟩:=h;rintro rfl;rw[h1] at z;cases z;exact Fd.nil h2
theorem aT.upI{p P C dx:Addr}{l:List (Nat×Nat)}{fs:List (N_×V)}{o:HO}(h:aT H p l)(F:H P=some (.ins C dx fs)):aT (upd H P o) p l:=by
 obtain⟨I,h1,h2,J⟩:=h
 exact⟨I,by rw[aj (b8 h1 F (by intro z;cases z))];exact h1,h2,fun i t x L M=>by
  have:=J i t x L M;rw[aj (b8 this F (by intro z;cases z))];exact this⟩
theorem aT.upL{p P:Addr}{l:List (Nat×Nat)}{acc:List V}{o:HO}(h:aT H p l)(I:H P=some (.lst acc))(F:p≠P):aT (upd H P o) p l:=by
 obtain⟨J,h1,h2,L⟩:=h
 exact⟨J,by rw[aj F];exact h1,h2,fun i t x M O=>by
  have:=L i t x M O;rw[aj (b8 this I (by intro z;cases z))];exact this⟩
theorem aT.len{p:Addr}{l:List (Nat×Nat)}(h:aT H p l):∃xs:List V,H p=some (.lst xs)/\xs.length=l.length:=by
 obtain⟨z,h1,h2,F⟩:=h;exact⟨_,h1,by rw[NV,h2]⟩
structure am (A:cX) (H:Hp) (o:Addr) (k:Nat) (Pr:N1) (w:Ob) (a b:Nat) (p r e:Addr):Prop where
 ins:∃dx fs,H o=some (.ins A.Offer dx fs)/\Fd fs "product" (.ref p)/\Fd fs "spans" (.ref r)/\Fd fs "ends" (.ref e)
 prod:aa A H p k Pr
 spans:aT H r (FM.spans w a b Pr)
 ends:H e=some (.lst ((N0 (b-a)).map fun i=>V.int ((FM.endAt w a Pr i:Int)-a)))
theorem am.keep{o p r e:Addr}{k a b:Nat}{Pr:N1}{w:Ob}(h:am A H o k Pr w a b p r e)(s:Same H H'):am A H' o k Pr w a b p r e:=by
 obtain⟨⟨dx,fs,h1,h2⟩,z,F,I⟩:=h;exact⟨⟨dx,fs,s _ _ h1,h2⟩,z.keep s,F.keep s,s _ _ I⟩
theorem am.upL{o p r e P:Addr}{k a b:Nat}{Pr:N1}{w:Ob}{acc:List V}{u:HO}(h:am A H o k Pr w a b p r e)(F:H P=some (.lst acc))(I:r≠P)(J:e≠P):am A (upd H P u) o k Pr w a b p r e:=by
 obtain⟨⟨dx,fs,h1,h2⟩,L,M,O⟩:=h;exact⟨⟨dx,fs,by rw[aj (b8 h1 F (by intro z;cases z))];exact h1,h2⟩,L.upL F,M.upL F I,by rw[aj J];exact O⟩
theorem am.i_product{mg:N_->Option NU}{o p r e:Addr}{k a b:Nat}{Pr:N1}{w:Ob}(T:Txt K mg A)(h:am A H o k Pr w a b p r e)(q:Q (.ref p) H):dJ K "product" (.ref o) H Q:=by
 obtain⟨⟨dx,fs,h1,h2,_⟩,_⟩:=h;exact Tu h1 T.KD T.Ly h2 q
theorem am.i_spans{mg:N_->Option NU}{o p r e:Addr}{k a b:Nat}{Pr:N1}{w:Ob}(T:Txt K mg A)(h:am A H o k Pr w a b p r e)(q:Q (.ref r) H):dJ K "spans" (.ref o) H Q:=by
 obtain⟨⟨dx,fs,h1,_,h2,_⟩,_⟩:=h;exact Tu h1 T.KD T.K6 h2 q
theorem am.i_ends{mg:N_->Option NU}{o p r e:Addr}{k a b:Nat}{Pr:N1}{w:Ob}(T:Txt K mg A)(h:am A H o k Pr w a b p r e)(q:Q (.ref e) H):dJ K "ends" (.ref o) H Q:=by
 obtain⟨⟨dx,fs,h1,_,_,h2⟩,_⟩:=h;exact Tu h1 T.KD T.Lz h2 q
structure wT (p:N1):Prop where
 bd:p.bounded=true
 d7:p.days.length=7
 nc:p.card≠some []
theorem Cz{a b:List UInt8}(h:a.map UInt8.toNat=b.map UInt8.toNat):a=b:=by
 induction a generalizing b with
 |nil=>cases b with
  |nil=>rfl
  |cons y b=>cases h
 |cons x a z=>cases b with
  |nil=>cases h
  |cons y b=>
   rw[Oo,Oo] at h;obtain⟨h1,h2⟩:=PB.inj h;rw[UInt8.toNat_inj.mp h1,z h2]
theorem FK{w:Ob}{p:N1}(h1:p.card≠some [])(h2:w.card≠some []):Ad p w.cls (dC w.card)=gC w p:=by
 unfold Ad gC;congr 1;cases I:p.card with
 |none=>rfl
 |some c=>
  have F:c≠[]:=fun q=>h1 (by rw[I,q]);have J:decide (dC (some c)=[])=false:=decide_eq_false fun q=>F (UY.mp q);rw[J,Rr];show _=(false||_);rw[Rr];cases L:w.card with
  |none=>
   rw[decide_eq_false (p:=dC (some c)=dC none) fun q=>F (UY.mp q)];rfl
  |some d=>
   by_cases z:c=d
   ·subst z;simp
   ·rw[decide_eq_false (p:=dC (some c)=dC (some d)) fun q=>z (Cz q)];symm;apply Pf.mpr;intro q;exact z (N6.inj (eq_of_beq q))
theorem vV{w:Ob}{p:N1}{a b:Nat}(h1:p.card≠some [])(h2:w.card≠some []):wR p a b w.cls (dC w.card)=FM.spans w a b p:=by
 unfold wR FM.spans;rw[FK h1 h2]
end
inductive MethP(P:N3)(w:Oh)(K:PySem.W.Frag)(mg:N_->Option NU)(base:Heap)(k:Nat)(C:Addr)(m:N_)(ps:List N_)(sp:Sp):Prop|mk(f fd:_)(_:Dg K C m f)(_:Binds K fd ps [])(_:jO P w K mg base CZ k f fd ps sp)
def o8(H:Hp)(l:Addr):Hp:=fun b=>if b=l then none else H b
theorem oM{H:Hp}{l:Addr}:o8 H l l=none:=by unfold o8;rw[if_pos rfl]
theorem nB{H:Hp}{l b:Addr}{o:HO}(h:H b=some o)(n:b≠l):o8 H l b=some o:=by unfold o8;rw[if_neg n];exact h
theorem iR{H:Hp}{l:Addr}:Same (o8 H l) H:=fun b o h=>by
 unfold o8 at h;by_cases e:b=l
 ·rw[if_pos e] at h;cases h
 ·rw[if_neg e] at h;exact h
theorem iS{z H:Hp}{l:Addr}(s:Same z H)(n:z l=none):Same z (o8 H l):=fun b o h=>nB (s b o h) (aw h n)
theorem b_{i j:Int}(h:0<j)(h':j<1073741824):EM i j:=⟨h,h'⟩
section
variable{K:PySem.W.Frag}{D:kM}{σ:L2.St}{H:Hp}{Q:VK}{v u:V}
theorem bI{ta:TA}{g:TG}{tb:TS}(h:ta σ H fun vs H1=>∃(i j c:Int)(n:Nat),vs=[.int i,.int j,.int c]/\Iv i j c n/\∃W:Nat->Nat->L2.St->Hp->Prop,(∃m,W 0 m σ H1)/\∀z m σ H,W z m σ H->
   ((Ge i c n).stop z H/\D.nx σ H)\/((Ge i c n).go z H/\∃N:L2.St->Hp->Prop,(∀σ' H',N σ' H'->∃F,F<m/\W (z+1) F σ' H')/\∀x H',(Ge i c n).yld z H x H'->g x σ H' fun I H2=>tb {D with nx:=N,ct:=N,bk:=D.nx} I H2)):Bx (Gf ta) g tb D σ H:=h
theorem Gw{i j:Int}{g:TG}{tb:TS}(hi:-1000000000000<i/\i<1000000000000)(L:-1000000000000<j/\j<1000000000000)(z:Nat->L2.St->Hp->Prop)(O:z 0 σ H)(hs:∀k σ H,k<(i-j).toNat->z k σ H->g (.int (i-k)) σ H fun I H2=>tb {D with nx:=z (k+1),ct:=z (k+1),bk:=D.nx} I H2)(hd:∀σ H,z (i-j).toNat σ H->D.nx σ H):
  ∃(i_1 j_1 c:Int)(n:Nat),[V.int i,V.int j,V.int (-1)]=[.int i_1,.int j_1,.int c]/\Iv i_1 j_1 c n/\∃W:Nat->Nat->L2.St->Hp->Prop,(∃m,W 0 m σ H)/\∀F m σ H,W F m σ H->
   ((Ge i_1 c n).stop F H/\D.nx σ H)\/((Ge i_1 c n).go F H/\∃N:L2.St->Hp->Prop,(∀σ' H',N σ' H'->∃M,M<m/\W (F+1) M σ' H')/\∀x H',(Ge i_1 c n).yld F H x H'->g x σ H' fun I H2=>tb {D with nx:=N,ct:=N,bk:=D.nx} I H2):=by
 refine⟨i,j,-1,(i-j).toNat,rfl,Iv.neg (gF hi).1 (gF hi).2 (gF L).1 (gF L).2,?_⟩;refine⟨fun k m σ H=>m=(i-j).toNat-k/\k<=(i-j).toNat/\z k σ H,⟨_,rfl,OA _,O⟩,?_⟩;rintro k m σ H ⟨rfl,S,p⟩;by_cases J:k<(i-j).toNat
 ·refine .inr ⟨J,z (k+1),fun σ' H' q=>⟨_,by lia,rfl,J,q⟩,fun x H' q=>?_⟩;obtain⟨rfl,rfl⟩:=q;have e:i+((k:Nat):Int)*-1=i-k:=by lia
  rw[e];exact hs k σ H' J p
 ·have:k=(i-j).toNat:=by lia
  subst this;exact .inl ⟨NX _,hd σ H p⟩
theorem Ib{p:Addr}{xs:List V}{k:Int}{j:Nat}{R:Hp->Prop}(h:H p=some (.lst xs))(e:k=(j:Int))(z:j<xs.length)(q:R (upd H p (.lst (xs.set j v)))):F_ (.ref p) (.int k) v H R:=by
 refine⟨p,xs,k,j,rfl,rfl,h,?_,q⟩;unfold ET;rw[e,if_pos (),if_pos ()];rfl
theorem Gx{a:Addr}{ns:List Int}{m:Int}(h:aI K H a (ns.map V.int))(F:0<ns.length)(I:∀z,z∈ns->(∀y,y∈ns->z<=y)->z=m)(q:Q (.int m) H):IX K [.ref a] H Q:=
 ⟨a,ns,rfl,h,F,fun z h1 h2=>by rw[I z h1 h2];exact q⟩
end
section
variable{K:PySem.W.Frag}{D:kM}{σ:L2.St}{H:Hp}{Q:VK}{v u:V}{ta tb tc:TE}{r r':R2}{i j k:Int}
def Jr(r r':R2)(tc:TE)(σ:L2.St)(x y:V)(H:Hp)(Q:VK):Prop:=r x y H fun z F=>∃k,z=.bl k/\(if k=true then tc σ F fun I J=>r' y I J Q else Q (.bl false) F)
theorem aV(h:ta σ H fun x H1=>tb σ H1 fun y H2=>Jr r r' tc σ x y H2 Q):pi r r' ta tb tc σ H Q:=h
theorem dM(h:Jr r r' tc σ v u H Q):Jr r r' tc σ v u H Q:=h
theorem bJ(z:∀R:VK,R (.int k) H->tc σ H R)(q:Q (.bl (decide (i<=j)&&decide (j<=k))) H):Jr (ss fun i j=>.bl (decide (i<=j))) (ss fun i j=>.bl (decide (i<=j))) tc σ (.int i) (.int j) H Q:=by
 refine⟨i,j,rfl,rfl,_,rfl,?_⟩;by_cases h:i<=j
 ·rw[decide_eq_true h] at q ⊢;exact z _ ⟨j,k,rfl,rfl,q⟩
 ·rw[decide_eq_false h] at q ⊢;exact q
theorem bP(z:∀R:VK,R (.int k) H->tc σ H R)(q:Q (.bl (decide (i<j)&&decide (j<=k))) H):Jr (ss fun i j=>.bl (decide (i<j))) (ss fun i j=>.bl (decide (i<=j))) tc σ (.int i) (.int j) H Q:=by
 refine⟨i,j,rfl,rfl,_,rfl,?_⟩;by_cases h:i<j
 ·rw[decide_eq_true h] at q ⊢;exact z _ ⟨j,k,rfl,rfl,q⟩
 ·rw[decide_eq_false h] at q ⊢;exact q
theorem dN{ty td:TE}(h:ty σ H fun y H1=>td σ H1 fun x H2=>∃a o,x=.ref a/\kH H2 a y o/\Q (.bl o.isSome) H2):Jd ty td σ H Q:=h
theorem aW{ty td:TE}(h:ty σ H fun y H1=>td σ H1 fun x H2=>∃a o,x=.ref a/\kH H2 a y o/\Q (.bl (!o.isSome)) H2):AO ty td σ H Q:=h
theorem cY{ty td:TE}(h:td σ H fun x H1=>ty σ H1 fun y H2=>∃a v,x=.ref a/\kH H2 a y (some v)/\Q v H2):Gc td ty σ H Q:=h
theorem cZ{ty td tv:TE}(h:tv σ H fun v H1=>td σ H1 fun x H2=>ty σ H2 fun y F=>∃a z,x=.ref a/\wx F a y v z/\D.nx σ z):Gd td ty tv D σ H:=h
theorem bQ(h:∀p,H p=none->Q (.ref p) (upd H p (.dK []))):Ds σ H Q:=h
theorem bR(h:∀p,H p=none->Q (.ref p) (upd H p (.dT []))):Dt σ H Q:=h
theorem bS{ta:TA}{g:TG}{tb:TS}(h:ta σ H fun vs H1=>∃j:Int,vs=[.int j]/\-(2 ^ 62)<=j/\j<2 ^ 62/\∃W:Nat->Nat->L2.St->Hp->Prop,(∃m,W 0 m σ H1)/\∀z m σ H,W z m σ H->
   ((qR 0 j.toNat).stop z H/\D.nx σ H)\/((qR 0 j.toNat).go z H/\∃N:L2.St->Hp->Prop,(∀σ' H',N σ' H'->∃F,F<m/\W (z+1) F σ' H')/\∀x H',(qR 0 j.toNat).yld z H x H'->g x σ H' fun I H2=>tb {D with nx:=N,ct:=N,bk:=D.nx} I H2)):Bx (Da ta) g tb D σ H:=h
theorem aO{ta tv:TE}{I:V->V->Hp->VK->Prop}{f:N_}(h:ta σ H fun x H1=>∃a C dx fs v,x=.ref a/\H1 a=some (.ins C dx fs)/\rN K C/\aX K C f/\fs.lookup f=some v/\
 tv σ H1 fun y H2=>I v y H2 fun z J=>∃F fs',J a=some (.ins C F fs')/\fs'.length<1000/\D.nx σ (upd J a (.ins C F (bf f z fs')))):AE K ta tv I f D σ H:=h
theorem fY{v:V}{R:VK}(h:R v H):tC v σ H R:=h
theorem bJd(q:Q (.bl (decide (i<=j)&&decide (j<=k))) H):Jr (ss fun i j=>.bl (decide (i<=j))) (ss fun i j=>.bl (decide (i<=j))) (tC (.int k)) σ (.int i) (.int j) H Q:=bJ (fun _ h=>fY h) q
theorem bPd(q:Q (.bl (decide (i<j)&&decide (j<=k))) H):Jr (ss fun i j=>.bl (decide (i<j))) (ss fun i j=>.bl (decide (i<=j))) (tC (.int k)) σ (.int i) (.int j) H Q:=bP (fun _ h=>fY h) q
end
section
variable{X:Cx}{σ:L2.St}{H:Hp}{Q:VK}
def Gy(t:TA):TE:=fun σ H Q=>t σ H fun vs H1=>∃j:Int,vs=[.int j]/\(-(2 ^ 62)<=j/\j<2 ^ 62)/\∀p,H1 p=none->Q (.ref p) (upd H1 p (.rng 0 j))
theorem CA{a:OH}{ta:TA}{p pos:Q2}(hg:Gl X "range")(L:X.mg "range"=none)(ha:PA X [a] ta)(hs:starEach [a] X.env=[(false,eval a X.env)]:=by rfl):
  PE X (.Call (.Name "range" p) [a] [] pos) (Gy ta):=by
 intro pins s σ H Q I h;refine UC (jm I hg L Sg (PyProof.Rows.callWith_type1 (dQ (ha pos pins s σ H _ I h) fun us z ⟨vs,H1,F,M,J⟩=>?_) (by rw[hs];rfl) (by rfl)));obtain⟨j,e,⟨J,Y⟩,q⟩:=J;subst e;cases M with
 |cons r O=>
  cases O;obtain⟨t,rfl⟩:=r;refine call_range_1 ?_;have S:H1 z.heap.objs.size=none:=F.hok.fresh (NX _);exact⟨.ref z.heap.objs.size,_,F.laid (fun b u e=>Heap.get?_push_of_some _ e) (NX _) (show eY X.prog X.w _ _ _ (.rng 0 j) from⟨_,_,_,Heap.get?_push_size _ rfl⟩),rfl,q _ S⟩
theorem dz{t:TA}(h:t σ H fun vs H1=>∃j:Int,vs=[.int j]/\(-(2 ^ 62)<=j/\j<2 ^ 62)/\∀p,H1 p=none->Q (.ref p) (upd H1 p (.rng 0 j))):Gy t σ H Q:=h
end
section
variable{X:Cx}{K:PySem.W.Frag}{e o a b value:OH}{es:List OH}{te ta tb tv to:TE}{t:TA}{p pos pos' apos cpos:Q2}{x f:N_}{n k i:Nat}{ps:List N_}{sp:Sp}{C:Addr}
theorem aF(F:fK X.prog X.w X.K X.mg X.base k x ps sp)(J:gr n X.A)(ha:PA X (e::es) t)(L:k<=n:=by decide)(hg:Gl X x:=by rfl)(z:(x==("__debug__":N_))=false:=by decide)(he:starEach (e::es) X.env=(false,eval e X.env)::starEach es X.env:=by rfl)(I:(backTo pos (starEach es X.env)).any (·.1)=false:=by rfl):PE X (.Call (.Name x p) (e::es) [] pos) (sC sp [] E0 t):=by
 obtain⟨f,fd,m,k,b,G⟩:=F;exact iY G (J.mono L) hg m k b .nil i6 ha z he I
theorem j7(F:oK X.prog X.w X.K X.mg X.base k C ps sp)(J:X.mg x=some (.ref C))(L:gr n X.A)(ha:PA X (e::es) t)(O:k+1<=n:=by decide)(hg:Gl X x:=by rfl)(z:(x==("__debug__":N_))=false:=by decide)(he:starEach (e::es) X.env=(false,eval e X.env)::starEach es X.env:=by rfl)(I:(backTo pos (starEach es X.env)).any (·.1)=false:=by rfl):PE X (.Call (.Name x p) (e::es) [] pos) (AF C sp [] E0 t):=by
 obtain⟨f,fd,M,b,G⟩:=F;exact ES M G (L.mono O) hg J b .nil i6 ha z he I
theorem aM(z:X.N.Nodup)(i:Nat)(he:PE X e te)(hi:X.N[i]?=some x:=by rfl)(F:Loc X.env.scope x:=by first|exact Or.inl rfl|exact Or.inr rfl)(hs:Q3 e (some (.Name x pos')) pos.line X.env=pure false:=by rfl)(I:X.fn x=true\/X.env.scope.names.lookup x=some .local:=by first|exact .inl rfl|exact .inr rfl|assumption):PS X (.Assign [.Name x pos'] e pos) (xA te (fS i)):=sk z hi F he hs I
theorem eU(z:X.N.Nodup)(i:Nat)(hi:X.N[i]?=some x:=by rfl)(F:Loc X.env.scope x:=by first|exact Or.inl rfl|exact Or.inr rfl)(I:X.fn x=true\/X.env.scope.names.lookup x=some .local:=by first|exact .inl rfl|exact .inr rfl|assumption):PG X (.Name x pos) (fS i):=wf z hi F I
theorem aA(he:PE X e ta)(hb:PD e f X.env (eval e X.env)=eval e X.env:=by rfl):PE X (.Attribute e f pos) (BB X.K ta f):=fJ he hb
theorem lO(he:PE X e ta)(z:X.K=K:=by rfl)(hb:PD e f X.env (eval e X.env)=eval e X.env:=by rfl):PE X (.Attribute e f pos) (BB K ta f):=Fc z he hb
theorem ba{r:R2}(z:Iu X r)(ha:PE X a ta)(hb:PE X b tb)(hs:AI b:=by exact fun _ _=>rfl):PE X (.Subscript a b pos) (y_ r ta tb):=AJ z ha hb hs
theorem dA{z:R7}{r:R2}(F:ng X (O2 z) r)(ha:PE X a ta)(hb:PE X b tb)(I:PX z b=false:=by exact iC _):PT X (.Compare a [z] [b] pos) (su (y_ r ta tb)):=hG F ha hb I
theorem jH{z:R7}{r:R2}(F:ng X (O2 z) r)(ha:PE X a ta)(hb:PE X b tb)(I:PX z b=false:=by exact iC _):PE X (.Compare a [z] [b] pos) (y_ r ta tb):=nQ F ha hb I
theorem fo(ha:PE X o ta)(hv:PE X value tv)(hs:Q3 value (some (.Attribute o f pos')) pos.line X.env=pure false:=by rfl):PS X (.Assign [.Attribute o f pos'] value pos) (ER X.K ta tv f):=sA ha hv hs
end
section
variable{P:N3}{w:Oh}{K:PySem.W.Frag}{mg:N_->Option NU}{base:Heap}{x q m:N_}{st:OE}{N ps:List N_}{k:Nat}{sp:Sp}{C:Addr}
def D_(P:N3)(w:Oh)(K:PySem.W.Frag)(mg:N_->Option NU)(base:Heap)(q:N_)(st:OE)(N:List N_)(k:Nat)(sp:Sp):Prop:=
 ∀(f:Addr)(z:NU)(A:OG)(outer:List Tk)(s:NY)(H:Hp)(vs:List V)(Q:VK)(E:XK),gr k (A.deeper (Si q (ap st) s.heap.objs.size f z))->sp vs H Q E->
  ∃t,Ay (xG CZ P w K mg base N q (ap st) f z A outer s H E).nox (gN st) t/\t {nx:=fun _ H'=>Q .non H',rt:=Q} (start N vs) H
theorem aN(d:aR K mg x st)(S:ax N ps (ap st))(z:D_ P w K mg base x st N k sp)(hb:D9 x x st ps:=by (repeat intro _);rfl)(len:∀vs H Q E,sp vs H Q E->vs.length=ps.length:=by intro vs H Q E h;cases h;first|(subst vs;rfl)|(rename_i h;cases h;subst vs;rfl)):fK P w K mg base (k+1) x ps sp:=by
 obtain⟨f,fd,F,I⟩:=d;exact⟨f,fd,I,F.kp,F.binds hb,F.ok S len (z f)⟩
theorem mr(d:iH K C q st)(S:ax N ps (ap st))(z:D_ P w K mg base q st N k sp)(hb:D9 "__init__" q st ps:=by (repeat intro _);rfl)(len:∀vs H Q E,sp vs H Q E->vs.length=ps.length:=by intro vs H Q E h;cases h;first|(subst vs;rfl)|(rename_i h;cases h;subst vs;rfl)):oK P w K mg base (k+1) C ps sp:=by
 obtain⟨f,fd,M,F⟩:=d;exact⟨f,fd,M,F.binds hb,F.ok S len (z f)⟩
theorem Bf(d:Vr K C m q st)(S:ax N ps (ap st))(z:D_ P w K mg base q st N k sp)(hb:D9 m q st ps:=by (repeat intro _);rfl)(len:∀vs H Q E,sp vs H Q E->vs.length=ps.length:=by intro vs H Q E h;cases h;first|(subst vs;rfl)|(rename_i h;cases h;subst vs;rfl)):MethP P w K mg base (k+1) C m ps sp:=by
 obtain⟨f,fd,M,F⟩:=d;exact⟨f,fd,M,F.binds hb,F.ok S len (z f)⟩
end
local macro_rules|`(tactic|walk_at $s:str)=>do
 let t ←match s.getString with|"same"=>pure "_ Same.refl|=|?a Same.upd;s same|?a Same.updN;s same"|"at"=>pure "=|a? Fare.ah.keep;s same|a? Fare.aa.keep;s same|a? Fare.am.keep;s same"|"w"=>pure "r x"|"es"=>pure "dd? Fare.b9d|d? Fare.cE"|"cv"=>pure "ata? Fare.aa.i_minM Fare.aa.i_tillM Fare.aa.i_tillT|at? Fare.ah.i_begin Fare.ah.i_end Fare.ah.i_class Fare.ah.i_card Fare.aa.i_number Fare.aa.i_cents Fare.am.i_product Fare.am.i_spans Fare.am.i_ends"|"x"=>pure "? Fare.eQ;? Fare.g_ Fare.ia Fare.ib Fare.ie Fare.ig Fare.ii Fare.ij Fare.ik Fare.il Fare.im Fare.eA Fare.eB Fare.eC Fare.eD|? Fare.dY|? Fare.cT;? Fare.cC Fare.cD Fare.eJ Fare.eK Fare.eM Fare.eN|? Fare.eT;? Fare.eO Fare.cJ Fare.bx|? Fare.h_ Fare.bp Fare.cw Fare.cx Fare.bi Fare.d3 Fare.cq Fare.d4 Fare.cr Fare.bj Fare.cu Fare.bm Fare.d5 Fare.bn Fare.d6 Fare.cy Fare.cz Fare.d9 Fare.d_ Fare.ee Fare.er Fare.aK Fare.br Fare.bt Fare.bu Fare.dZ Fare.cc Fare.cG Fare.cH Fare.cI Fare.cF Fare.cA Fare.cB Fare.bv Fare.aQ Fare.bw Fare.cO Fare.cP Fare.cQ Fare.bG Fare.cR Fare.cS Fare.ci Fare.cp Fare.bH Fare.ck Fare.cj Fare.bh Fare.bg Fare.bE Fare.bF Fare.bI|? Fare.eR;? Fare.g5 Fare.io Fare.ip Fare.iq Fare.ir Fare.iu Fare.iw Fare.iz Fare.iA Fare.eE Fare.eF Fare.eG Fare.eI|? Fare.cU;? Fare.g6 Fare.hC Fare.bz Fare.bA Fare.bB Fare.bC Fare.bD|? Fare.eS;s es|? Fare.cW;? Fare.cK Fare.cM|? Fare.cV;s cv"|_=>Lean.Macro.throwUnsupported
 `(tactic|fail $(Lean.Syntax.mkStrLit ("~"++t)))
local macro_rules|`(tactic|exists 0,$n:num,$m:num)=>do let x ←`(some _);let y ←`(none);let l:=Array.replicate n.getNat x++Array.replicate m.getNat y;`(tactic|((try dsimp only[bW,aS]);refine cN (σ':=[$l,*]) rfl ?_))
section
variable{P:N3}{w:Oh}{K:PySem.W.Frag}{mg:N_->Option NU}{base:Heap}{A:cX}
theorem aa.i_first{p:Addr}{k:Nat}{Pr:N1}{H:Hp}{Q:VK}(T:Txt K mg A)(h:aa A H p k Pr)(q:Q (.bl Pr.first) H):dJ K "first_only" (.ref p) H Q:=by rw[h.first_ T];exact q
theorem aa.i_from{p:Addr}{k:Nat}{Pr:N1}{H:Hp}{Q:VK}(T:Txt K mg A)(h:aa A H p k Pr)(q:Q (.int Pr.from_) H):dJ K "begins_from" (.ref p) H Q:=by rw[h.from__ T];exact q
theorem aa.i_before{p:Addr}{k:Nat}{Pr:N1}{H:Hp}{Q:VK}(T:Txt K mg A)(h:aa A H p k Pr)(q:Q (.int Pr.to_) H):dJ K "begins_before" (.ref p) H Q:=by rw[h.before_ T];exact q
theorem aa.i_days{p:Addr}{k:Nat}{Pr:N1}{H:Hp}{Q:VK}(T:Txt K mg A)(h:aa A H p k Pr)(q:Q (.str (St (ou Pr))) H):dJ K "weekdays" (.ref p) H Q:=by rw[h.weekdays_ T];exact q
theorem mxi(x y:Nat):(if (y:Int)>(x:Int) then(y:Int) else(x:Int))=((max x y:Nat):Int):=by split<;>lia
theorem mni(x y:Nat):(if (y:Int)<(x:Int) then(y:Int) else(x:Int))=((min x y:Nat):Int):=by split<;>lia
theorem qF(T:Txt K mg A):fK P w K mg base 2 "spans_of" ["product","stay"] (yB A):=by
 have nd:=qE.nd;refine aN T.MP qE (fun f as Ar outer s H vs Q E hr h=>?_)
 ·obtain⟨p,q,k,Pr,a,b,cls,card,rfl,hp,hq,hb,hd,av,bd,kk⟩:=h
  refine⟨_,(ae (aM nd 2 (aH ag))
   (ae (bc (fI (dD (aF (Cu T) hr (ab (pv 0) (ab (pv 1) ag))))) (ak (au (pv 2))) aG)
   (ae (aM nd 3 (HJ (dD (aA (pv 0))) (az (fU rfl) (by rfl) T.Kz gY (ab (aD b0 (aA (pv 1)) ao) (ab (aA (pv 1)) ag))) (aA (pv 1))))
   (ae (fW OU.never rfl (pb (by rfl) T.KA (ab (aD jN (aA (pv 1)) (aE T.Kx)) (ab (aD b0 (aD jN (aD bO (pv 3) ao) (aE T.Kx)) ao) ag))) (eU nd 4) (ae (aM nd 5 (az (lW rfl) (by rfl) T.KJ sJ (ab (aA (pv 1)) (ab (aD b0 (aD kO (pv 4) (aE T.Kx)) (aA (pv 0))) ag))))
   (ae (aM nd 6 (az (fU rfl) (by rfl) T.Kz gY (ab (pv 3) (ab (aD b0 (aD kO (pv 4) (aE T.Kx)) (aA (pv 0))) ag))))
   (ak (bc ((sh (hG fB (AJ wq (aA (pv 0)) (aD zh (pv 4) ao) (fun _ _=>rfl)) de (iC _)) (nO (hG iX (pv 5) (pv 6) (iC _))))).pt (ak (dr (gh PySem.F.plainAttrs_list PySem.F.slot_list_append PySem.F.type_list_append eX (pv 2) (ab (gW (ab (pv 5) (ab (pv 6) ag))) ag)))) aG)))))
   (ak (au (pv 2))))))),?_⟩
  exists 0,2,5;left;refine⟨gG,fun r I=>?_⟩;left;have M:Same H (upd H r (.lst [])):=Same.new I;have O:(upd H r (.lst [])) r=some (.lst []):=ac;generalize upd H r (HO.lst [])=H1 at M O ⊢;have p1:=hp.keep M;have q1:=hq.keep M;refine⟨p,q,k,Pr,a,b,cls,card,rfl,p1,q1,_,rfl,?_⟩;unfold wR at kk;refine qS (fun hf=>?_) (fun hf=>?_)
  ·have S:Ad Pr cls card=false:=by simpa using hf
   rw[S] at kk;left;exact kk H1 r I M (aT.nil O)
  ·have S:Ad Pr cls card=true:=by simpa using hf
   rw[S,if_pos rfl] at kk;obtain⟨b1,b2,b3,b4,b5,b6⟩:=bZ hb;left;unfold Ff;left
   have J:(dR a b Pr:Int)=if Pr.first=true then(if (b:Int)<(a:Int)+1 then(b:Int) else(a:Int)+1) else(b:Int):=by
    unfold dR;by_cases h:Pr.first=true
    ·rw[if_pos h,if_pos h];exact(mni (a+1) b).symm
    ·rw[if_neg h,if_neg h]
   have ar:dR a b Pr<=b:=by
    unfold dR;split<;>lia
   refine aa.i_first T p1 ⟨_,rfl,.int (dR a b Pr),qS (fun h=>?_) (fun h=>?_),?_⟩
   ·rw[if_pos h] at J;left;exact⟨by rw[J],rfl⟩
   ·rw[if_neg h] at J;left;exact⟨by rw[J],rfl⟩
   ·have en:(((dR a b Pr:Int)-1)/1440+1-(a:Int)/1440).toNat<=dt a b Pr:=dvy _ _
    left;refine⟨H_ (),?_⟩;refine lV (fun i σ H'=>∃v4 v5 v6,σ=[some (.ref p),some (.ref q),some (.ref r),some (.int (dR a b Pr)),v4,v5,v6]/\Same H H'/\aT H' r (dh a b Pr (a/1440) i)) ⟨none,none,none,rfl,M,aT.nil O⟩ ?_ ?_
    ·rintro i σ H' hi ⟨v4,v5,v6,rfl,Y,pr⟩;have p2:=hp.keep Y;have q2:=hq.keep Y;rw[show(a:Int)/1440+(i:Int)=((a/1440+i:Nat):Int) by lia];generalize al:a/1440+i=d
     have cm:xE (d:Int) 1440:=.inr ⟨by decide,by decide⟩
     have bk:d<=20000:=by
      unfold dt at en;lia
     have hx:AG (St (ou Pr)).cps.toList ((d:Int)%7)=some (if Pr.days.getD (d%7) false=true then 49 else 48):=by
      refine Bc (j:=d%7) () ?_;show(ou Pr)[d%7]?=_;unfold ou;rw[NZ,OO];rw[PQ (show d%7<Pr.days.length by rw[hd];lia)];rfl
     have e5:(if (d:Int)*1440+(Pr.from_:Int)>(a:Int) then(d:Int)*1440+(Pr.from_:Int) else(a:Int))=((db a b Pr d).1:Int):=mxi a (d*1440+Pr.from_)
     have e6:(if (d:Int)*1440+(Pr.to_:Int)<(dR a b Pr:Int) then(d:Int)*1440+(Pr.to_:Int) else(dR a b Pr:Int))=((db a b Pr d).2:Int):=mni (dR a b Pr) (d*1440+Pr.to_)
     have step:=lL a b Pr i (a/1440);rw[al] at step
     left;refine bY cm ?_;left;refine aa.i_from T p2 ?_;left;refine bY cm ?_;left;refine aa.i_before T p2 ?_;left;refine aa.i_days T p2 ?_;left;refine⟨_,_,_,rfl,rfl,?_,hx,?_⟩
     ·rw[gj];unfold ou;rw[NV,hd];decide
     left;refine gz (fun h1=>?_) (fun h1=>?_)
     ·have hg:Pr.days.getD (d%7) false=true:=by
       cases hg:Pr.days.getD (d%7) false with
       |true=>rfl
       |false=>
        rw[hg] at h1;exact absurd h1 (by decide+kernel)
      left;refine gz (fun h2=>?_) (fun h2=>?_)
      ·have hok:dG a b Pr d=true:=by
        rw[e5,e6] at h2;unfold dG;rw[hg,Op,decide_eq_true_eq];lia
       rw[if_pos hok] at step;obtain⟨ts,t1,t2,t3⟩:=id pr;left;refine gi (aI.of t1) ?_;left;refine⟨gJ,fun t ht=>?_⟩;have an:r≠t:=aw t1 ht;left;refine fG (by rw[aj an];exact t1) (fj ?_) ⟨_,_,_,rfl,?_,?_⟩
       ·rw[NV,t2];have:=Ae a b Pr i (a/1440);lia
       ·exact (Y.updN ht).upd I
       ·rw[step,e5,e6];exact aT.snoc pr t1 ht
      ·have hok:¬dG a b Pr d=true:=by
        rw[e5,e6] at h2;unfold dG;rw[NW,decide_eq_true_eq];intro q;lia
       rw[if_neg hok,OC] at step;left;exact⟨_,_,_,rfl,Y,by rw[step];exact pr⟩
     ·have hok:¬dG a b Pr d=true:=by
       intro q;unfold dG at q;rw[NW] at q;rw[q.1] at h1;exact h1 (by decide+kernel)
      rw[if_neg hok,OC] at step;left;exact⟨_,_,_,rfl,Y,by rw[step];exact pr⟩
    ·rintro σ H' ⟨v4,v5,v6,rfl,Y,pr⟩;left;refine kk H' r I Y ?_
     have:dh a b Pr (a/1440) (((dR a b Pr:Int)-1)/1440+1-(a:Int)/1440).toNat=dh a b Pr (a/1440) (dt a b Pr):=by
      by_cases Z:dR a b Pr=0
      ·have L:a=0:=by
        unfold dR at Z;split at Z<;>lia
       have e1:(((dR a b Pr:Int)-1)/1440+1-(a:Int)/1440).toNat=0:=by rw[Z,L];decide
       have e2:dt a b Pr=1:=by unfold dt;rw[Z,L]
       rw[e1,e2,L];show[]=(if dG 0 b Pr 0=true then _ else[])++[]
       have hok:¬dG 0 b Pr 0=true:=by
        unfold dG db;rw[L] at Z;rw[NW,decide_eq_true_eq,Z];rintro⟨_,q⟩;dsimp only at q;lia
       rw[if_neg hok];rfl
      ·congr 1;exact dvx ‹_›
     rw[<-this];exact pr
end
section
variable{P:N3}{w:Oh}{K:PySem.W.Frag}{mg:N_->Option NU}{base:Heap}{A:cX}
theorem qG{p:N1}{m s e:Nat}(h:p.holds=.mins m):iM p s e=(N0 (e-s)).map fun i=>s+m+i:=by
 unfold iM;rw[h]
theorem qH{p:N1}{h s e:Nat}(z:p.holds=.till h):iM p s e=N7 (min e (s-s%1440+h)-s) (s-s%1440+h)++N7 (e-s-(min e (s-s%1440+h)-s)) (s-s%1440+h+1440):=by
 unfold iM;rw[z]
inductive qW(A:cX)(vs:List V)(H:Hp)(Q:VK)(E:XK):Prop|mk(p:Addr)(k:Nat)(Pr:N1)(s e:Nat)(_:vs=[.ref p,nv s,nv e])(_:aa A H p k Pr)(_:Pr.bounded=true)(_:s<=e)(_:e<=10000000)(_:e-s<=1440)(_:∀(H':Hp)(r:Addr),H r=none->Same H H'->H' r=some (.lst ((iM Pr s e).map nv))->Q (.ref r) H')
theorem qX(T:Txt K mg A):fK P w K mg base 1 "ends_in_span" ["product","begin","end"] (qW A):=by
 have S:ax ["product","begin","end","turn","early"] ["product","begin","end"] (ap k6):=axo
 have nd:=S.nd;refine aN T.MR S (fun f al Ar outer s H vs Q E hr h=>?_)
 ·obtain⟨p,k,Pr,b,e,rfl,hp,hb,an,he,hd,I⟩:=h
  refine⟨_,(ae (bc (dA ph (aA (pv 0)) fk) (ak (au (c9 (mP rfl) (by rfl) T.KL (by rfl) (ab (DM (by rfl) T.KA (ab (aD b0 (pv 1) (aA (pv 0))) (ab (aD b0 (pv 2) (aA (pv 0))) ag))) ag)))) aG)
   (ae (aM nd 3 (aD b0 (aD bO (pv 1) (aD zh (pv 1) (aE T.Kx))) (aA (pv 0))))
   (ae (aM nd 4 (az (lW rfl) (by rfl) T.KJ sJ (ab ao (ab (aD bO (az (fU rfl) (by rfl) T.Kz gY (ab (pv 2) (ab (pv 3) ag))) (pv 1)) ag))))
   (ak (au (aD iD (aD pz (aH (ab (pv 3) ag)) (pv 4)) (aD pz (aH (ab (aD b0 (pv 3) (aE T.Kx)) ag)) (aD bO (aD bO (pv 2) (pv 1)) (pv 4))))))))),?_⟩
  exists 0,3,2;obtain⟨b1,M,b3,b4,b5,b6⟩:=bZ hb;rcases lN Pr.holds with⟨m,J⟩|⟨t,J⟩
  ·have hm:m<=10080:=by
    rw[J] at M;exact(Be M).2
   left;refine⟨H_ (),fun q hq=>?_⟩;left;refine D7 ac ?_ ?_ ?_ fun l hl=>?_
   ·lia
   ·lia
   ·lia
   refine I _ l (Same.free (Same.new hq) hl) (Same.updN (Same.updN (Same.refl _) hq) hl) ?_;rw[ac,qG J,On];rw[show((e:Int)+m-(b+m)).toNat=e-b by lia];congr 3
  ·have ht:t<1440:=by
    rw[J] at M;exact FJ M
   left;have e1:(b:Int)-b%1440+t=((b-b%1440+t:Nat):Int):=by lia
   rw[e1];rw[qH J] at I;generalize b-b%1440+t=z at I e1 ⊢
   have e2:(if (if (z:Int)<(e:Int) then(z:Int) else(e:Int))-b>0 then(if (z:Int)<(e:Int) then(z:Int) else(e:Int))-b else 0)=((min e z-b:Nat):Int):=by
    split<;>split<;>lia
   rw[e2];have e3:min e z-b<=e-b:=by lia
   generalize min e z-b=F at I e3 ⊢;refine⟨c_,fun l1 h1=>?_⟩;left;refine pT (n:=F) ac (.inl rfl) () fun O h2=>?_;left;refine⟨c_,fun l3 h3=>?_⟩;left;refine pT (n:=e-b-F) ac (.inl ()) () fun l4 h4=>?_;have L:O≠l3:=aw ac h3;have Y:O≠l4:=aw (by rw[aj L];exact ac) h4;refine lM (by rw[aj Y,aj L];exact ac) ac (eP (by rw[Pj,Pj];lia)) fun r Z=>?_;refine I _ r ?_ (by walk_at "same") ?_
   ·exact Same.free (H':=upd (upd (upd (upd H l1 _) O _) l3 _) l4 _) (by walk_at "same") Z
   ·rw[ac,Oj,QS,QS];rfl
theorem aT.at_{H:Hp}{q:Addr}{l:List (Nat×Nat)}(h:aT H q l):∃z:List Addr,H q=some (.lst (z.map V.ref))/\z.length=l.length/\∀(i:Nat)(t:Addr)(x:Nat×Nat),z[i]?=some t->l[i]?=some x->H t=some (.tup [.int x.1,.int x.2]):=h.ex
theorem nD(p:N1)(s e:Nat):(iM p s e).length=e-s:=by
 rcases lN p.holds with⟨m,z⟩|⟨t,z⟩
 ·rw[qG z];simp
 ·rw[qH z];simp;exact FM.mnx _ _ _
theorem mX{a b:Nat}{p:N1}(z:p.to_<=1440):∀(k d:Nat)(x:Nat×Nat),x∈dh a b p d k->a<=x.1/\x.1<x.2/\x.2<=b/\x.2-x.1<=1440
 |0,d,x,h=>by cases h
 |k+1,d,x,h=>by
  rw[ge,OK] at h;rcases h with h|h
  ·split at h
   ·rename_i hs;have:=lw z hs;cases OT.mp h;lia
   ·cases h
  ·exact mX z k (d+1) x h
theorem mv{w:Ob}{a b:Nat}{p:N1}(z:p.to_<=1440)(x:Nat×Nat)(h:x∈FM.spans w a b p):a<=x.1/\x.1<x.2/\x.2<=b/\x.2-x.1<=1440:=by
 unfold FM.spans at h;split at h
 ·exact mX z _ _ x h
 ·cases h
theorem CB9{a x:Nat}(h:x<=a+10080):(x-1)/1440+1-a/1440<=9:=by lia
theorem CB{w:Ob}{a b:Nat}{p:N1}(hb:b<=a+10080):(FM.spans w a b p).length<=9:=by
 unfold FM.spans;split
 ·refine Od (Ae a b p _ _) ?_;unfold dt dR;split<;>refine CB9 ?_
  ·exact Nat.le_trans (Nat.min_le_right _ _) hb
  ·exact hb
 ·exact OA _
def gl(w:Ob)(Pr:N1)(a b i:Nat):List Nat×Nat:=((FM.spans w a b Pr).take i).foldl (gc Pr a) ([],a)
theorem vW{w:Ob}{Pr:N1}{a b i:Nat}{x:Nat×Nat}(h:(FM.spans w a b Pr)[i]?=some x):gl w Pr a b (i+1)=gc Pr a (gl w Pr a b i) x:=by
 unfold gl;rw[Pg,h,PU];rfl
theorem tN{w:Ob}{Pr:N1}{a b:Nat}(z:Pr.to_<=1440)(hb:b<=a+10080):∀i,i<=(FM.spans w a b Pr).length->(gl w Pr a b i).1.length<=10080+1440*i
 |0,_=>by simp[gl]
 |i+1,hi=>by
  have e:(FM.spans w a b Pr)[i]?=some ((FM.spans w a b Pr)[i]'()):=by simp
  have m:=mv (w:=w) (a:=a) (b:=b) (p:=Pr) z _ (Ps (l:=FM.spans w a b Pr) (n:=i) ());have F:=tN (w:=w) z hb i ();rw[vW e];unfold gc;simp only[Of,Pj,nD];lia
inductive tO(A:cX)(vs:List V)(H:Hp)(Q:VK)(E:XK):Prop|mk(p q r:Addr)(k:Nat)(Pr:N1)(w:Ob)(a b:Nat)(_:vs=[.ref p,.ref q,.ref r])(_:aa A H p k Pr)(_:ah A H q a b w.cls (dC w.card))(_:aT H r (FM.spans w a b Pr))(_:Pr.bounded=true)(_:a<=b)(_:b<=5010000)(_:b-a<=10080)(_:∀(H':Hp)(r:Addr),H r=none->Same H H'->H' r=some (.lst ((N0 (b-a)).map fun i=>V.int ((FM.endAt w a Pr i:Int)-a)))->Q (.ref r) H')
theorem tP(T:Txt K mg A):fK P w K mg base 2 "latest_ends" ["product","stay","spans"] (tO A):=by
 have S:ax ["product","stay","spans","ends","latest","begin","end","minute"] ["product","stay","spans"] (ap mH):=axo
 have nd:=S.nd;refine aN T.MS S (fun f bq Ar outer s H vs Q E hr h=>?_)
 ·obtain⟨p,q,r,k,Pr,w,a,b,rfl,hp,hq,al,hb,an,bs,c0,kk⟩:=h
  refine⟨_,(ae (aM nd 3 (aH ag))
   (ae (aM nd 4 (aA (pv 1)))
   (ae (fW OU.never rfl (dj (pv 2)) (sj rfl (cg (eU nd 5) (cg (eU nd 6) gm))) (ae (dr (gh PySem.F.plainAttrs_list PySem.F.slot_list_extend PySem.F.type_list_extend gv (pv 3) (ab (aD pz (aH (ab (pv 4) ag)) (aD bO (aD bO (pv 5) (aA (pv 1))) (az aB (by rfl) T.Ks bU (ab (pv 3) ag)))) ag)))
   (ae (dr (gh PySem.F.plainAttrs_list PySem.F.slot_list_extend PySem.F.type_list_extend gv (pv 3) (ab (aF (qX T) hr (ab (pv 0) (ab (pv 5) (ab (pv 6) ag)))) ag)))
   (ak (aM nd 4 (ba ay (pv 3) (kj gU ao)))))))
   (ae (dr (gh PySem.F.plainAttrs_list PySem.F.slot_list_extend PySem.F.type_list_extend gv (pv 3) (ab (aD pz (aH (ab (pv 4) ag)) (aD bO (aD bO (aA (pv 1)) (aA (pv 1))) (az aB (by rfl) T.Ks bU (ab (pv 3) ag)))) ag)))
   (ak (au (iE rfl nd (dj (pv 3)) (dn (own:=[("minute",7)]) rfl) (fun _ _ _ _ _=>(by exact(eU nd 7))) (fun _ _ _ _ _=>(by exact fA)) (fun _ _ _ _ _=>(by exact(aD bO (pv 7) (lO (K:=K) (pv 1)))))))))))),?_⟩
  exists 0,3,5;obtain⟨b1,b2,b3,b4,b5,b6⟩:=bZ hb;left;refine⟨gG,fun l hl=>?_⟩;left;obtain⟨ts,t1,t2,t3⟩:=al.at_;have sl:=CB (w:=w) (a:=a) (b:=b) (p:=Pr) (show b<=a+10080 by lia);refine kE (Hb:=H) (xs:=ts.map V.ref) (by walk_at "same") (aI.of t1) (fun i σ H'=>∃v5 v6 v7,σ=[some (.ref p),some (.ref q),some (.ref r),some (.ref l),some (nv (gl w Pr a b i).2),v5,v6,v7]/\Same H H'/\H' l=some (.lst ((gl w Pr a b i).1.map nv))) ⟨none,none,none,rfl,by walk_at "same",ac⟩ (fun i σ H' h=>by obtain⟨_,_,_,_,h,_⟩:=h;exact h) ?_ ?_
  ·rintro i x σ H' hx ⟨v5,v6,v7,rfl,s1,I⟩
   have hi:i<(FM.spans w a b Pr).length:=by
    have:=(N4.mp hx).1;rw[NV] at this;lia
   have e:(FM.spans w a b Pr)[i]?=some (FM.spans w a b Pr)[i]:=by simp
   have m:=mv b4 _ (Ps (l:=FM.spans w a b Pr) (n:=i) ());have ls:=vW e;have ln:=tN (w:=w) (Pr:=Pr) b4 (show b<=a+10080 by lia) i ();generalize (FM.spans w a b Pr)[i]=y at e m ls;rw[NZ] at hx;obtain⟨t,ht,rfl⟩:=Oc.mp hx;have ar:=s1 _ _ (t3 i t y ht e);refine qV (gI.of ar) rfl ?_;left;refine gi (aI.of I) ?_;left;refine⟨c_,fun L h1=>?_⟩;have Y:l≠L:=aw I h1;left;refine dI (aI.of (by rw[aj Y];exact I)) ?_;left;refine pT (n:=y.1-a-(gl w Pr a b i).1.length) ac (by rw[NV];lia) () fun M h2=>?_;have n2:l≠M:=aw (by rw[aj Y];exact I) h2;left;refine gS (by rw[aj n2,aj Y];exact I) ac (eP (by rw[NV,Pj];lia)) ?_;left;have O:Same H (upd (upd (upd H' L (.lst [nv (gl w Pr a b i).2])) M (.lst (N7 (y.1-a-(gl w Pr a b i).1.length) (nv (gl w Pr a b i).2)))) l (.lst (OX nv (gl w Pr a b i).1++N7 (y.1-a-(gl w Pr a b i).1.length) (nv (gl w Pr a b i).2)))):=by walk_at "same"
   have J:=ac (H:=upd (upd H' L (.lst [nv (gl w Pr a b i).2])) M (.lst (N7 (y.1-a-(gl w Pr a b i).1.length) (nv (gl w Pr a b i).2)))) (a:=l) (o:=.lst (OX nv (gl w Pr a b i).1++N7 (y.1-a-(gl w Pr a b i).1.length) (nv (gl w Pr a b i).2)));generalize upd (upd (upd H' L _) M _) l _=H2 at O J ⊢;refine gi (aI.of J) ?_;left;refine⟨p,k,Pr,y.1,y.2,rfl,hp.keep O,hb,by lia,by lia,by lia,fun H3 r3 f3 Z as=>?_⟩;left;have av:=Z _ _ J;refine gS av as (eP (by simp only[Of,NV,Pj,nD];lia)) ?_;left
   have en:((gc Pr a (gl w Pr a b i) y).1).map nv=(OX nv (gl w Pr a b i).1++N7 (y.1-a-(gl w Pr a b i).1.length) (nv (gl w Pr a b i).2))++OX nv (iM Pr y.1 y.2):=by
    unfold gc;rw[Oj,Oj,QS]
   rw[<-en,<-ls]
   have bd:(gl w Pr a b (i+1)).1≠[]:=by
    rw[ls];unfold gc;intro q;have:=congrArg Os q;simp only[Of,nD,P6] at this;lia
   refine wS (v:=nv (gl w Pr a b (i+1)).2) (aI.of ac) ?_ ?_
   ·have e2:(gl w Pr a b (i+1)).2=((gl w Pr a b (i+1)).1).getLastD 0:=by rw[ls];rfl
    rw[e2,QK,PN,getLast?_eq_some_getLast bd];rfl
   ·left;exact⟨_,_,_,rfl,(O.trans Z).upd hl,ac⟩
  ·rintro σ H' ⟨v5,v6,v7,rfl,s1,I⟩;have le:=mR (w:=w) (p:=Pr) an b4 b2;have ln:=tN (w:=w) (Pr:=Pr) b4 (show b<=a+10080 by lia) _ (NX _)
   have ez:gl w Pr a b (ts.map V.ref).length=(FM.spans w a b Pr).foldl (gc Pr a) ([],a):=by
    unfold gl;rw[NV,t2,Qg]
   have bk:gl w Pr a b (FM.spans w a b Pr).length=(FM.spans w a b Pr).foldl (gc Pr a) ([],a):=by
    unfold gl;rw[Qg]
   rw[bk] at ln;rw[ez] at I ⊢;unfold jT at le;generalize (FM.spans w a b Pr).foldl (gc Pr a) ([],a)=z at I ln le ⊢;left;refine gi (aI.of I) ?_;left;refine⟨c_,fun L h1=>?_⟩;have Y:l≠L:=aw I h1;left;refine dI (aI.of (by rw[aj Y];exact I)) ?_;left;refine pT (n:=b-a-z.1.length) ac (by rw[NV];lia) () fun M h2=>?_;have n2:l≠M:=aw (by rw[aj Y];exact I) h2;left;refine gS (by rw[aj n2,aj Y];exact I) ac (eP (by rw[NV,Pj];lia)) ?_;left;have O:Same H (upd (upd (upd H' L (.lst [nv z.2])) M (.lst (N7 (b-a-z.1.length) (nv z.2)))) l (.lst (OX nv z.1++N7 (b-a-z.1.length) (nv z.2)))):=by walk_at "same"
   have J:=ac (H:=upd (upd H' L (.lst [nv z.2])) M (.lst (N7 (b-a-z.1.length) (nv z.2)))) (a:=l) (o:=.lst (OX nv z.1++N7 (b-a-z.1.length) (nv z.2)));generalize upd (upd (upd H' L _) M _) l _=H2 at O J ⊢
   have en:OX nv z.1++N7 (b-a-z.1.length) (nv z.2)=((N0 (b-a)).map (FM.endAt w a Pr)).map nv:=by
    rw[<-le];unfold A3;rw[Oj,QS]
   rw[en] at J;have bo:=hq.keep O;refine D8 (aI.of J) (by simp;lia) (fun _=>true) (fun n=>V.int ((n:Int)-a)) (fun x H3 hx Z R R' k1 k2=>?_) (fun P H3 f3 Z h3=>kk H3 P (O.free f3) (O.trans Z) ?_)
   ·have c1:=bo.keep Z;dsimp only[bV,OX,Pl];left;refine⟨rfl,?_⟩;left;exact k1 _ rfl (Same.refl _)
   ·rw[h3,OR.mpr (fun _ _=>rfl),On];rfl
inductive Ea(A:cX)(vs:List V)(H:Hp)(Q:VK)(E:XK):Prop|mk(o dx p q:Addr)(k:Nat)(Pr:N1)(w:Ob)(a b:Nat)(_:vs=[.ref o,.ref p,.ref q])(_:H o=some (.ins A.Offer dx []))(_:aa A H p k Pr)(_:ah A H q a b w.cls (dC w.card))(_:wT Pr)(_:w.card≠some [])(_:a<=b)(_:b<=5010000)(_:b-a<=10080)(_:∀(H':Hp)(r e:Addr),H r=none->H e=none->am A H' o k Pr w a b p r e->(∀c u,H c=some u->c≠o->H' c=some u)->Q .non H')
theorem Eb(T:Txt K mg A):oK P w K mg base 3 A.Offer ["self","product","stay"] (Ea A):=by
 have S:ax ["self","product","stay"] ["self","product","stay"] (ap jD):=axo
 have nd:=S.nd;refine mr T.Mz S (fun f b2 Ar outer s H vs Q E hr h=>?_)
 ·obtain⟨o,dx,p,q,k,Pr,w,a,b,rfl,ho,hp,hq,hb,hw,Z,av,b1,kk⟩:=h
  refine⟨_,(ae (fo (pv 0) (pv 1))
   (ae (fo (pv 0) (aF (qF T) hr (ab (pv 1) (ab (pv 2) ag))))
   (ak (fo (pv 0) (aF (tP T) hr (ab (pv 1) (ab (pv 2) (ab (aA (pv 0)) ag)))))))),?_⟩
  exists 0,3,0;have np:=hp.new ho;have nq:=hq.new ho;left;refine e_ T.KD T.Ly ho (NX 0) (by decide) fun l1=>?_;have I:=ac (H:=H) (a:=o) (o:=.ins A.Offer dx (bf "product" (.ref p) []));have f1:∀c u,H c=some u->c≠o->(upd H o (.ins A.Offer dx (bf "product" (.ref p) []))) c=some u:=fun c u e n=>by rw[aj n];exact e
  have n1:∀c,(upd H o (.ins A.Offer dx (bf "product" (.ref p) []))) c=none->H c=none:=fun c e=>by
   by_cases z:c=o
   ·rw[z,I] at e;cases e
   ·rw[aj z] at e;exact e
  have J:=hp.up (o:=.ins A.Offer dx (bf "product" (.ref p) [])) np;have L:=hq.up (o:=.ins A.Offer dx (bf "product" (.ref p) [])) nq;generalize upd H o (.ins A.Offer dx (bf "product" (.ref p) []))=H1 at I f1 n1 J L ⊢;left;refine⟨p,q,k,Pr,a,b,w.cls,dC w.card,rfl,J,L,hb.bd,hb.d7,Z,by lia,fun H2 r fr s2 al=>?_⟩;rw[vV hb.nc hw] at al;left;have an:=s2 _ _ I;refine e_ T.KD T.K6 an l1 (by decide) fun l2=>?_;have M:=al.upI (o:=.ins A.Offer dx (bf "spans" (.ref r) (bf "product" (.ref p) []))) an;have F:=ac (H:=H2) (a:=o) (o:=.ins A.Offer dx (bf "spans" (.ref r) (bf "product" (.ref p) [])));have O:=(J.keep s2).up (o:=.ins A.Offer dx (bf "spans" (.ref r) (bf "product" (.ref p) []))) np;have ar:=(L.keep s2).up (o:=.ins A.Offer dx (bf "spans" (.ref r) (bf "product" (.ref p) []))) nq;have f3:∀c u,H1 c=some u->c≠o->(upd H2 o (.ins A.Offer dx (bf "spans" (.ref r) (bf "product" (.ref p) [])))) c=some u:=fun c u e n=>by rw[aj n];exact s2 _ _ e
  have n3:∀c,(upd H2 o (.ins A.Offer dx (bf "spans" (.ref r) (bf "product" (.ref p) [])))) c=none->H1 c=none:=fun c e=>by
   by_cases z:c=o
   ·rw[z,F] at e;cases e
   ·rw[aj z] at e;exact s2.free e
  generalize upd H2 o (.ins A.Offer dx (bf "spans" (.ref r) (bf "product" (.ref p) [])))=H3 at M F O ar f3 n3 ⊢;left;refine Tu F T.KD T.K6 Fd.same ?_;left;refine⟨p,q,r,k,Pr,w,a,b,rfl,O,ar,M,hb.bd,Z,av,b1,fun H4 e fe s4 as=>?_⟩;left;have Y:=s4 _ _ F;refine e_ T.KD T.Lz Y l2 (by decide) fun l3=>?_;left;refine kk _ r e (n1 _ fr) (n1 _ (n3 _ fe)) ⟨⟨dx,_,ac,?_,?_,?_⟩,?_,?_,?_⟩ ?_
  ·exact Fd.ne (Fd.ne Fd.same (by decide+kernel)) (by decide+kernel)
  ·exact Fd.ne Fd.same (by decide+kernel)
  ·exact Fd.same
  ·exact(O.keep s4).up np
  ·exact(M.keep s4).upI Y
  ·rw[aj (b8 as Y (by intro z;cases z))];exact as
  ·intro c u e1 n;rw[aj n];exact s4 _ _ (f3 _ _ (f1 _ _ e1 n) n)
abbrev Pz:=(N1×Nat)×Addr
structure rX (A:cX) (H:Hp) (l:Addr) (ps:List N1) (zs:List Pz):Prop where
 lst:H l=some (.lst (zs.map fun z=>V.ref z.2))
 all:zs.map (·.1)=ps.zipIdx
 at_:∀z∈zs,aa A H z.2 z.1.2 z.1.1
structure lP (T:N9):Prop where
 ok:za T
 pr:∀p∈T.products,wT p
 len:T.products.length<=12
 free:T.free<=120
 grace:T.grace<=60
 lost:T.lost<=99999
structure ai (A:cX) (H:Hp) (q:Addr) (T:N9) (t l:Addr) (zs:List Pz):Prop where
 ins:∃dx fs,H q=some (.ins A.Tariff dx fs)/\Fd fs "text" (.ref t)/\Fd fs "free" (nv T.free)/\Fd fs "grace" (nv T.grace)/\Fd fs "lost_cents" (nv T.lost)/\Fd fs "products" (.ref l)
 text:H t=some (.lst (T.text.map fun c=>nv c.toNat))
 prods:rX A H l T.products zs
theorem rX.keep{H H':Hp}{l:Addr}{ps:List N1}{zs:List Pz}(h:rX A H l ps zs)(s:Same H H'):rX A H' l ps zs:=⟨s _ _ h.lst,h.all,fun z F=>(h.at_ z F).keep s⟩
theorem ai.keep{H H':Hp}{q t l:Addr}{T:N9}{zs:List Pz}(h:ai A H q T t l zs)(s:Same H H'):ai A H' q T t l zs:=by
 obtain⟨⟨dx,fs,h1,h2⟩,z,F⟩:=h;exact⟨⟨dx,fs,s _ _ h1,h2⟩,s _ _ z,F.keep s⟩
section
variable{H:Hp}{q t l:Addr}{Tf:N9}{zs:List Pz}{Q:VK}
theorem ai.i_text(T:Txt K mg A)(h:ai A H q Tf t l zs)(k:Q (.ref t) H):dJ K "text" (.ref q) H Q:=by
 obtain⟨⟨dx,fs,h1,h2,_⟩,_⟩:=h;exact Tu h1 T.KB T.LK h2 k
theorem ai.i_free(T:Txt K mg A)(h:ai A H q Tf t l zs)(k:Q (nv Tf.free) H):dJ K "free" (.ref q) H Q:=by
 obtain⟨⟨dx,fs,h1,_,h2,_⟩,_⟩:=h;exact Tu h1 T.KB T.LL h2 k
theorem ai.i_grace(T:Txt K mg A)(h:ai A H q Tf t l zs)(k:Q (nv Tf.grace) H):dJ K "grace" (.ref q) H Q:=by
 obtain⟨⟨dx,fs,h1,_,_,h2,_⟩,_⟩:=h;exact Tu h1 T.KB T.LM h2 k
theorem ai.i_lost(T:Txt K mg A)(h:ai A H q Tf t l zs)(k:Q (nv Tf.lost) H):dJ K "lost_cents" (.ref q) H Q:=by
 obtain⟨⟨dx,fs,h1,_,_,_,h2,_⟩,_⟩:=h;exact Tu h1 T.KB T.LN h2 k
theorem ai.i_products(T:Txt K mg A)(h:ai A H q Tf t l zs)(k:Q (.ref l) H):dJ K "products" (.ref q) H Q:=by
 obtain⟨⟨dx,fs,h1,_,_,_,_,h2⟩,_⟩:=h;exact Tu h1 T.KB T.LO h2 k
end
end
local macro_rules|`(tactic|walk_at $s:str)=>do
 let t ←match s.getString with|"at"=>pure "a? Fare.ai.keep;s same"|"x"=>pure "? Fare.cV;at? Fare.ai.i_text Fare.ai.i_free Fare.ai.i_grace Fare.ai.i_lost Fare.ai.i_products"|_=>Lean.Macro.throwUnsupported
 `(tactic|fail $(Lean.Syntax.mkStrLit ("~"++t)))
section
variable{P:N3}{w:Oh}{K:PySem.W.Frag}{mg:N_->Option NU}{base:Heap}{A:cX}
structure Ah (A:cX) (H:Hp) (r:Addr) (w:Ob) (a b:Nat) (os:List Pz):Prop where
 lst:H r=some (.lst (os.map fun z=>V.ref z.2))
 at_:∀z∈os,∃p s e,am A H z.2 z.1.2 z.1.1 w a b p s e
theorem Ah.keep{H H':Hp}{r:Addr}{w:Ob}{a b:Nat}{os:List Pz}(h:Ah A H r w a b os)(s:Same H H'):Ah A H' r w a b os:=
 ⟨s _ _ h.lst,fun z F=>let ⟨p,q,e,x⟩:=h.at_ z F;⟨p,q,e,x.keep s⟩⟩
def g7(w:Ob)(a b:Nat)(x:N1×Nat):Bool:=decide (FM.spans w a b x.1≠[])
inductive wU(A:cX)(vs:List V)(H:Hp)(Q:VK)(E:XK):Prop|mk(q s t l:Addr)(T:N9)(zs:List Pz)(w:Ob)(a b:Nat)(_:vs=[.ref q,.ref s])(_:ai A H q T t l zs)(_:lP T)(_:ah A H s a b w.cls (dC w.card))(_:w.card≠some [])(_:a<=b)(_:b<=5010000)(_:b-a<=10080)(_:∀(H':Hp)(r:Addr)(os:List Pz),H r=none->Same H H'->Ah A H' r w a b os->os.map (·.1)=T.products.zipIdx.filter (g7 w a b)->Q (.ref r) H')
theorem j8(T:Txt K mg A):fK P w K mg base 5 "offers_of" ["tariff","stay"] (wU A):=by
 have S:ax ["tariff","stay","offers","product","offer"] ["tariff","stay"] (ap qo):=axo
 have nd:=S.nd;refine aN T.MT S (fun f bo Ar outer s H vs Q E hr h=>?_)
 ·obtain⟨q,st,t,l,Tf,zs,w,a,b,rfl,M,ok,hs,hw,as,av,b1,kk⟩:=h
  refine⟨_,(ae (ju (i:=2) rfl nd rfl rfl (lY rfl rfl rfl (by decide+kernel)) (dj (aA (pv 0))) (dn (own:=[("product",3)]) rfl) (fun _ _ _ _ _=>(by exact(eU nd 3))) (fun _ _ _ _ _=>(by exact fA)) (fun _ _ _ _ _=>(by exact(j7 (Eb T) T.My hr (ab (pv 3) (ab (pv 1) ag))))))
   (ak (au (iE rfl nd (dj (pv 2)) (dn (own:=[("offer",4)]) rfl) (fun _ _ _ _ _=>(by exact(eU nd 4))) (fun _ _ _ _ _=>(by exact(nY (dA gP (az (mQ (K:=K) rfl) (by rfl) T.Ks bU (ab (lO (K:=K) (pv 4)) ag)) ao)))) (fun _ _ _ _ _=>(by exact(pv 4))))))),?_⟩
  exists 0,2,3;left
  have hl:zs.length<=12:=by
   have:=congrArg Os M.prods.all;simp at this;have:=ok.len;lia
  refine Gu (aI.of M.prods.lst) ?_;have rl:=pS (K:=K) (aI.of M.prods.lst);rw[NV] at rl;refine Gs (l:=zs) rl () (fun _=>true) (fun P z v H=>∃o p s e,v=.ref o/\am A H o z.1.2 z.1.1 w a b p s e/\s≠P/\e≠P) ?_ ?_ ?_ ?_
  ·rintro P z v H1 H2 _ ⟨o,p,s,e,rfl,h1,Y,Z⟩ O;exact⟨o,p,s,e,rfl,h1.keep O,Y,Z⟩
  ·rintro P z v H1 acc bk _ ⟨o,p,s,e,rfl,h1,Y,Z⟩ hP;exact⟨o,p,s,e,rfl,h1.upL hP Y Z,Y,Z⟩
  ·intro P i z X H1 acc I s1 hP al hX R R' k1 k2;rw[NZ,I] at hX;cases hX;have an:=Oe I;have b2:=(M.prods.at_ z an).keep s1;have b3:=hs.keep s1
   have hok:wT z.1.1:=by
    refine ok.pr _ ?_;have:z.1∈Tf.products.zipIdx:=by rw[<-M.prods.all];exact Oq.mpr ⟨z,an,rfl⟩
    exact Pw this
   dsimp only[bV,OX,Pl];left;refine⟨rfl,?_⟩;left;intro x dx nx ar b4;have O:Same H1 (upd (upd H1 dx (.own x)) x (.ins A.Offer dx [])):=(Same.new ar).updN (by rw[aj b4.symm];exact nx);refine⟨x,dx,z.2,st,z.1.2,z.1.1,w,a,b,rfl,ac,b2.keep O,b3.keep O,hok,hw,as,av,b1,fun H2 r e fr fe hx fm=>⟨rfl,?_⟩⟩;refine k1 _ _ rfl (Same.made nx ar fm) ⟨x,z.2,r,e,rfl,hx,?_,?_⟩
   ·exact fun q=>by rw[q,O _ _ al] at fr;cases fr
   ·exact fun q=>by rw[q,O _ _ al] at fe;cases fe
  ·intro P H1 J hP s1 b5 L ho;rw[OR.mpr (fun _ _=>rfl)] at L;left;refine D8 (l:=J) (c:=fun z=>z.2) (aI.of b5) (by have:=congrArg Os L;simp at this;lia) (fun z=>g7 w a b z.1.1) (fun z=>z.2) (fun z H2 I s2 R R' k1 k2=>?_) (fun P2 H2 f2 s2 h2=>?_)
   ·obtain⟨o,p,s,e,ev,hx,Y,Z⟩:=ho z I;have b6:=hx.keep s2;rw[ev] at k1 ⊢;dsimp only[bV,OX,Pl];left;refine⟨rfl,?_⟩;left;obtain⟨xs,bd,F⟩:=b6.spans.len;refine dI (aI.of bd) ?_;left;refine gz (fun hc=>?_) (fun hc=>?_)
    ·refine Jq rfl (k1 H2 (decide_eq_true fun q=>?_) (Same.refl _));rw[q] at F;simp at F;rw[F] at hc;simp at hc
    ·refine k2 H2 (decide_eq_false fun q=>q ?_) (Same.refl _);rw[F] at hc;exact Tq.mp ()
   ·refine kk H2 P2 ((J.filter fun z=>g7 w a b z.1.1).map fun z=>(z.1.1,(match z.2 with|.ref o=>o|_=>0))) (s1.free f2) (s1.trans s2) ⟨?_,?_⟩ ?_
    ·rw[h2,On];congr 2;apply Om;intro z I;obtain⟨o,p,s,e,ev,_⟩:=ho z (Qj.mp I).1;show z.2=V.ref (match z.2 with|.ref o=>o|_=>0);rw[ev]
    ·intro y hy;obtain⟨z,I,rfl⟩:=Oq.mp hy;obtain⟨o,p,s,e,ev,hx,_⟩:=ho z (Qj.mp I).1;refine⟨p,s,e,?_⟩;show am A H2 (match z.2 with|.ref o=>o|_=>0) z.1.1.2 z.1.1.1 w a b p s e;rw[ev];exact hx.keep s2
    ·rw[On]
     have e1:J.map (fun z=>z.1.1)=Tf.products.zipIdx:=by
      rw[<-M.prods.all,<-L,On];rfl
     rw[<-e1,RT];rfl
theorem tQ{w:Ob}{a i:Nat}{p:N1}(h:p.holds.ok=true):a<=FM.endAt w a p i/\FM.endAt w a p i<=a+i+10080:=by
 unfold FM.endAt;split
 ·rename_i s e;have:=ma w a p i s e;have g:=lv p s h
  have u:OZ p s<=s+10080:=by
   unfold OZ;rcases lN p.holds with⟨m,z⟩|⟨t,z⟩
   ·rw[z] at h ⊢;have:=Be h;show s+m<=_;lia
   ·rw[z] at h ⊢;show s+((t+1440-SQ s-1)%1440+1)<=_;lia
  lia
 ·lia
def rl(T:N9)(w:Ob)(a n j:Nat):List Nat:=(N0 n).map (fun i=>if i<n-j then 10000000000 else bK T w a n i)++N7 10081 0
theorem wV(T:N9)(w:Ob)(a n j:Nat):(rl T w a n j).length=n+10081:=by rw[rl,List.length_append,List.length_map,List.length_range,List.length_replicate]
theorem Bg{T:N9}{w:Ob}{a n j e:Nat}(h:e<n+10081):(rl T w a n j)[e]?=some (if e<n then(if e<n-j then 10000000000 else bK T w a n e) else 0):=by
 unfold rl;by_cases he:e<n
 ·rw[O7 (by simp;exact he),NZ,Qa he,if_pos he];rfl
 ·rw[OJ (by simp;lia),if_neg he,NV,Re,RM,if_pos ()]
theorem FN(T:N9)(w:Ob)(a n:Nat):rl T w a n 0=N7 n 10000000000++N7 10081 0:=by
 unfold rl;congr 1;apply RF;intro i;rw[NZ,RM];by_cases h:i<n
 ·rw[Qa h,if_pos h];show some (if i<n-0 then _ else _)=_;rw[if_pos ()]
 ·rw[if_neg h,Qn (by simp;lia)];rfl
theorem Ic{T:N9}{w:Ob}{a n j:Nat}(h:j<n):(rl T w a n j).set (n-1-j) (bK T w a n (n-1-j))=rl T w a n (j+1):=by
 apply RF;intro e;rw[TR];by_cases he:e<n+10081
 ·rw[Bg he,Bg he,wV];by_cases q:n-1-j=e
  ·rw[if_pos q,if_pos (),if_pos (),if_neg (),q]
  ·rw[if_neg q];congr 1;by_cases h1:e<n
   ·rw[if_pos h1,if_pos h1];by_cases h2:e<n-j
    ·rw[if_pos h2,if_pos ()]
    ·rw[if_neg h2,if_neg ()]
   ·rw[if_neg h1,if_neg h1]
 ·rw[if_neg (),Qn (by rw[wV];lia),Qn (by rw[wV];lia)]
def nE(T:N9)(w:Ob)(a n:Nat):List Nat:=(N0 n).map (bK T w a n)++N7 10081 0
theorem Bh(T:N9)(w:Ob)(a n:Nat):rl T w a n n=nE T w a n:=by
 unfold rl nE;congr 1;apply Om;intro i _;rw[if_neg ()]
theorem gL{T:N9}{w:Ob}{a n e:Nat}(h:e<n+10081):(nE T w a n)[e]?=some (bK T w a n e):=by
 rw[<-Bh,Bg h];by_cases he:e<n
 ·rw[if_pos he,if_neg ()]
 ·rw[if_neg he,yj ()]
theorem FO{T:N9}{w:Ob}{a n j:Nat}{p:N1}(z:j<n)(h:p.holds.ok=true):∃x,(rl T w a n j)[FM.endAt w a p (n-1-j)-a]?=some x/\p.cents+x=sT T w a n (n-1-j) p:=by
 have b:=tQ (w:=w) (a:=a) (i:=n-1-j) h;refine⟨_,Bg (),?_⟩;unfold sT;congr 1;by_cases h1:FM.endAt w a p (n-1-j)-a<n
 ·rw[if_pos h1];by_cases h2:FM.endAt w a p (n-1-j)-a<=n-1-j
  ·rw[if_pos (),if_pos h2]
  ·rw[if_neg (),if_neg h2]
 ·rw[if_neg h1,if_neg (),yj ()]
theorem CC{T:N9}{w:Ob}{a n:Nat}{os:List Pz}(h:os.map (·.1)=T.products.zipIdx.filter (g7 w a (a+n))):os.map (fun z=>z.1.1)=jY T w a n:=by
 have e:os.map (fun z=>z.1.1)=(os.map (·.1)).map (·.1):=by rw[On];rfl
 rw[e,h];unfold jY g7
 have:∀(l:List N1)(k:Nat),((l.zipIdx k).filter (fun x=>decide (FM.spans w a (a+n) x.1≠[]))).map (·.1)=l.filter fun p=>decide (FM.spans w a (a+n) p≠[]):=by
  intro l
  induction l with
  |nil=>intro k;rfl
  |cons x l F=>
   intro k;rw[R3,Qh,Qh];split
   ·rw[Oo,F]
   ·exact F _
 exact this _ 0
inductive yF(A:cX)(vs:List V)(H:Hp)(Q:VK)(E:XK):Prop|mk(r s:Addr)(T:N9)(os:List Pz)(w:Ob)(a n:Nat)(_:vs=[.ref r,.ref s])(_:Ah A H r w a (a+n) os)(_:os.map (·.1)=T.products.zipIdx.filter (g7 w a (a+n)))(_:lP T)(_:ah A H s a (a+n) w.cls (dC w.card))(_:w.cls<=4)(_:a<=5000000)(_:n<=10080)(_:∀(H':Hp)(r:Addr),H r=none->Same H H'->H' r=some (.lst ((nE T w a n).map nv))->Q (.ref r) H')
theorem lQ(T:Txt K mg A):fK P w K mg base 1 "rests_of" ["offers","stay"] (yF A):=by
 have S:ax ["offers","stay","minutes","rests","sold","offer","minute","cents","ends"] ["offers","stay"] (ap sM):=axo
 have nd:=S.nd;refine aN T.MU S (fun f c5 Ar outer s H vs Q E hr h=>?_)
 ·obtain⟨r,st,Tf,os,w,a,n,rfl,ho,Z,ok,hs,hw,c6,hn,kk⟩:=h
  refine⟨_,(ae (aM nd 2 (aD bO (aA (pv 1)) (aA (pv 1))))
   (ae (aM nd 3 (aD iD (aD pz (aH (ab (aE T.Mo) ag)) (pv 2)) (aD pz (aH (ab ao ag)) (aD b0 (aE T.KO) ao))))
   (ae (ju (i:=4) rfl nd rfl rfl (lY rfl rfl rfl (by decide+kernel)) (dj (pv 0)) (dn (own:=[("offer",5)]) rfl) (fun _ _ _ _ _=>(by exact(eU nd 5))) (fun _ _ _ _ _=>(by exact fA)) (fun _ _ _ _ _=>(by exact(gW (ab (lO (K:=K) (lO (K:=K) (pv 5))) (ab (lO (K:=K) (pv 5)) ag))))))
   (ae (fW OU.never rfl (vd (by rfl) T.KA (ab (aD bO (pv 2) ao) (ab (kj gU ao) (ab (kj gU ao) ag)))) (eU nd 6) (ak (GJ (az (Dm rfl) (by rfl) T.Kz gY (ab (iE rfl nd (dj (pv 4)) (dn (own:=[("cents",7),("ends",8)]) rfl) (fun _ _ _ _ _=>(by exact(jc (K:=K) (n:=2) rfl rfl (cg (eU nd 7) (cg (eU nd 8) gm))))) (fun _ _ _ _ _=>(by exact fA)) (fun _ _ _ _ _=>(by exact(aD b0 (pv 7) (ba (lu (K:=K) rfl) (pv 3) (ba (lu (K:=K) rfl) (pv 8) (pv 6))))))) ag)) (GI (pv 3) (pv 6) Dk))))
   (ak (au (pv 3))))))),?_⟩
  exists 0,2,7
  have bo:∀z∈os,wT z.1.1:=fun z J=>by
   have:z.1∈Tf.products.zipIdx.filter (g7 w a (a+n)):=by rw[<-Z];exact Oq.mpr ⟨z,J,rfl⟩
   exact ok.pr _ (Pw (Qj.mp this).1)
  have c7:os.length<=12:=by
   have:=congrArg Os Z;rw[NV] at this;have h2:=QL (g7 w a (a+n)) Tf.products.zipIdx;rw[QT] at h2;have:=ok.len;lia
  have bq:=CC Z;left;have e0:((a+n:Nat):Int)-a=n:=by lia
  rw[e0];refine⟨c_,fun l1 h1=>?_⟩;left;refine pT (n:=n) ac (.inl rfl) () fun l2 h2=>?_;left;refine⟨c_,fun l3 h3=>?_⟩;left;refine pT (n:=10081) ac (.inl (by decide)) (by decide) fun l4 h4=>?_;have ar:l2≠l3:=aw ac h3;have bs:l2≠l4:=aw (by rw[aj ar];exact ac) h4;refine lM (by rw[aj bs,aj ar];exact ac) ac (eP (by rw[Pj,Pj];lia)) fun l hl=>?_
  have e1:N7 n (V.int 10000000000)++N7 10081 (V.int 0)=(rl Tf w a n 0).map nv:=by
   rw[FN,Oj,QS,QS];rfl
  rw[e1];have s1:Same H (upd (upd (upd (upd H l1 (.lst [.int 10000000000])) l2 (.lst (N7 n (.int 10000000000)))) l3 (.lst [.int 0])) l4 (.lst (N7 10081 (.int 0)))):=by walk_at "same"
  have as:=s1.free hl;have s2:=s1.updN (o:=.lst ((rl Tf w a n 0).map nv)) hl;have L:=ac (H:=upd (upd (upd (upd H l1 (.lst [.int 10000000000])) l2 (.lst (N7 n (.int 10000000000)))) l3 (.lst [.int 0])) l4 (.lst (N7 10081 (.int 0)))) (a:=l) (o:=.lst ((rl Tf w a n 0).map nv));generalize upd (upd (upd (upd (upd H l1 _) l2 _) l3 _) l4 _) l _=H1 at s2 L ⊢;clear s1 hl;left;have al:=ho.keep s2;refine Gu (aI.of al.lst) ?_;have rn:=pS (K:=K) (aI.of al.lst);rw[NV] at rn;refine Gs (l:=os) rn () (fun _=>true) (fun _ z v H'=>∃t p s e,v=.ref t/\H' t=some (.tup [nv z.1.1.cents,.ref e])/\am A H z.2 z.1.2 z.1.1 w a (a+n) p s e) ?_ ?_ ?_ ?_
  ·rintro P z v H2 H3 _ ⟨t,p,s,e,rfl,O,Y⟩ sm;exact⟨t,p,s,e,rfl,sm _ _ O,Y⟩
  ·rintro P z v H2 acc c4 _ ⟨t,p,s,e,rfl,O,Y⟩ hP;exact⟨t,p,s,e,rfl,by rw[aj (b8 O hP (by intro z;cases z))];exact O,Y⟩
  ·intro P i z X H2 acc J F hP c8 hX R R' k1 k2;rw[NZ,J] at hX;cases hX;have c0:=Oe J;obtain⟨p,s,e,av⟩:=ho.at_ z c0;have hx:=(av.keep s2).keep F;have ca:=hx.prod;dsimp only[bV,OX,Pl];left;refine⟨rfl,?_⟩;left;exact⟨gJ,fun t ht=>k1 _ _ rfl (Same.new ht) ⟨t,p,s,e,rfl,ac,av⟩⟩
  ·intro P H2 an hP F b1 M b2;rw[OR.mpr (fun _ _=>rfl)] at M;have b3:=F _ _ L;have c1:P≠l:=fun q=>by rw[q,L] at hP;cases hP
   have sb:Same H (o8 H2 l):=iS (s2.trans F) as;have b4:o8 H2 l l=none:=oM;have b5:=nB b1 c1;have b6:Same (o8 H2 l) H2:=iR
   have bk:∀z∈an,∃t p s e,z.2=.ref t/\o8 H2 l t=some (.tup [nv z.1.1.1.cents,.ref e])/\am A (o8 H2 l) z.1.2 z.1.1.2 z.1.1.1 w a (a+n) p s e:=fun z J=>by
    obtain⟨t,p,s,e,O,Y,q3⟩:=b2 z J;exact⟨t,p,s,e,O,nB Y (b8 Y b3 (by intro z;cases z)),q3.keep sb⟩
   generalize o8 H2 l=Hb at sb b4 b5 b6 bk;clear b2 b1 hP F L al rn;left;refine Gw ?_ ?_ (fun j σ H'=>∃v5 v6 v7 v8,σ=[some (.ref r),some (.ref st),some (.int n),some (.ref l),some (.ref P),v5,v6,v7,v8]/\Same Hb H'/\H' l=some (.lst ((rl Tf w a n j).map nv))) ⟨_,_,_,_,rfl,b6,b3⟩ ?_ ?_
   ·lia
   ·lia
   ·rintro j σ H3 hj ⟨v5,v6,v7,v8,rfl,F,I⟩;have hj:j<n:=by lia
    have ej:((n:Int)-1-j)=((n-1-j:Nat):Int):=by lia
    rw[ej];left;refine D8 (l:=an) (c:=fun z=>z.2) (aI.of (F _ _ b5)) (by have:=congrArg Os M;simp at this;lia) (fun _=>true) (fun z=>nv (sT Tf w a n (n-1-j) z.1.1.1)) (fun z H4 J s4 R R' k1 k2=>?_) (fun P2 H4 f4 s4 h4=>?_)
    ·obtain⟨t,p,s,e,O,Y,q3⟩:=bk z J;have hok:wT z.1.1.1:=bo z.1 (by rw[<-M];exact Oq.mpr ⟨z,J,rfl⟩);obtain⟨x,x1,x2⟩:=FO (T:=Tf) (w:=w) (a:=a) hj (bZ hok.bd).2.1;have bd:=tQ (w:=w) (a:=a) (i:=n-1-j) (bZ hok.bd).2.1;have h1:=q3.ends;rw[show a+n-a=n by lia] at h1;rw[O];dsimp only[bV,OX,Pl];refine qV (gI.of (s4 _ _ (F _ _ Y))) rfl ?_;left;refine⟨rfl,?_⟩;left;refine gB (j:=n-1-j) (v:=V.int ((FM.endAt w a z.1.1.1 (n-1-j):Int)-a)) (aI.of (s4 _ _ (F _ _ h1))) rfl (by rw[NZ,Qa ()];rfl) ?_;refine gB (j:=FM.endAt w a z.1.1.1 (n-1-j)-a) (v:=nv x) (aI.of (s4 _ _ I)) () (by rw[NZ,x1];rfl) ?_;left;refine qq (Q:=R) (k1 _ rfl (Same.refl _)) ?_;rw[<-x2];exact congrArg V.int ()
    ·rw[OR.mpr (fun _ _=>rfl)] at h4
     have e4:an.map (fun z=>nv (sT Tf w a n (n-1-j) z.1.1.1))=(((jY Tf w a n).map (sT Tf w a n (n-1-j))).map OW).map V.int:=by
      rw[<-bq,<-M,On,On,On,On];rfl
     rw[e4] at h4;left;refine Gx (m:=(bK Tf w a n (n-1-j):Int)) (aI.of h4) ?_ ?_ ?_
     ·obtain⟨p,hp,_⟩:=oA (a:=a) (n:=n) (i:=n-1-j) ok.ok (fun p hp=>(ok.pr p hp).d7) hw ();rw[NV,NV];exact length_pos_of_mem hp
     ·intro m' c2 c3;obtain⟨m,hm,rfl⟩:=Oq.mp c2;exact congrArg OW (zG ok.ok (fun p hp=>(ok.pr p hp).d7) hw () () hm fun y hy=>RG.mp (c3 _ (Oq.mpr ⟨y,hy,rfl⟩))).symm
     ·left;refine Ib (j:=n-1-j) (s4 _ _ I) rfl (by rw[NV,wV];lia) ?_;refine⟨_,_,_,_,rfl,?_,?_⟩
      ·exact(F.trans s4).upd b4
      ·rw[ac,<-Ic hj,TU]
   ·rintro σ H3 ⟨v5,v6,v7,v8,rfl,F,I⟩;rw[show((n:Int)-1 - -1).toNat=n by lia,Bh] at I;left;exact kk H3 l as (sb.trans F) I
theorem yG{i j:Int}(h:-1000000000000000<j/\j<1000000000000000):xE i j:=.inr ⟨by show -(18446744073709551616:Int)<j;lia,by show j<(18446744073709551616:Int);lia⟩
theorem Js{i j:Int}(h:-1000000000000000<i/\i<1000000000000000):xE i j:=.inl ⟨by show -(18446744073709551616:Int)<i;lia,by show i<(18446744073709551616:Int);lia⟩
structure Bi (w:Ob):Prop where
 cls:w.cls<=4
 card:w.card≠some []
inductive yH(A:cX)(vs:List V)(H:Hp)(Q:VK)(E:XK):Prop|mk(q s t l:Addr)(T:N9)(zs:List Pz)(w:Ob)(a b:Nat)(_:vs=[.ref q,.ref s])(_:ai A H q T t l zs)(_:lP T)(_:ah A H s a b w.cls (dC w.card))(_:Bi w)(_:a<=b)(_:b<=5000000)(_:∀(H':Hp),Same H H'->Q (nv (Rj T w a b)) H')
theorem qI(T:Txt K mg A):fK P w K mg base 6 "price_of" ["tariff","stay"] (yH A):=by
 have S:ax ["tariff","stay","week_end","week","days_begun"] ["tariff","stay"] (ap sN):=axo
 have nd:=S.nd;refine aN T.MV S (fun f an Ar outer s H vs Q E J h=>?_)
 ·obtain⟨q,st,t,l,Tf,zs,w,a,b,rfl,hT,ok,hs,L,M,ar,z⟩:=h
  refine⟨_,(ae (bc (dA fi (aD bO (aA (pv 1)) (aA (pv 1))) (aA (pv 0))) (ak (au ao)) aG)
   (ae (aM nd 2 (az (fU rfl) (by rfl) T.Kz gY (ab (aA (pv 1)) (ab (aD b0 (aA (pv 1)) (aE T.KO)) ag))))
   (ae (aM nd 3 (j7 (rW T) T.KQ J (ab (aA (pv 1)) (ab (pv 2) (ab (aA (pv 1)) (ab (aA (pv 1)) ag))))))
   (ae (aM nd 4 (aD jN (aD bO (aD b0 (aD bO (aA (pv 1)) (pv 2)) (aE T.Kx)) ao) (aE T.Kx)))
   (ak (au (aD b0 (ba ay (aF (lQ T) J (ab (aF (j8 T) J (ab (pv 0) (ab (pv 3) ag))) (ab (pv 3) ag))) ao) (aD kO (pv 4) (aA (pv 0)))))))))),?_⟩
  exists 0,2,3;rw[DR ok.ok (fun p hp=>(ok.pr p hp).d7) L.cls M] at z;unfold zH at z;left;refine gz (fun hc=>?_) (fun hc=>?_)
  ·left;rw[if_pos ()] at z;exact z H (Same.refl _)
  ·rw[if_neg ()] at z;left;have e1:(if (a:Int)+10080<b then(a:Int)+10080 else b)=((a+(min b (a+10080)-a):Nat):Int):=by split<;>lia
   rw[e1];have hm:min b (a+10080)=a+(min b (a+10080)-a):=by lia
   rw[hm] at z;have hn:min b (a+10080)-a<=10080:=by lia
   have O:a+(min b (a+10080)-a)<=b:=by lia
   rw[show a+(min b (a+10080)-a)-a=min b (a+10080)-a by lia] at z;generalize min b (a+10080)-a=n at z hn O ⊢;intro x dx nx F Y;have sm:Same H (upd (upd H dx (.own x)) x (.ins A.Stay dx [])):=(Same.new F).updN (by rw[aj Y.symm];exact nx);refine⟨x,dx,a,a+n,w.cls,dC w.card,rfl,ac,fun H1 hx fm=>⟨rfl,?_⟩⟩;have Z:=Same.made nx F fm;have I:=hT.keep Z;have as:=hs.keep Z;left;refine⟨q,x,t,l,Tf,zs,w,a,a+n,rfl,I,ok,hx,L.card,by lia,by lia,by lia,fun H2 r os fr s2 ho al=>?_⟩;left;refine⟨r,x,Tf,os,w,a,n,rfl,ho,al,ok,hx.keep s2,L.cls,by lia,hn,fun H3 r3 f3 s3 h3=>?_⟩;left;refine gB (j:=0) (v:=nv (bK Tf w a n 0)) (aI.of h3) rfl (by rw[NZ,gL ()];rfl) ?_;have av:=(I.keep s2).keep s3;left;have b1:=ok.lost;refine bY (yG ()) ?_;left;refine qq (Q:=Q) (z H3 ((Z.trans s2).trans s3)) ?_;refine congrArg V.int ?_;have e2:(((b:Int)-((a+n:Nat):Int)+1440-1)/1440)=(((b-(a+n)+1440-1)/1440:Nat):Int):=by lia
   rw[e2,Uy,Qx]
inductive nF(K:PySem.W.Frag)(A:cX)(vs:List V)(H:Hp)(Q:VK)(E:XK):Prop|mk(r F:Addr)(T:N9)(os:List Pz)(w:Ob)(a n i:Nat)(_:vs=[.ref r,.ref F,nv i])(_:Ah A H r w a (a+n) os)(_:os.map (·.1)=T.products.zipIdx.filter (g7 w a (a+n)))(_:lP T)(_:w.cls<=4)(_:aI K H F ((nE T w a n).map nv))(_:i<n)(_:∀z∈os,gk T w a n i=some z.1->Q (.ref z.2) H)
theorem nG(T:Txt K mg A):fK P w K mg base 1 "first_that_fits" ["offers","rests","minute"] (nF K A):=by
 have S:ax ["offers","rests","minute","offer","end"] ["offers","rests","minute"] (ap i9):=axo
 have nd:=S.nd;refine aN T.MW S (fun f b2 Ar outer s H vs Q E hr h=>?_)
 ·obtain⟨r,rr,Tf,os,w,a,n,i,rfl,ho,Z,ok,hw,al,hi,kk⟩:=h
  refine⟨_,(ae (fW OU.never rfl (dj (pv 0)) (eU nd 3) (ae (aM nd 4 (ba ay (aA (pv 3)) (pv 2)))
   (ak (bc ((sh (dA gP (pv 4) (pv 2)) (nO (dA fB (aD b0 (aA (aA (pv 3))) (ba ay (pv 1) (pv 4))) (ba ay (pv 1) (pv 2)))))).pt (ak (au (pv 3))) aG))))
   (ak (au fk))),?_⟩
  exists 0,3,2;have as:=qU (T:=Tf) (w:=w) (a:=a) (n:=n) (i:=i) (fun p hp=>(ok.pr p hp).bd) hi;have I:gk Tf w a n i=(os.map (·.1)).find? fun x=>jo Tf w a n i x.1:=by rw[Z];exact as
  obtain⟨x0,s0,L,_⟩:=nw (a:=a) (n:=n) (i:=i) ok.ok (fun p hp=>(ok.pr p hp).d7) hw hi
  have av:∀z∈os,wT z.1.1:=fun z J=>by
   have:z.1∈Tf.products.zipIdx.filter (g7 w a (a+n)):=by rw[<-Z];exact Oq.mpr ⟨z,J,rfl⟩
   exact ok.pr _ (Pw (Qj.mp this).1)
  left;refine kE (Hb:=H) (xs:=os.map fun z=>V.ref z.2) (Same.refl _) (aI.of ho.lst) (fun j σ H'=>∃v3 v4,σ=[some (.ref r),some (.ref rr),some (nv i),v3,v4]/\H'=H/\∀z∈os.take j,jo Tf w a n i z.1.1=false) ⟨_,_,rfl,rfl,fun z J=>by cases J⟩ (fun j σ H' h=>by obtain⟨_,_,_,rfl,_⟩:=h;exact Same.refl _) ?_ ?_
  ·rintro j x σ H' hx ⟨v3,v4,rfl,rfl,F⟩;rw[NZ] at hx;obtain⟨z,J,rfl⟩:=Oc.mp hx;have M:=Oe J;obtain⟨p,s,e,ox⟩:=ho.at_ z M;have b3:=ox.prod;have hb:=(bZ (av z M).bd).2.1;have bd:=tQ (w:=w) (a:=a) (i:=i) hb;have he:=ox.ends;rw[show a+n-a=n by lia] at he;left;refine gB (j:=i) (v:=V.int ((FM.endAt w a z.1.1 i:Int)-a)) (aI.of he) rfl (by rw[NZ,Qa hi];rfl) ?_;have O:jo Tf w a n i z.1.1=(decide (i<FM.endAt w a z.1.1 i-a)&&decide (z.1.1.cents+bK Tf w a n (FM.endAt w a z.1.1 i-a)=bK Tf w a n i)):=rfl
   have an:jo Tf w a n i z.1.1=false->∀y∈os.take (j+1),jo Tf w a n i y.1.1=false:=fun hf y Y=>by
    rw[Pg,J] at Y;rcases OK.mp Y with h|h
    ·exact F y h
    ·cases OT.mp h;exact hf
   left;refine gz (fun hc=>?_) (fun hc=>?_)
   ·left;refine gB (j:=FM.endAt w a z.1.1 i-a) (v:=nv (bK Tf w a n (FM.endAt w a z.1.1 i-a))) al () (by rw[NZ,gL ()];rfl) ?_;left;refine gB (j:=i) (v:=nv (bK Tf w a n i)) al rfl (by rw[NZ,gL ()];rfl) ?_;left;refine gz (fun hd=>?_) (fun hd=>?_)
    ·left;refine kk z M ?_;have ar:jo Tf w a n i z.1.1=true:=by rw[O,decide_eq_true (),decide_eq_true ()];rfl
     rw[I]
     have hsplit:os=os.take j++z::os.drop (j+1):=by
      refine(Ui j os).symm.trans ?_;rw[Pk (N4.mp J).1,(N4.mp J).2]
     rw[hsplit,Oj,RH,Oo,Pi]
     have:(OX (fun x=>x.1) (os.take j)).find? (fun x=>jo Tf w a n i x.1)=none:=by
      rw[Rs];intro y Y;obtain⟨y',b1,rfl⟩:=Oq.mp Y;rw[F y' b1];exact N2
     rw[this];show(none:Option _).or _=_;rw[ar];rfl
    ·left;exact⟨_,_,rfl,rfl,an (by rw[O,decide_eq_false (p:=_+_=_) (),RN])⟩
   ·left;exact⟨_,_,rfl,rfl,an (by rw[O,decide_eq_false (p:=i<_) (),OQ])⟩
  ·rintro σ H' ⟨v3,v4,rfl,rfl,F⟩;exfalso;rw[NV,Qg] at F;rw[I] at L;have:=UT L;have hm:=Rw L;obtain⟨y,Y,rfl⟩:=Oq.mp hm;rw[F y Y] at this;cases this
inductive qY(A:cX)(vs:List V)(H:Hp)(Q:VK)(E:XK):Prop|mk(o p r e:Addr)(k:Nat)(Pr:N1)(w:Ob)(a b m:Nat)(_:vs=[.ref o,nv m])(_:am A H o k Pr w a b p r e)(_:Pr.bounded=true)(_:Q (nv ((FM.spans w a b Pr).foldl (g0 m) m)) H)
theorem qZ(T:Txt K mg A):fK P w K mg base 1 "latest_begin" ["offer","minute"] (qY A):=by
 have S:ax ["offer","minute","latest","begin","end"] ["offer","minute"] (ap k7):=axo
 have nd:=S.nd;refine aN T.MX S (fun f M Ar outer s H vs Q E hr h=>?_)
 ·obtain⟨o,p,r,e,k,Pr,w,a,b,m,rfl,O,hb,Y⟩:=h
  refine⟨_,(ae (aM nd 2 (pv 1))
   (ae (fW OU.never rfl (dj (aA (pv 0))) (sj rfl (cg (eU nd 3) (cg (eU nd 4) gm))) (ak (bc (dA fi (pv 3) (pv 1)) (ak (aM nd 2 (az (fU rfl) (by rfl) T.Kz gY (ab (pv 1) (ab (aD bO (pv 4) ao) ag))))) aG)))
   (ak (au (pv 2))))),?_⟩
  exists 0,2,3;obtain⟨Z,t1,t2,t3⟩:=O.spans.at_;left;refine kE (Hb:=H) (xs:=Z.map V.ref) (Same.refl _) (aI.of t1) (fun j σ H'=>∃z F,σ=[some (.ref o),some (nv m),some (nv (((FM.spans w a b Pr).take j).foldl (g0 m) m)),z,F]/\H'=H) ⟨_,_,rfl,rfl⟩ (fun j σ H' h=>by obtain⟨_,_,_,rfl⟩:=h;exact Same.refl _) ?_ ?_
  ·rintro j x σ H' J ⟨z,F,rfl,rfl⟩;rw[NZ] at J;obtain⟨t,L,rfl⟩:=Oc.mp J
   have hi:j<(FM.spans w a b Pr).length:=by
    have:=(N4.mp L).1;lia
   have I:(FM.spans w a b Pr)[j]?=some (FM.spans w a b Pr)[j]:=by simp
   have ms:=mv (w:=w) (a:=a) (b:=b) (p:=Pr) (bZ hb).2.2.2.1 _ (Ps (l:=FM.spans w a b Pr) (n:=j) hi);generalize (FM.spans w a b Pr)[j]=y at I ms
   have es:((FM.spans w a b Pr).take (j+1)).foldl (g0 m) m=g0 m (((FM.spans w a b Pr).take j).foldl (g0 m) m) y:=by
    rw[Pg,I,PU];rfl
   rw[es];refine qV (gI.of (t3 j t y L I)) rfl ?_;unfold g0;left;refine gz (fun hc=>?_) (fun hc=>?_)
   ·left;rw[if_pos ()];refine⟨some (.int y.1),some (.int y.2),?_,rfl⟩;congr 3;refine congrArg (fun q=>some (V.int q)) ?_;split<;>lia
   ·left;rw[if_neg ()];exact⟨_,_,rfl,rfl⟩
  ·rintro σ H' ⟨z,F,rfl,rfl⟩;rw[NV,t2,Qg];left;exact Y
structure gf (H:Hp) (q:Addr) (l:List (List Nat)):Prop where
 ex:∃zs:List (List Nat×Addr),zs.map (·.1)=l/\H q=some (.lst (zs.map fun z=>V.ref z.2))/\∀z∈zs,H z.2=some (.tup (z.1.map nv))
theorem gf.keep{H H':Hp}{q:Addr}{l:List (List Nat)}(h:gf H q l)(s:Same H H'):gf H' q l:=by
 obtain⟨zs,h1,h2,F⟩:=h;exact⟨zs,h1,s _ _ h2,fun z I=>s _ _ (F z I)⟩
theorem gf.nil{H:Hp}{q:Addr}(h:H q=some (.lst [])):gf H q []:=⟨[],rfl,h,fun z F=>by cases F⟩
theorem gf.lst{H:Hp}{q:Addr}{l:List (List Nat)}(h:gf H q l):∃xs:List V,H q=some (.lst xs)/\xs.length=l.length:=by
 obtain⟨zs,h1,h2,z⟩:=h;exact⟨_,h2,by rw[<-h1];simp⟩
theorem gf.snoc{H:Hp}{q t:Addr}{l:List (List Nat)}{x:List Nat}{xs:List V}(h:gf H q l)(F:H q=some (.lst xs))(I:H t=some (.tup (x.map nv))):gf (upd H q (.lst (xs++[.ref t]))) q (l++[x]):=by
 obtain⟨zs,h1,h2,J⟩:=h;rw[h2] at F;cases F;refine⟨zs++[(x,t)],by rw[Oj,h1];rfl,by rw[ac,Oj];rfl,fun z L=>?_⟩;rcases OK.mp L with h|h
 ·rw[aj (b8 (J z h) h2 (by intro z;cases z))];exact J z h
 ·cases OT.mp h;rw[aj (b8 I h2 (by intro z;cases z))];exact I
def bl(x:RU):List Nat:=[x.product,x.begun,x.till,x.cents]
def nH(T:N9)(w:Ob)(a n i:Nat):List RU:=Sv (Vc T w a n) (FrCover.costs (Vc T w a n) a n) a n n i
inductive CD(K:PySem.W.Frag)(A:cX)(vs:List V)(H:Hp)(Q:VK)(E:XK):Prop|mk(r z s:Addr)(T:N9)(os:List Pz)(w:Ob)(a n:Nat)(_:vs=[.ref r,.ref z,.ref s])(_:Ah A H r w a (a+n) os)(_:os.map (·.1)=T.products.zipIdx.filter (g7 w a (a+n)))(_:lP T)(_:w.cls<=4)(_:aI K H z ((nE T w a n).map nv))(_:ah A H s a (a+n) w.cls (dC w.card))(_:n<=10080)(_:∀(H':Hp)(q:Addr),H q=none->Same H H'->gf H' q ((nH T w a n 0).map bl)->Q (.ref q) H')
theorem CF(T:Txt K mg A):fK P w K mg base 2 "row_of" ["offers","rests","stay"] (CD K A):=by
 have S:ax ["offers","rests","stay","row","minute","offer","begin"] ["offers","rests","stay"] (ap yg):=axo
 have nd:=S.nd;refine aN T.MY S (fun f b6 Ar outer s H vs Q E hr h=>?_)
 ·obtain⟨r,rr,st,Tf,os,w,a,n,rfl,ho,M,ok,hw,av,hs,hn,kk⟩:=h
  refine⟨_,(ae (aM nd 3 (aH ag))
   (ae (aM nd 4 (aA (pv 2)))
   (ae (kN OU.never (dA iX (pv 4) (aA (pv 2))) (ae (aM nd 5 (aF (nG T) hr (ab (pv 0) (ab (pv 1) (ab (aD bO (pv 4) (aA (pv 2))) ag)))))
   (ae (aM nd 6 (aF (qZ T) hr (ab (pv 5) (ab (pv 4) ag))))
   (ae (aM nd 4 (aF (vT T) hr (ab (aA (pv 5)) (ab (pv 6) ag))))
   (ak (dr (gh PySem.F.plainAttrs_list PySem.F.slot_list_append PySem.F.type_list_append eX (pv 3) (ab (gW (ab (aA (aA (pv 5))) (ab (pv 6) (ab (pv 4) (ab (aA (aA (pv 5))) ag))))) ag))))))))
   (ak (au (pv 3)))))),?_⟩
  exists 0,3,4
  have b1:∀z∈os,wT z.1.1:=fun z hz=>by
   have:z.1∈Tf.products.zipIdx.filter (g7 w a (a+n)):=by rw[<-M];exact Oq.mpr ⟨z,hz,rfl⟩
   exact ok.pr _ (Pw (Qj.mp this).1)
  left;refine⟨gG,fun l hl=>?_⟩;left;refine⟨fun m σ H'=>∃(i:Nat)(v5 v6:Option V)(done:List RU),m=n-i/\σ=[some (.ref r),some (.ref rr),some (.ref st),some (.ref l),some (nv (a+i)),v5,v6]/\Same H H'/\gf H' l (done.map bl)/\done++nH Tf w a n i=nH Tf w a n 0/\done.length<=i,⟨_,0,_,_,[],rfl,rfl,by walk_at "same",gf.nil ac,rfl,NX _⟩,?_⟩;rintro m σ H' ⟨i,v5,v6,done,rfl,rfl,L,ht,hd,bk⟩;have bo:=hs.keep L;left;refine gz (fun hc=>?_) (fun hc=>?_)
  ·have hi:i<n:=by lia
   obtain⟨x,I,b2,O,bq,bs,b3⟩:=DS (a:=a) (n:=n) (i:=i) ok.ok (fun p hp=>(ok.pr p hp).d7) hw hi;refine⟨fun σ' H'=>∃m',m'<n-i/\∃(i:Nat)(v5 v6:Option V)(done:List RU),m'=n-i/\σ'=[some (.ref r),some (.ref rr),some (.ref st),some (.ref l),some (nv (a+i)),v5,v6]/\Same H H'/\gf H' l (done.map bl)/\done++nH Tf w a n i=nH Tf w a n 0/\done.length<=i,fun σ' H' h=>h,?_⟩;left;have e1:((a+i:Nat):Int)-a=(i:Int):=by lia
   rw[e1];refine⟨r,rr,Tf,os,w,a,n,i,rfl,ho.keep L,M,ok,hw,L.seq av,hi,fun z hz Y=>?_⟩;rw[b2] at Y;cases Y;obtain⟨p,s,e,b4⟩:=ho.at_ z hz;have ox:=b4.keep L;have Z:=(b1 z hz).bd;have al:=bZ Z;left;refine⟨z.2,p,s,e,z.1.2,z.1.1,w,a,a+n,a+i,rfl,ox,Z,?_⟩;rw[sW (w:=w) al.2.2.2.1 () O];left;refine⟨p,z.1.2,z.1.1,I,rfl,ox.prod,al.2.1,?_⟩;have c0:=ox.prod;obtain⟨xs,J,b5⟩:=ht.lst;left;refine gi (aI.of J) ?_;left;refine⟨Ia,fun t an=>?_⟩;have ar:l≠t:=aw J an;left;refine fG (xs:=xs) (by rw[aj ar];exact J) (fj (by rw[b5,NV];lia)) ?_;have as:Same H' (upd H' t (.tup [.int z.1.2,nv I,.int (OZ z.1.1 I),.int z.1.1.cents])):=Same.new an;have c1:=ma w a z.1.1 i I O;refine⟨_,?_,OZ z.1.1 I-a,some (.ref z.2),some (nv I),done++[⟨z.1.2,I,OZ z.1.1 I,z.1.1.cents⟩],rfl,?_,?_,?_,?_,?_⟩
   ·lia
   ·have e3:nv (a+(OZ z.1.1 I-a))=V.int (OZ z.1.1 I):=congrArg V.int ();rw[e3]
   ·exact(L.trans as).upd hl
   ·rw[Oj];exact(ht.keep as).snoc (by rw[aj ar];exact J) ac
   ·rw[<-hd];unfold nH;rw[b3,Oz];rfl
   ·rw[Of];show done.length+1<=_;lia
  ·have hi:n<=i:=by lia
   left;have e2:nH Tf w a n i=[]:=gd _ _ _ hi;rw[e2,OC] at hd;rw[hd] at ht;exact kk H' l hl L ht
def zc(T:N9)(w:Ob)(a n k:Nat):List (List Nat):=(N0 k).filterMap fun i=>if bK T w a n i-bK T w a n (i+1)=0 then none else some [a+i,bK T w a n i-bK T w a n (i+1)]
theorem yI(T:N9)(w:Ob)(a n k:Nat):zc T w a n (k+1)=zc T w a n k++(if bK T w a n k-bK T w a n (k+1)=0 then[] else[[a+k,bK T w a n k-bK T w a n (k+1)]]):=by
 unfold zc;rw[P_,filterMap_append];congr 1;rw[Ql];split<;>rename_i h<;>split at h<;>simp_all
theorem Bj(T:N9)(w:Ob)(a n k:Nat):(zc T w a n k).length<=k:=by
 have:=Ta (fun i=>if bK T w a n i-bK T w a n (i+1)=0 then none else some [a+i,bK T w a n i-bK T w a n (i+1)]) (N0 k);simpa [zc] using this
inductive uG(K:PySem.W.Frag)(A:cX)(vs:List V)(H:Hp)(Q:VK)(E:XK):Prop|mk(z s:Addr)(T:N9)(w:Ob)(a n cls:Nat)(card:List Nat)(_:vs=[.ref z,.ref s])(_:aI K H z ((nE T w a n).map nv))(_:ah A H s a (a+n) cls card)(_:a<=5000000)(_:n<=10080)(_:∀(H':Hp)(q:Addr),H q=none->Same H H'->gf H' q (zc T w a n n)->Q (.ref q) H')
theorem uH(T:Txt K mg A):fK P w K mg base 1 "weights_of" ["rests","stay"] (uG K A):=by
 have S:ax ["rests","stay","weights","minute","weight"] ["rests","stay"] (ap og):=axo
 have nd:=S.nd;refine aN T.MZ S (fun f al Ar outer s H vs Q E hr h=>?_)
 ·obtain⟨rr,st,Tf,w,a,n,cls,card,rfl,L,hs,ha,hn,kk⟩:=h
  refine⟨_,(ae (aM nd 2 (aH ag))
   (ae (fW OU.never rfl (pb (by rfl) T.KA (ab (aA (pv 1)) (ab (aA (pv 1)) ag))) (eU nd 3) (ae (aM nd 4 (aD bO (ba ay (pv 0) (aD bO (pv 3) (aA (pv 1)))) (ba ay (pv 0) (aD b0 (aD bO (pv 3) (aA (pv 1))) ao))))
   (ak (bc (dA gP (pv 4) ao) (ak (dr (gh PySem.F.plainAttrs_list PySem.F.slot_list_append PySem.F.type_list_append eX (pv 2) (ab (gW (ab (pv 3) (ab (pv 4) ag))) ag)))) aG))))
   (ak (au (pv 2))))),?_⟩
  exists 0,2,3;left;refine⟨gG,fun l hl=>?_⟩;left;refine⟨H_ (),?_⟩;have en:(((a+n:Nat):Int)-(a:Int)).toNat=n:=by lia
  rw[en];refine lV (fun k σ H'=>∃Y Z,σ=[some (.ref rr),some (.ref st),some (.ref l),Y,Z]/\Same H H'/\gf H' l (zc Tf w a n k)) ⟨_,_,rfl,by walk_at "same",gf.nil ac⟩ ?_ ?_
  ·rintro k σ H' hk ⟨Y,Z,rfl,I,M⟩;have an:=hs.keep I;have e0:(a:Int)+(k:Nat)=((a+k:Nat):Int):=by lia
   rw[e0];left;refine gB (j:=k) (v:=nv (bK Tf w a n k)) (I.seq L) () (by rw[NZ,gL ()];rfl) ?_;left;refine gB (j:=k+1) (v:=nv (bK Tf w a n (k+1))) (I.seq L) () (by rw[NZ,gL ()];rfl) ?_;left;refine gz (fun hc=>?_) (fun hc=>?_)
   ·obtain⟨xs,z,ar⟩:=M.lst;left;refine gi (aI.of z) ?_;left;refine⟨gJ,fun t J=>?_⟩;have O:l≠t:=aw z J;have e1:(bK Tf w a n k:Int)-(bK Tf w a n (k+1):Int)=((bK Tf w a n k-bK Tf w a n (k+1):Nat):Int):=by lia
    rw[e1];left;have as:=Bj Tf w a n k;refine fG (xs:=xs) (by rw[aj O];exact z) (fj ()) ?_;refine⟨_,_,rfl,(I.updN J).upd hl,?_⟩;rw[yI,if_neg ()];exact(M.keep (Same.new J)).snoc (x:=[a+k,bK Tf w a n k-bK Tf w a n (k+1)]) (by rw[aj O];exact z) ac
   ·left;refine⟨_,_,rfl,I,?_⟩;rw[yI,if_pos (),OC];exact M
  ·rintro σ H' ⟨Y,Z,rfl,I,M⟩;left;exact kk H' l hl I M
def mY(l:List Nat)(k:Nat):List Nat:=(N0 (k+1)).map fun j=>(l.take j).sum
theorem Ai{l:List Nat}{k x:Nat}(h:l[k]?=some x):mY l (k+1)=mY l k++[(l.take k).sum+x]:=by
 unfold mY;rw[P_ (n:=k+1),Oj];congr 1;show[(l.take (k+1)).sum]=_;rw[Pg,h,sum_append];simp
theorem oN{l:List Nat}{k j:Nat}(h:j<=k):(mY l k)[j]?=some (l.take j).sum:=by
 unfold mY;rw[NZ,Qa ()];rfl
theorem pU(l:List Nat)(k:Nat):(mY l k).length=k+1:=by simp[mY]
inductive Aj(K:PySem.W.Frag)(vs:List V)(H:Hp)(Q:VK)(E:XK):Prop|mk(r:Addr)(l:List Nat)(_:vs=[.ref r])(_:aI K H r (l.map nv))(_:l.length<=10000)(_:∀(H':Hp)(q:Addr),H q=none->Same H H'->H' q=some (.lst ((mY l l.length).map nv))->Q (.ref q) H')
theorem Ak(T:Txt K mg A):fK P w K mg base 1 "sums_of" ["weights"] (Aj K):=by
 have S:ax ["weights","sums","weight"] ["weights"] (ap vx):=axo
 have nd:=S.nd;refine aN T.M0 S (fun f Y Ar outer s H vs Q E hr h=>?_)
 ·obtain⟨r,ls,rfl,I,Z,kk⟩:=h
  refine⟨_,(ae (aM nd 1 (aH (ab ao ag)))
   (ae (fW OU.never rfl (dj (pv 0)) (eU nd 2) (ak (dr (gh PySem.F.plainAttrs_list PySem.F.slot_list_append PySem.F.type_list_append eX (pv 1) (ab (aD b0 (ba ay (pv 1) (kj gU ao)) (pv 2)) ag)))))
   (ak (au (pv 1))))),?_⟩
  exists 0,1,2;left;refine⟨c_,fun l hl=>?_⟩;left;refine kE (Hb:=H) (xs:=ls.map nv) (by walk_at "same") I (fun k σ H'=>∃J,σ=[some (.ref r),some (.ref l),J]/\Same H H'/\H' l=some (.lst ((mY ls k).map nv))) ⟨_,rfl,by walk_at "same",ac⟩ (fun i σ H' h=>by obtain⟨_,_,h,_⟩:=h;exact h) ?_ ?_
  ·rintro k x σ H' M ⟨J,rfl,L,z⟩;rw[NZ] at M;obtain⟨y,O,rfl⟩:=Oc.mp M;have al:=(N4.mp O).1;left;refine gi (aI.of z) ?_;left;refine wS (v:=nv (ls.take k).sum) (aI.of z) ?_ ?_
   ·rw[QK,Rx,pU,Tt,oN (NX _)];rfl
   left;refine fG z (fj (by rw[NV,pU];lia)) ?_;refine⟨_,rfl,L.upd hl,?_⟩;rw[ac,Ai O,Oj];congr 3
  ·rintro σ H' ⟨J,rfl,L,z⟩;rw[NV] at z;left;exact kk H' l hl L z
theorem Ec{f:Nat->Bool}{lo c hi:Nat}(h1:lo<=c)(h2:c<hi)(z:∀m,lo<=m->m<c->f m=false)(F:f c=true):(kC lo hi).find? f=some c:=by
 rw[me h1 (Sd h2),RH]
 have I:(kC lo c).find? f=none:=by
  rw[Rs];intro m J;have:=jd.mp J;rw[z m this.1 this.2];exact N2
 have L:kC c hi=c::kC (c+1) hi:=by
  rw[me (PY c) h2];unfold kC;rw[show c+1-c=1 by lia];rfl
 rw[I,L,Pi,F];rfl
theorem uI{f:Nat->Bool}{lo hi:Nat}(z:∀m,lo<=m->m<hi->f m=false):(kC lo hi).find? f=none:=by
 rw[Rs];intro m F;have:=jd.mp F;rw[z m this.1 this.2];exact N2
theorem vX{f:Nat->Bool}{l:List (Nat×Nat)}(z:∀x∈l,∀m,x.1<=m->m<x.2->f m=false):(l.flatMap fun x=>kC x.1 x.2).find? f=none:=by
 induction l with
 |nil=>rfl
 |cons x l F=>
  rw[PV,RH,uI (z x (Oi ..)),F fun y I=>z y (N5 _ I)];rfl
theorem CG{f:Nat->Bool}{l:List (Nat×Nat)}{j c:Nat}{y:Nat×Nat}(z:l[j]?=some y)(F:∀x∈l.take j,∀m,x.1<=m->m<x.2->f m=false)(h1:y.1<=c)(h2:c<y.2)(I:∀m,y.1<=m->m<c->f m=false)(J:f c=true):
  (l.flatMap fun x=>kC x.1 x.2).find? f=some c:=by
 have hsplit:l=l.take j++y::l.drop (j+1):=by
  refine(Ui j l).symm.trans ?_;rw[Pk (N4.mp z).1,(N4.mp z).2]
 rw[hsplit,QH,RH,vX F,PV,RH,Ec h1 h2 I J];rfl
def uJ(o:Option Nat):V:=match o with
 |some m=>nv m
 |none=>.non
def yJ(w:Ob)(a:Nat)(l:List Nat)(p:N1):Option Nat:=((FM.spans w a (a+l.length) p).flatMap fun x=>kC x.1 x.2).find? (oE l a p)
inductive mx(K:PySem.W.Frag)(A:cX)(vs:List V)(H:Hp)(Q:VK)(E:XK):Prop|mk(p s r:Addr)(k:Nat)(Pr:N1)(w:Ob)(a:Nat)(l:List Nat)(_:vs=[.ref p,.ref s,.ref r])(_:aa A H p k Pr)(_:wT Pr)(_:ah A H s a (a+l.length) w.cls (dC w.card))(_:w.card≠some [])(_:aI K H r ((mY l l.length).map nv))(_:a<=5000000)(_:l.length<=1440)(_:∀(H':Hp),Same H H'->Q (uJ (yJ w a l Pr)) H')
theorem my(T:Txt K mg A):fK P w K mg base 3 "first_overweight" ["product","stay","sums"] (mx K A):=by
 have S:ax ["product","stay","sums","begin","end","minute","held_before"] ["product","stay","sums"] (ap iI):=axo
 have nd:=S.nd;refine aN T.M1 S (fun f al Ar outer s H vs Q E hr h=>?_)
 ·obtain⟨p,st,r,k,Pr,w,a,ls,rfl,hp,hb,hs,hw,O,ha,an,Z⟩:=h
  refine⟨_,(ae (fW OU.never rfl (dj (aF (qF T) hr (ab (pv 0) (ab (pv 1) ag)))) (sj rfl (cg (eU nd 3) (cg (eU nd 4) gm))) (ak (fW OU.never rfl (pb (by rfl) T.KA (ab (pv 3) (ab (pv 4) ag))) (eU nd 5) (ae (aM nd 6 (az (fU rfl) (by rfl) T.Kz gY (ab (aF (vT T) hr (ab (pv 0) (ab (pv 5) ag))) (ab (aA (pv 1)) ag))))
   (ak (bc (dA gP (aD bO (ba ay (pv 2) (aD bO (pv 6) (aA (pv 1)))) (ba ay (pv 2) (aD bO (pv 5) (aA (pv 1))))) (aA (pv 0))) (ak (au (pv 5))) aG))))))
   (ak (au fk))),?_⟩
  exists 0,3,4;obtain⟨b1,b2,b3,b4,b5,b6⟩:=bZ hb.bd;left;refine⟨p,st,k,Pr,a,a+ls.length,w.cls,dC w.card,rfl,hp,hs,hb.bd,hb.d7,by lia,by lia,fun H1 q fq I Y=>?_⟩;rw[vV hb.nc hw] at Y;obtain⟨ts,t1,t2,t3⟩:=Y.at_;left;refine kE (Hb:=H1) (xs:=ts.map V.ref) (Same.refl _) (aI.of t1) (fun j σ H'=>∃v3 v4 J L,σ=[some (.ref p),some (.ref st),some (.ref r),v3,v4,J,L]/\H1=H'/\∀x∈(FM.spans w a (a+ls.length) Pr).take j,∀m,x.1<=m->m<x.2->oE ls a Pr m=false) ⟨_,_,_,_,rfl,rfl,fun x M=>by cases M⟩ (fun j σ H' h=>by obtain⟨_,_,_,_,_,rfl,_⟩:=h;exact Same.refl _) ?_ ?_
  ·rintro j x σ H' M ⟨v3,v4,J,L,rfl,rfl,F⟩;rw[NZ] at M;obtain⟨t,ht,rfl⟩:=Oc.mp M
   have hi:j<(FM.spans w a (a+ls.length) Pr).length:=by
    have:=(N4.mp ht).1;lia
   have e1:(FM.spans w a (a+ls.length) Pr)[j]?=some (FM.spans w a (a+ls.length) Pr)[j]:=by simp
   have ms:=mv (w:=w) (a:=a) (b:=a+ls.length) (p:=Pr) b4 _ (Ps (l:=FM.spans w a (a+ls.length) Pr) (n:=j) hi);generalize (FM.spans w a (a+ls.length) Pr)[j]=y at e1 ms;refine qV (gI.of (t3 j t y ht e1)) rfl ?_;left;refine⟨H_ (),?_⟩;have en:((y.2:Int)-(y.1:Int)).toNat=y.2-y.1:=by lia
   rw[en];refine lV (fun k σ H'=>∃J L,σ=[some (.ref p),some (.ref st),some (.ref r),some (.int y.1),some (.int y.2),J,L]/\H1=H'/\∀m,y.1<=m->m<y.1+k->oE ls a Pr m=false) ⟨_,_,rfl,rfl,fun m h1 h2=>by lia⟩ ?_ ?_
   ·rintro c σ H' hc ⟨J,L,rfl,rfl,z⟩;have e0:(y.1:Int)+(c:Nat)=((y.1+c:Nat):Int):=by lia
    rw[e0];left;refine⟨p,k,Pr,y.1+c,rfl,hp.keep I,b2,?_⟩;have gt:=lv Pr (y.1+c) b2;have ar:=hs.keep I;have as:=hp.keep I;left;have e2:(if ((a+ls.length:Nat):Int)<(OZ Pr (y.1+c):Int) then((a+ls.length:Nat):Int) else(OZ Pr (y.1+c):Int))=((a+min ls.length (OZ Pr (y.1+c)-a):Nat):Int):=by split<;>lia
    rw[e2];refine gB (j:=min ls.length (OZ Pr (y.1+c)-a)) (v:=nv (ls.take (min ls.length (OZ Pr (y.1+c)-a))).sum) (I.seq O) () (by rw[NZ,oN ()];rfl) ?_;left;refine gB (j:=y.1+c-a) (v:=nv (ls.take (y.1+c-a)).sum) (I.seq O) () (by rw[NZ,oN ()];rfl) ?_;left;have hh:oE ls a Pr (y.1+c)=decide (Pr.cents<(ls.take (min ls.length (OZ Pr (y.1+c)-a))).sum-(ls.take (y.1+c-a)).sum):=rfl;refine gz (fun hd=>?_) (fun hd=>?_)
    ·left;have ef:yJ w a ls Pr=some (y.1+c):=CG e1 F () () z (by rw[hh];exact decide_eq_true ());rw[ef] at Z;exact Z H1 I
    ·left;refine⟨_,_,rfl,rfl,fun m h1 h2=>?_⟩;by_cases hm:m<y.1+c
     ·exact z m h1 hm
     ·have:m=y.1+c:=by lia
      rw[this,hh];exact decide_eq_false ()
   ·rintro σ H' ⟨J,L,rfl,rfl,z⟩;refine⟨_,_,_,_,rfl,rfl,fun x M=>?_⟩;rw[Pg,e1] at M;rcases OK.mp M with h|h
    ·exact F x h
    ·cases OT.mp h;exact fun m h1 h2=>z m h1 ()
  ·rintro σ H' ⟨v3,v4,J,L,rfl,rfl,F⟩;rw[NV,t2,Qg] at F;left;have ef:yJ w a ls Pr=none:=vX F;rw[ef] at Z;exact Z H1 I
end
theorem Ed(l:List Nat):TL.tl (St l)=l:=rfl
theorem wW(s:String):N_.ofString s=St (FM.cd s):=rT (by rw[TL.tl_ofString];rfl)
theorem iT(c:Nat)(l:List Nat):∃h t,aJ c l=h::t:=by
 induction l with
 |nil=>exact⟨[],[],rfl⟩
 |cons x r z=>
  obtain⟨h,t,e⟩:=z;unfold aJ;rw[e];by_cases q:x=c
  ·exact⟨[],h::t,by simp only[q,if_true]⟩
  ·exact⟨x::h,t,by simp only[q,if_false]⟩
theorem tR(c:Nat):∀(l acc h:List Nat)(t:List (List Nat)),aJ c l=h::t->TL.spl [c] 0 acc l=(acc++h)::t
 |[],acc,h,t,e=>by
  cases e;rw[TL.spl_nil,OC]
 |x::r,acc,h,t,e=>by
  obtain⟨h',t',e'⟩:=iT c r;unfold aJ at e;rw[e'] at e;by_cases q:x=c
  ·subst q;simp only[if_true] at e;cases e;rw[TL.spl_hit (by simp[TL.pre])];show acc::TL.spl [x] 0 [] r=_;rw[tR x r [] h' t' e',OC];rfl
  ·simp only[q,if_false] at e;cases e;rw[TL.spl_miss (by simp[TL.pre,q]),tR c r (acc++[x]) h' _ e',Oz];rfl
theorem yK{c:Nat}(F:c<256)(l:List Nat):Txt.split (St l) (St [c])=(aJ c l).map St:=by
 have k:¬Ox.Str.strKind (St l)<Ox.Str.strKind (St [c]):=by
  have e:Ox.Str.strKind (St [c])=1:=by
   unfold Ox.Str.strKind
   have:(St [c]).cps.all (·<256)=true:=by
    show #[c].all (·<256)=true;simp[F]
   rw[if_pos this]
  rw[e];unfold Ox.Str.strKind;split
  ·lia
  ·split<;>lia
 have h:=TL.split_spl (St l) (St [c]) (by rw[Ed];exact cons_ne_nil _ _) k;rw[Ed,Ed] at h;obtain⟨p,t,e⟩:=iT c l;rw[tR c l [] p t e,Pd,<-e] at h
 have:∀(a:List N_)(b:List (List Nat)),a.map TL.tl=b->a=b.map St:=by
  intro a b z;subst z;rw[On]
  conv=>lhs;rw[<-VG a]
  apply Om;intro x _;exact rT rfl
 exact this _ _ h
theorem FP(l:List Nat)(c i:Nat):Ox.Str.subAt (St l) (St [c]) i=decide (l[i]?=some c):=by
 unfold Ox.Str.subAt;show(l.toArray.extract i (i+1)==#[c])=_
 have e:l.toArray.extract i (i+1)=(l[i]?.toList).toArray:=by
  apply Array.ext';simp only[Array.toList_extract,extract_eq_drop_take];rw[show i+1-i=1 by lia];cases h:l[i]? with
  |none=>
   rw[Pu] at h;rw[O0 h];rfl
  |some x=>
   obtain⟨hi,F⟩:=N4.mp h;rw[Pk hi,F];rfl
 rw[e];cases h:l[i]? with
 |none=>rfl
 |some x=>
  show(#[x]==#[c])=_;by_cases q:x=c
  ·subst q;simp
  ·have:¬(some x=some c):=fun z=>q (N6.inj z);rw[decide_eq_false this];simp[q]
theorem CH(l:List Nat)(c:Nat):(Ox.Str.occurrences (St l) (St [c]) 0 (St l).length ((St l).length+1)).length=l.count c:=by
 rw[PySem.StrLaws.occ_eq,gj]
 have gen:∀(n i:Nat)(st:Array Nat×Nat),st.1.size<=i->st.2<=i->i+n=l.length+1->(forIn (m:=Id) (List.range' i n) st (PySem.StrLaws.occBody (St l) (St [c]) l.length (l.length+1))).run.fst.size=st.1.size+(l.drop i).count c:=by
  intro n
  induction n with
  |zero=>
   intro i st _ _ hi;rw[O0 ()];simp
  |succ n F=>
   intro i st h1 h2 hi;rw[range'_succ,Tn];unfold PySem.StrLaws.occBody;rw[FP];by_cases I:i<l.length
   ·have e:l[i]?=some l[i]:=by simp[I]
    rw[Pk I,UW];by_cases q:l[i]=c
    ·rw[if_pos ⟨⟨⟨by lia,h2⟩,by show i+1<=_;lia⟩,by rw[e,q];exact decide_eq_true rfl⟩];have:=F (i+1) (st.1.push i,i+1) (by simp;lia) (NX _) ();refine Eq.trans this ?_;simp[q];lia
    ·rw[if_neg (by rintro⟨_,z⟩;rw[e] at z;exact q (N6.inj (of_decide_eq_true z)))];have:=F (i+1) st () () ();refine Eq.trans this ?_;simp[q]
   ·rw[if_neg (by rintro⟨⟨_,z⟩,_⟩;have:i+1<=l.length:=z;lia)];have:=F (i+1) st () () ();refine Eq.trans this ?_;rw[O0 (),O0 ()]
 have:=gen (l.length+1) 0 (#[],0) (NX _) (NX _) ();rw[RJ] at this;rw[Array.length_toList,Sn];refine Eq.trans this ?_;simp
theorem yL(l:List Nat)(c:Nat):Txt.count (St l) (St [c])=(l.count c:Nat):=congrArg OW (CH l c)
theorem Ee{l:List Nat}(h:aY l=true):PySem.intText? (St l)=some ((FM.valN l:Nat):Int)/\(St l).length<=640:=by
 unfold aY at h;simp only[NW,decide_eq_true_eq] at h;obtain⟨⟨h1,h2⟩,F,_⟩:=h
 have e:=intText_digits (x:=St l) (fun c z=>by
  have:=OM.mp h1 c z;unfold dE at this;simpa using this) h2 (by rw[gj];lia)
 refine⟨?_,by rw[gj];lia⟩;rw[e];congr 1;congr 1;show l.foldl _ 0=l.foldl _ 0;congr 1;funext a c;rw[TF]
theorem rY(a b:List Nat):(St a==St b)=decide (a=b):=by
 by_cases h:a=b
 ·subst h;simp
 ·rw[decide_eq_false h];apply Pf.mpr;intro q;exact h (pG.mp (eq_of_beq q))
@[reducible] def sv(l:List Nat):V:=.str (St l)
theorem yM:∀(xs ys:List (List Nat)),Qz.eqvAll (xs.map fun l=>.str (St l)) (ys.map fun l=>.str (St l))=decide (xs=ys)
 |[],[]=>rfl
 |[],y::ys=>rfl
 |x::xs,[]=>rfl
 |x::xs,y::ys=>by
  show(Qz.eqv (.str (St x)) (.str (St y))&&_)=_;rw[yM xs ys];show((St x==St y)&&_)=_;rw[rY];by_cases h1:x=y<;>by_cases h2:xs=ys<;>simp[h1,h2]
theorem qJ(xs:List (List Nat))(h:∀x∈xs,x.length<=100000/\x.all fT=true):SeqAt.shaped (.list (xs.map fun l=>Qz.str (St l)))=true:=by
 unfold SeqAt.shaped;rw[NW];constructor
 ·show Qz.canLayAll0 _=true
  induction xs with
  |nil=>rfl
  |cons x xs z=>
   show(Qz.canLay0 (.str (St x))&&_)=true;rw[z fun y F=>h y (N5 _ F),R6];have:=h x (Oi ..);show x.toArray.all (·<0x110000)=true;rw[all_toArray];exact OM.mpr fun c I=>decide_eq_true (Vq (oJ (OM.mp this.2 c I)) (by decide))
 ·refine decide_eq_true ?_;show Qz.depthAll _+1<=64
  have:Qz.depthAll (xs.map fun l=>Qz.str (St l))=0:=by
   clear h
   induction xs with
   |nil=>rfl
   |cons x xs z=>
    show max 0 _=0;rw[z];rfl
  rw[this];decide
section
variable{K:PySem.W.Frag}{H:Hp}{Q:VK}
theorem nI:∀(xs:List (List Nat)),sD K H (xs.map sv) (xs.map fun l=>Qz.str (St l))
 |[]=>.nil
 |x::xs=>.cons (.str _) (nI xs)
theorem Bk{a b:Addr}{xs ys:List (List Nat)}(ha:aI K H a (xs.map sv))(hb:aI K H b (ys.map sv))(h1:∀x∈xs,x.length<=100000/\x.all fT=true)(h2:∀x∈ys,x.length<=100000/\x.all fT=true)(q:Q (.bl (decide (xs=ys))) H):GU K (.ref a) (.ref b) H Q:=
 ⟨_,_,.lst ha (nI xs),.lst hb (nI ys),qJ xs h1,qJ ys h2,by rw[show Qz.eqv (.list _) (.list _)=_ from yM xs ys];exact q⟩
end
def vY(z:List (List Nat)):Prop:=∀x∈z,x.length<=100000/\x.all fT=true
theorem vY.at_{z:List (List Nat)}(h:vY z)(i:Nat):(z.getD i []).length<=100000/\(z.getD i []).all fT=true:=by
 by_cases hi:i<z.length
 ·have e:z.getD i []=z[i]:=by simp[Q7,hi]
  rw[e];exact h _ (Ps hi)
 ·have e:z.getD i []=[]:=by simp[Q7,hi]
  rw[e];exact⟨OA _,rfl⟩
theorem vY.drop{z:List (List Nat)}(h:vY z)(i:Nat):vY (z.drop i):=fun x F=>h x (Sw F)
theorem vY.take{z:List (List Nat)}(h:vY z)(i:Nat):vY (z.take i):=fun x F=>h x (Ss F)
theorem Ef{xs:List V}(i:Nat):kS xs (some (i:Int)) none=xs.drop i:=by
 unfold kS;rw[HT.sIx_nat,HT.sIx_none];by_cases h:i<=xs.length
 ·rw[Ph h,OD (by simp)]
 ·rw[O0 (as:=xs) (i:=min i xs.length) (),O0 ()];simp
theorem Ie{xs:List V}(j:Nat):kS xs none (some (j:Int))=xs.take j:=by
 unfold kS;rw[HT.sIx_nat,HT.sIx_none,RJ,Sn];by_cases h:j<=xs.length
 ·rw[Ph h]
 ·rw[Qp (),Qg,OD ()]
theorem Eg{xs:List V}(i j:Nat)(z:i<=j):kS xs (some (i:Int)) (some (j:Int))=(xs.drop i).take (j-i):=by
 unfold kS;rw[HT.sIx_nat,HT.sIx_nat];by_cases h:i<=xs.length
 ·rw[Ph h];by_cases h2:j<=xs.length
  ·rw[Ph h2]
  ·rw[Qp (),OD (by simp),OD (by simp;lia)]
 ·rw[O0 (as:=xs) (i:=min i xs.length) (),O0 (as:=xs) (i:=i) ()];simp
theorem Ig(n d:Nat):HT.sIx n d (some (-1))=n-1:=by
 unfold HT.sIx;simp only;split<;>lia
theorem Ih{xs:List V}(i:Nat):kS xs (some (i:Int)) (some (-1))=xs.dropLast.drop i:=by
 unfold kS;rw[HT.sIx_nat,Ig];rw[Sa,drop_take];by_cases h:i<=xs.length
 ·rw[Ph h]
 ·rw[O0 (as:=xs) (i:=min i xs.length) (),O0 (as:=xs) (i:=i) ()];simp
section
variable{K:PySem.W.Frag}{H:Hp}{Q:VK}{x y:N_}
theorem yN{P:N_->Prop}(h:P x):∃a,V.str x=V.str a/\([]:List V)=[]/\True/\P a:=⟨x,rfl,rfl,trivial,h⟩
theorem yO{P:N_->N_->Prop}(h:P x y):∃a b,V.str x=V.str a/\[V.str y]=[V.str b]/\P a b:=⟨x,y,rfl,rfl,h⟩
theorem Eh{P:N_->Prop}{l:List Nat}(hl:l.length<=100000)(h:P (St l)):∃z,[V.str (St l)]=[V.str z]/\z.length<=sizeLine/\P z:=⟨_,rfl,by rw[gj];exact Od hl (by decide),h⟩
theorem fQ{P:Int->Prop}{l:List Nat}(hl:aY l=true)(h:P ((FM.valN l:Nat):Int)):∃a n,[V.str (St l)]=[V.str a]/\PySem.intText? a=some n/\a.length<=640/\P n:=⟨_,_,rfl,(Ee hl).1,(Ee hl).2,h⟩
theorem Ei{l:List Nat}(hl:l.length<=100000)(q:∀p,H p=none->Q (.ref p) (upd H p (.lst ((aJ 32 l).map sv)))):∃a b,V.str (St l)=V.str a/\[V.str (N_.ofString " ")]=[V.str b]/\(b.length==0)=false/\a.length+2<=sizeLine/\iF (Txt.split a b) H Q:=by
 refine⟨_,_,rfl,rfl,by decide+kernel,by rw[gj];exact Od (SR hl 2) (by decide),fun p z=>?_⟩;rw[Bb,yK (by decide),On];exact q p z
theorem Ej{l:List Nat}(hl:l.length<=100000)(q:∀p,H p=none->Q (.ref p) (upd H p (.lst ((aJ 10 l).map sv)))):∃a b,V.str (St l)=V.str a/\[V.str (N_.ofString "\n")]=[V.str b]/\(b.length==0)=false/\a.length+2<=sizeLine/\iF (Txt.split a b) H Q:=by
 refine⟨_,_,rfl,rfl,by decide+kernel,by rw[gj];exact Od (SR hl 2) (by decide),fun p z=>?_⟩;rw[D5,yK (by decide),On];exact q p z
theorem kJ{p:Addr}{z:List (List Nat)}(i:Nat)(hs:aI K H p (z.map sv))(hi:i<z.length)(h:Q (sv (z.getD i [])) H):xK K (.ref p) (.int (i:Int)) H Q:=by
 refine gB (j:=i) hs rfl ?_ h;rw[NZ];simp[Q7,hi]
theorem Jt{p:Addr}{z:List (List Nat)}(hs:aI K H p (z.map sv))(hi:0<z.length)(h:Q (sv (z.getLastD [])) H):xK K (.ref p) (.int (-1)) H Q:=by
 refine wS hs ?_ h;rw[QK,PN];cases e:z.getLast? with
 |none=>
  rw[getLast?_eq_none_iff] at e;rw[e] at hi;simp at hi
 |some x=>rfl
theorem mZ{a:Addr}{F z:List (List Nat)}{lo hi:Option Int}(h:aI K H a (F.map sv))(e:kS (F.map sv) lo hi=z.map sv)(q:∀p,H p=none->Q (.ref p) (upd H p (.lst (z.map sv)))):GP K (.ref a) lo hi H Q:=⟨a,_,rfl,h,fun p I=>by rw[e];exact q p I⟩
theorem pV{z:List (List Nat)}(i:Nat):kS (z.map sv) (some (i:Int)) none=(z.drop i).map sv:=by rw[Ef,Rk]
theorem FQ{z:List (List Nat)}(i:Nat):kS (z.map sv) none (some (i:Int))=(z.take i).map sv:=by rw[Ie,VC]
theorem wX{z:List (List Nat)}(i j:Nat)(h:i<=j):kS (z.map sv) (some (i:Int)) (some (j:Int))=((z.drop i).take (j-i)).map sv:=by rw[Eg i j h,VC,Rk]
theorem wY{z:List (List Nat)}(i:Nat):kS (z.map sv) (some (i:Int)) (some (-1))=(z.dropLast.drop i).map sv:=by rw[Ih,Rk,map_dropLast]
end
theorem vZ(c:Nat):∀(l p:List Nat),p∈aJ c l->p.length<=l.length/\∀x∈p,x∈l
 |[],p,h=>by
  cases OT.mp h;exact⟨NX _,fun x J=>J⟩
 |x::r,p,h=>by
  obtain⟨h',t',e⟩:=iT c r;unfold aJ at h;rw[e] at h;have I:=vZ c r;rw[e] at I;by_cases q:x=c
  ·simp only[q,if_true] at h;rcases Og.mp h with z|z
   ·subst z;exact⟨OA _,fun y F=>by cases F⟩
   ·have:=I p z;exact⟨TV this.1,fun y F=>N5 _ (this.2 y F)⟩
  ·simp only[q,if_false] at h;rcases Og.mp h with z|z
   ·subst z;have:=I h' (Oi ..)
    exact⟨Uj this.1,fun y F=>by
     rcases Og.mp F with w|w
     ·rw[w];exact Oi ..
     ·exact N5 _ (this.2 y w)⟩
   ·have:=I p (N5 _ z);exact⟨TV this.1,fun y F=>N5 _ (this.2 y F)⟩
theorem lR{c:Nat}{l:List Nat}(h:l.length<=100000)(hs:l.all fT=true):vY (aJ c l):=fun p z=>by
 have:=vZ c l p z;exact⟨Od this.1 h,OM.mpr fun x F=>OM.mp hs x (this.2 x F)⟩
theorem v_(c:Nat):∀l:List Nat,(aJ c l).length<=l.length+1
 |[]=>NX _
 |x::r=>by
  obtain⟨h',t',e⟩:=iT c r;have z:=v_ c r;unfold aJ;rw[e] at z ⊢;by_cases q:x=c
  ·simp only[q,if_true,Ol] at z ⊢;lia
  ·simp only[q,if_false,Ol] at z ⊢;lia
local macro_rules|`(tactic|walk_at $s:str)=>do
 let t ←match s.getString with|"x"=>pure "? Fare.eT;? Fare.yN Fare.yO"|_=>Lean.Macro.throwUnsupported
 `(tactic|fail $(Lean.Syntax.mkStrLit ("~"++t)))
section
variable{P:N3}{w:Oh}{K:PySem.W.Frag}{mg:N_->Option NU}{base:Heap}{A:cX}
inductive wZ(vs:List V)(H:Hp)(Q:VK)(E:XK):Prop|mk(l:List Nat)(_:vs=[sv l])(_:l.all fT=true)(_:l.length<=100000)(_:Q (.bl (aY l)) H)
theorem oO(T:Txt K mg A):fK P w K mg base 1 "is_number" ["text"] wZ:=by
 have S:ax ["text"] ["text"] (ap qm):=axo
 have nd:=S.nd;refine aN T.MN S (fun f M Z outer s H vs Q E hr h=>?_)
 ·obtain⟨l,rfl,hs,hl,z⟩:=h;refine⟨_,(ak (au (fZ (DC PySem.F.slot_str_isdigit PySem.F.type_str_isdigit zx (pv 0)) (fZ (jH fi (az jP (by rfl) T.Ks bU (ab (pv 0) ag)) (aE T.Mn)) (gq (Az (jH fB (pv 0) de) (gq (jH qi (ba wq (pv 0) ao) de)))))))),?_⟩;exists 0,1,0;unfold aY at z;left;rw[zV hs];by_cases h1:(l.all dE&&decide (l≠[]))=true
  ·rw[h1] at z ⊢;have I:l≠[]:=of_decide_eq_true (O9.mp h1).2;obtain⟨c,r,rfl⟩:=exists_cons_of_ne_nil I;left;refine Eh hl ?_;left;rw[gj];refine gz (fun h2=>?_) (fun h2=>?_)
   ·rw[decide_eq_true (show(c::r).length<=9 by lia)] at z;left;rw[wW,j5];refine gz (fun J=>?_) (fun J=>?_)
    ·have L:c::r=[48]:=J;rw[decide_eq_true L] at z;exact z
    ·have L:¬c::r=[48]:=J;rw[decide_eq_false L] at z;left;refine⟨St (c::r),0,c,rfl,rfl,?_,Bc (j:=0) rfl rfl,?_⟩
     ·rw[gj];exact Od hl (by decide)
     left;refine qq (Q:=Q) z ?_;rw[show(⟨#[c]⟩:N_)=St [c] from rfl,j5];show V.bl (true&&(true&&(false||_)))=V.bl _;simp only[Op,Rr,head?_cons,ne_eq,N6.injEq];refine congrArg V.bl ?_;have O:FM.cd "0"=[48]:=by decide+kernel
     rw[O];by_cases Y:c=48<;>simp[Y]
   ·rw[decide_eq_false (show ¬(c::r).length<=9 by lia)] at z;exact z
  ·have h1:(l.all dE&&decide (l≠[]))=false:=by simpa using h1
   rw[h1] at z ⊢;left;exact z
inductive q_(vs:List V)(H:Hp)(Q:VK)(E:XK):Prop|mk(l:List Nat)(_:vs=[sv l])(_:l.length<=100000)(_:Q (.bl (gp l)) H)
theorem ra(T:Txt K mg A):fK P w K mg base 1 "are_weekdays" ["word"] q_:=by
 have S:ax ["word"] ["word"] (ap k8):=axo
 have nd:=S.nd;refine aN T.M3 S (fun f I J outer s H vs Q E L h=>?_)
 ·obtain⟨l,rfl,hl,z⟩:=h;refine⟨_,(ak (au (fZ (jH fB (az jP (by rfl) T.Ks bU (ab (pv 0) ag)) ao) (gq (jH fB (aD b0 (AS PySem.F.slot_str_count PySem.F.type_str_count xX (pv 0) de) (AS PySem.F.slot_str_count PySem.F.type_str_count xX (pv 0) de)) ao))))),?_⟩;exists 0,1,0;unfold gp at z;left;refine Eh hl ?_;left;rw[gj];refine gz (fun h1=>?_) (fun h1=>?_)
  ·rw[decide_eq_true (show l.length=7 by lia)] at z;left;rw[wW,wW,show FM.cd "0"=[48] by decide+kernel,show FM.cd "1"=[49] by decide+kernel,yL,yL];refine qq (Q:=Q) z ?_;rw[Op];exact congrArg V.bl (decide_eq_decide.mpr ())
  ·rw[decide_eq_false (show ¬l.length=7 by lia)] at z;exact z
theorem Ju{s:String}(h1:(FM.cd s).length<=100000)(h2:(FM.cd s).all fT=true):vY [FM.cd s]:=fun x z=>by cases OT.mp z;exact⟨h1,h2⟩
theorem FR:vY []:=fun x z=>by cases z
def j9(z:List (List Nat)):List (List Nat):=if z.take 1=[FM.cd "first"] then z.drop 1 else z
theorem yP(z:List (List Nat)):dq z=(decide (j9 z=[])||(decide ((j9 z).length=2)&&decide ((j9 z).getD 0 []=FM.cd "card")&&dS ((j9 z).getD 1 []))):=rfl
inductive w8(K:PySem.W.Frag)(vs:List V)(H:Hp)(Q:VK)(E:XK):Prop|mk(a:Addr)(z:List (List Nat))(_:vs=[.ref a])(_:aI K H a (z.map sv))(_:vY z)(_:∀H',Same H H'->Q (.bl (dq z)) H')
theorem w9(T:Txt K mg A):fK P w K mg base 2 "is_ending" ["words"] (w8 K):=by
 have S:ax ["words","asked"] ["words"] (ap qp):=axo
 have nd:=S.nd;refine aN T.M4 S (fun f an Ar outer s H vs Q E Z h=>?_)
 ·obtain⟨a,I,rfl,ha,hw,z⟩:=h
  refine⟨_,(ae (aM nd 1 (fh (dA (wu Z.units) (fC gn (pv 0) nS (dO ao)) (aH (ab de ag))) (fC gn (pv 0) (dO ao) nS) (pv 0)))
   (ak (au (Az (jH (wu Z.units) (pv 1) (aH ag)) (gq (fZ (jH fB (az aB (by rfl) T.Ks bU (ab (pv 1) ag)) ao) (fZ (jH fB (ba ay (pv 1) ao) de) (gq (aF (iQ T) Z (ab (ba ay (pv 1) ao) ag)))))))))),?_⟩
  exists 0,1,1;rw[yP] at z
  have part:∀(b:Addr)(H1:Hp),Same H H1->aI K H1 b ((j9 I).map sv)->vY (j9 I)->Bv (Bu (y_ (GU K) (fX 1) (BD wj)) (si (y_ EG (GO (fun xs H Q=>∃p ys,xs=[V.ref p]/\(aI K H p ys\/gI K H p ys)/\Q (V.int ↑ys.length) H) (sB (fX 1) wj)) (tC (V.int 2))) (si (y_ EG (y_ (xK K) (fX 1) (tC (V.int 0))) (tC (V.str "card"))) (sC tL [] E0 (sB (y_ (xK K) (fX 1) (tC (V.int 1))) wj))))) {nx:=fun _ H'=>Q .non H',rt:=Q} [some (.ref a),some (.ref b)] H1:=by
   intro b H1 s1 hb L;generalize j9 I=as at z hb L ⊢;left;refine⟨gG,fun l hl=>?_⟩;have J:=s1.updN (o:=.lst []) hl;have F:=(Same.new (o:=.lst []) hl).seq hb;have O:=ac (H:=H1) (a:=l) (o:=.lst []);generalize upd H1 l (.lst [])=H2 at J F O ⊢;left;refine Bk (ys:=[]) F (aI.of O) L FR ?_;left;refine gz (fun h1=>?_) (fun h1=>?_)
   ·rw[decide_eq_true h1] at z;exact z H2 J
   ·rw[decide_eq_false h1,Rr] at z;left;refine dI F ?_;left;rw[NV];refine gz (fun h2=>?_) (fun h2=>?_)
    ·have h2:as.length=2:=by lia
     rw[decide_eq_true h2,Op] at z;left;refine kJ 0 F () ?_;left;rw[wW,j5];refine gz (fun Y=>?_) (fun Y=>?_)
     ·rw[decide_eq_true Y,Op] at z;left;refine kJ 1 F () ?_;left;exact⟨_,rfl,(L.at_ 1).2,(L.at_ 1).1,z H2 J⟩
     ·rw[decide_eq_false Y,OQ] at z;exact z H2 J
    ·have h2:¬as.length=2:=by lia
     rw[decide_eq_false h2,OQ,OQ] at z;exact z H2 J
  left;refine mZ ha (FQ 1) fun l1 h1=>?_;left;refine⟨c_,fun l2 h2=>?_⟩;left;have al:l1≠l2:=aw ac h2;refine Bk (xs:=I.take 1) (ys:=[FM.cd "first"]) (aI.of (by rw[aj al];exact ac)) (aI.of (by rw[ac,wW];rfl)) (hw.take 1) (Ju (by decide+kernel) (by decide+kernel)) ?_;have J:Same H (upd (upd H l1 (.lst ((I.take 1).map sv))) l2 (.lst [V.str "first"])):=by walk_at "same"
  have M:=J.seq ha;generalize upd (upd H l1 (.lst ((I.take 1).map sv))) l2 (.lst [V.str "first"])=H2 at J M ⊢;left;refine gz (fun hc=>?_) (fun hc=>?_)
  ·have e:j9 I=I.drop 1:=if_pos hc;left;refine mZ M (pV 1) fun l3 Y=>?_;exact g5 (part l3 _ (J.updN Y) (aI.of (by rw[ac,e])) (by rw[e];exact hw.drop 1))
  ·have e:j9 I=I:=if_neg hc;exact g_ (g5 (part a _ J (by rw[e];exact M) (by rw[e];exact hw)))
theorem Jv{K:PySem.W.Frag}{H:Hp}{Q:VK}{a:Addr}{bs:List Bool}(h:aI K H a (bs.map V.bl))(q:Q (.bl (bs.all id)) H):IZ K [.ref a] H Q:=⟨a,bs,rfl,h,q⟩
theorem Ek{K:PySem.W.Frag}{H:Hp}{Q:VK}{a:Addr}{bs:List Bool}(h:aI K H a (bs.map V.bl))(q:Q (.bl (bs.any id)) H):IY K [.ref a] H Q:=⟨a,bs,rfl,h,q⟩
theorem e9(v:List (List Nat)):be v=(decide (8<=v.length)&&(decide (v.getD 0 []=FM.cd "buy")||decide (v.getD 0 []=FM.cd "flat"))&&(aY (v.getD 2 [])&&aY (v.getD 3 [])&&aY (v.getD 5 [])&&aY (v.getD 6 [])&&aY (v.getD 7 []))&&dS (v.getD 1 [])&&gp (v.getD 4 [])&&dq (v.drop 8)):=rfl
theorem Kd{v:List (List Nat)}(h:8<=v.length):(v.drop 2).take 2++(v.drop 5).take 3=[v.getD 2 [],v.getD 3 [],v.getD 5 [],v.getD 6 [],v.getD 7 []]:=by
 have i:v.drop 2=v.getD 2 []::v.getD 3 []::v.drop 4:=(FM.dr8 h 2 (by decide)).trans (congrArg _ (FM.dr8 h 3 (by decide)))
 have j:v.drop 5=v.getD 5 []::v.getD 6 []::v.getD 7 []::v.drop 8:=(FM.dr8 h 5 (by decide)).trans (congrArg _ ((FM.dr8 h 6 (by decide)).trans (congrArg _ (FM.dr8 h 7 (by decide)))))
 rw[i,j];rfl
inductive mz(K:PySem.W.Frag)(vs:List V)(H:Hp)(Q:VK)(E:XK):Prop|mk(a:Addr)(z:List (List Nat))(_:vs=[.ref a])(_:aI K H a (z.map sv))(_:vY z)(_:∀H',Same H H'->Q (.bl (be z)) H')
theorem mB(T:Txt K mg A):fK P w K mg base 3 "has_product_form" ["words"] (mz K):=by
 have S:ax ["words","numbers","word"] ["words"] (ap iJ):=axo
 have nd:=S.nd;refine aN T.M5 S (fun f as Ar outer s H vs Q E hr h=>?_)
 ·obtain⟨a,z,rfl,ha,Z,F⟩:=h
  refine⟨_,(ae (bc ((mE (dA iX (az aB (by rfl) T.Ks bU (ab (pv 0) ag)) ao) (jM (hG nV (ba ay (pv 0) ao) (gW (ab de (ab de ag))) rfl)))).pt (ak (au qh)) aG)
   (ae (aM nd 1 (aD iD (fC gn (pv 0) (dO ao) (dO ao)) (fC gn (pv 0) (dO ao) (dO ao))))
   (ae (bc (fI (dD (az (GT rfl) (by rfl) T.Mw HI (ab (iE rfl nd (dj (pv 1)) (dn (own:=[("word",2)]) rfl) (fun _ _ _ _ _=>(by exact(eU nd 2))) (fun _ _ _ _ _=>(by exact fA)) (fun _ _ _ _ _=>(by exact(aF (oO T) hr (ab (pv 2) ag))))) ag)))) (ak (au qh)) aG)
   (ak (au (fZ (aF (iQ T) hr (ab (ba ay (pv 0) ao) ag)) (fZ (aF (ra T) hr (ab (ba ay (pv 0) ao) ag)) (gq (aF (w9 T) hr (ab (fC gn (pv 0) (dO ao) nS) ag)))))))))),?_⟩
  exists 0,1,2;rw[e9] at F;left;refine dI ha ?_;left;rw[NV];refine gz (fun h1=>?_) (fun h1=>?_)
  ·rw[decide_eq_false (p:=8<=z.length) ()] at F;left;exact F H (Same.refl _)
  ·have h8:8<=z.length:=by lia
   rw[decide_eq_true h8,Op] at F;left;refine kJ 0 ha () ?_;left;refine⟨gJ,fun t ht=>?_⟩;left;have st:=Same.new (o:=.tup [V.str "buy",V.str "flat"]) ht;refine⟨t,[V.str "buy",V.str "flat"],rfl,.inr (gI.of ac),rfl,rfl,?_⟩
   have e0:EV (sv (z.getD 0 [])) [V.str "buy",V.str "flat"]=(decide (z.getD 0 []=FM.cd "buy")||decide (z.getD 0 []=FM.cd "flat")):=by
    show((N_.ofString "buy"==St _)||((N_.ofString "flat"==St _)||false))=_;rw[wW,wW,rY,rY,U9];congr 1<;>exact decide_eq_decide.mpr eq_comm
   rw[e0];have I:=st.seq ha;generalize upd H t (.tup [V.str "buy",V.str "flat"])=H1 at st I ⊢;left;rw[if_pos rfl];refine jq (fun h2=>?_) (fun h2=>?_)
   ·rw[h2] at F;left;exact F H1 st
   ·rw[h2,Op] at F;left;refine mZ I (wX 2 4 (by decide)) fun l1 f1=>?_;have s2:=st.updN (o:=.lst (((z.drop 2).take 2).map sv)) f1;have al:=(Same.new (o:=.lst (((z.drop 2).take 2).map sv)) f1).seq I;have J:=ac (H:=H1) (a:=l1) (o:=.lst (((z.drop 2).take 2).map sv));rw[show(4-2:Nat)=2 from rfl];generalize upd H1 l1 (.lst (((z.drop 2).take 2).map sv))=H2 at s2 al J ⊢;left;refine mZ al (wX 5 8 (by decide)) fun l2 f2=>?_;have ar:l1≠l2:=aw J f2;left;refine lM (by rw[aj ar];exact J) ac (eP (by simp;lia)) fun l3 f3=>?_;rw[show(8-5:Nat)=3 from rfl] at f3 ⊢;have s3:Same H (upd (upd H2 l2 (.lst (((z.drop 5).take 3).map sv))) l3 (.lst (((z.drop 2).take 2).map sv++((z.drop 5).take 3).map sv))):=by walk_at "same"
    have L:=s3.seq ha;have M:=ac (H:=upd H2 l2 (.lst (((z.drop 5).take 3).map sv))) (a:=l3) (o:=.lst (((z.drop 2).take 2).map sv++((z.drop 5).take 3).map sv));rw[<-Oj,Kd h8] at M s3 L ⊢;generalize upd (upd H2 l2 _) l3 _=H3 at s3 L M ⊢;left;refine D8 (l:=[z.getD 2 [],z.getD 3 [],z.getD 5 [],z.getD 6 [],z.getD 7 []]) (c:=sv) (aI.of M) (by simp) (fun _=>true) (fun x=>V.bl (aY x)) (fun x H4 hx s4 R R' k1 k2=>?_) (fun P H4 f4 s4 Y=>?_)
    ·have an:x.length<=100000/\x.all fT=true:=by
      simp only[Og,Oy,or_false] at hx;rcases hx with rfl|rfl|rfl|rfl|rfl<;>exact Z.at_ _
     dsimp only[bV,OX,Pl];left;refine⟨rfl,?_⟩;left;exact⟨x,rfl,an.2,an.1,k1 H4 rfl (Same.refl _)⟩
    ·have s5:=s3.trans s4;have O:=s4.seq L;rw[OR.mpr (fun _ _=>rfl)] at Y;left;refine Jv (bs:=[z.getD 2 [],z.getD 3 [],z.getD 5 [],z.getD 6 [],z.getD 7 []].map aY) (aI.of (by rw[Y,On];rfl)) ?_
     have e5:([z.getD 2 [],z.getD 3 [],z.getD 5 [],z.getD 6 [],z.getD 7 []].map aY).all id=(aY (z.getD 2 [])&&aY (z.getD 3 [])&&aY (z.getD 5 [])&&aY (z.getD 6 [])&&aY (z.getD 7 [])):=by
      simp only[Oo,QC,Qc,all_nil,id,R6,Bool.and_assoc]
     rw[e5];left;refine jq (fun h3=>?_) (fun h3=>?_)
     ·rw[h3] at F;left;exact F H4 s5
     ·rw[h3,Op] at F;left;refine kJ 1 O () ?_;left;refine⟨_,rfl,(Z.at_ 1).2,(Z.at_ 1).1,?_⟩;left;refine zb (fun Y=>?_) (fun Y=>?_)
      ·rw[Y,Op] at F;left;refine kJ 4 O () ?_;left;refine⟨_,rfl,(Z.at_ 4).1,?_⟩;left;refine zb (fun h5=>?_) (fun h5=>?_)
       ·rw[h5,Op] at F;left;refine mZ O (pV 8) fun l4 f4=>?_;left;exact⟨l4,z.drop 8,rfl,aI.of ac,Z.drop 8,fun H6 s6=>F H6 ((s5.updN f4).trans s6)⟩
       ·rw[h5] at F;exact F H4 s5
      ·rw[Y] at F;exact F H4 s5
end
local macro_rules|`(tactic|walk_at $s:str)=>do
 let t ←match s.getString with|"x"=>pure "? Fare.aV|? Fare.dM;? Fare.bJd Fare.bPd|? Fare.dN Fare.aW Fare.cY Fare.bQ Fare.bR Fare.cZ Fare.bS Fare.aO"|_=>Lean.Macro.throwUnsupported
 `(tactic|fail $(Lean.Syntax.mkStrLit ("~"++t)))
section
variable{P:N3}{w:Oh}{K:PySem.W.Frag}{mg:N_->Option NU}{base:Heap}{A:cX}
theorem rc(v:List (List Nat)):dw v=((if v.getD 0 []=FM.cd "buy" then decide (1<=FM.valN (v.getD 3 []))&&decide (FM.valN (v.getD 3 [])<=10080) else decide (FM.valN (v.getD 3 [])<1440))&&(decide (FM.valN (v.getD 5 [])<FM.valN (v.getD 6 []))&&decide (FM.valN (v.getD 6 [])<=1440))&&decide (FM.valN (v.getD 2 [])<=99999)&&(decide (1<=FM.valN (v.getD 7 []))&&decide (FM.valN (v.getD 7 [])<=4))):=rfl
theorem jI{v:List (List Nat)}(h:be v=true):8<=v.length/\aY (v.getD 2 [])=true/\aY (v.getD 3 [])=true/\aY (v.getD 5 [])=true/\aY (v.getD 6 [])=true/\aY (v.getD 7 [])=true:=by
 rw[e9] at h;simp only[NW,decide_eq_true_eq] at h;obtain⟨⟨⟨⟨⟨h1,_⟩,⟨⟨⟨h2,z⟩,F⟩,I⟩,J⟩,_⟩,_⟩,_⟩:=h;exact⟨h1,h2,z,F,I,J⟩
inductive mC(K:PySem.W.Frag)(vs:List V)(H:Hp)(Q:VK)(E:XK):Prop|mk(a:Addr)(z:List (List Nat))(_:vs=[.ref a])(_:aI K H a (z.map sv))(_:be z=true)(_:Q (.bl (dw z)) H)
theorem mD(T:Txt K mg A):fK P w K mg base 1 "is_within_bounds" ["words"] (mC K):=by
 have S:ax ["words","held","holds","begins"] ["words"] (ap iK):=axo
 have nd:=S.nd;refine aN T.M6 S (fun f al Ar outer s H vs Q E hr h=>?_)
 ·obtain⟨a,z,rfl,ha,hf,F⟩:=h
  refine⟨_,(ae (aM nd 1 (c9 b7 (by rfl) T.Kw (by rfl) (ab (ba ay (pv 0) ao) ag)))
   (ae (bc (dA fB (ba ay (pv 0) ao) de) (ak (aM nd 2 (kP fi fi ao (pv 1) (aE T.KO)))) (ak (aM nd 2 (jH iX (pv 1) (aE T.Kx)))))
   (ae (aM nd 3 (kP iX fi (c9 b7 (by rfl) T.Kw (by rfl) (ab (ba ay (pv 0) ao) ag)) (c9 b7 (by rfl) T.Kw (by rfl) (ab (ba ay (pv 0) ao) ag)) (aE T.Kx)))
   (ak (au (fZ (pv 2) (fZ (pv 3) (fZ (jH fi (c9 b7 (by rfl) T.Kw (by rfl) (ab (ba ay (pv 0) ao) ag)) (aE T.Lh)) (gq (kP fi fi ao (c9 b7 (by rfl) T.Kw (by rfl) (ab (ba ay (pv 0) ao) ag)) (aE T.Li))))))))))),?_⟩
  exists 0,1,3;obtain⟨h8,Z,n3,n5,n6,n7⟩:=jI hf;rw[rc] at F;left;refine kJ 3 ha () ?_;left;refine fQ n3 ?_;left;refine kJ 0 ha () ?_;left;rw[wW,j5];refine gz (fun L=>?_) (fun L=>?_)
  ·rw[if_pos L] at F;left
   have M:(decide (1<=FM.valN (z.getD 3 []))&&decide (FM.valN (z.getD 3 [])<=10080))=(decide ((1:Int)<=(FM.valN (z.getD 3 []):Int))&&decide ((FM.valN (z.getD 3 []):Int)<=10080)):=by
    congr 1<;>exact decide_eq_decide.mpr ()
   rw[M] at F;generalize (decide ((1:Int)<=(FM.valN (z.getD 3 []):Int))&&decide ((FM.valN (z.getD 3 []):Int)<=10080))=hb at F ⊢;left;refine kJ 5 ha () ?_;left;refine fQ n5 ?_;left;refine kJ 6 ha () ?_;left;refine fQ n6 ?_;left
   have O:(decide (FM.valN (z.getD 5 [])<FM.valN (z.getD 6 []))&&decide (FM.valN (z.getD 6 [])<=1440))=(decide ((FM.valN (z.getD 5 []):Int)<(FM.valN (z.getD 6 []):Int))&&decide ((FM.valN (z.getD 6 []):Int)<=1440)):=by
    congr 1<;>exact decide_eq_decide.mpr ()
   rw[O] at F;generalize (decide ((FM.valN (z.getD 5 []):Int)<(FM.valN (z.getD 6 []):Int))&&decide ((FM.valN (z.getD 6 []):Int)<=1440))=hc at F ⊢;left;refine zb (fun I=>?_) (fun I=>?_)
   ·rw[I,Op] at F;left;refine zb (fun J=>?_) (fun J=>?_)
    ·rw[J,Op] at F;left;refine kJ 2 ha () ?_;left;refine fQ Z ?_;left;refine gz (fun Y=>?_) (fun Y=>?_)
     ·rw[decide_eq_true (p:=FM.valN (z.getD 2 [])<=99999) (),Op] at F;left;refine kJ 7 ha () ?_;left;refine fQ n7 ?_;left;refine qq (Q:=Q) F (congrArg V.bl ?_);congr 1<;>exact decide_eq_decide.mpr ()
     ·rw[decide_eq_false (p:=FM.valN (z.getD 2 [])<=99999) (),OQ] at F;exact F
    ·rw[J] at F;exact F
   ·rw[I] at F;exact F
  ·rw[if_neg L] at F;left;have M:decide (FM.valN (z.getD 3 [])<1440)=decide ((FM.valN (z.getD 3 []):Int)<1440):=decide_eq_decide.mpr ();rw[M] at F;generalize decide ((FM.valN (z.getD 3 []):Int)<1440)=hb at F ⊢;left;refine kJ 5 ha () ?_;left;refine fQ n5 ?_;left;refine kJ 6 ha () ?_;left;refine fQ n6 ?_;left
   have O:(decide (FM.valN (z.getD 5 [])<FM.valN (z.getD 6 []))&&decide (FM.valN (z.getD 6 [])<=1440))=(decide ((FM.valN (z.getD 5 []):Int)<(FM.valN (z.getD 6 []):Int))&&decide ((FM.valN (z.getD 6 []):Int)<=1440)):=by
    congr 1<;>exact decide_eq_decide.mpr ()
   rw[O] at F;generalize (decide ((FM.valN (z.getD 5 []):Int)<(FM.valN (z.getD 6 []):Int))&&decide ((FM.valN (z.getD 6 []):Int)<=1440))=hc at F ⊢;left;refine zb (fun I=>?_) (fun I=>?_)
   ·rw[I,Op] at F;left;refine zb (fun J=>?_) (fun J=>?_)
    ·rw[J,Op] at F;left;refine kJ 2 ha () ?_;left;refine fQ Z ?_;left;refine gz (fun Y=>?_) (fun Y=>?_)
     ·rw[decide_eq_true (p:=FM.valN (z.getD 2 [])<=99999) (),Op] at F;left;refine kJ 7 ha () ?_;left;refine fQ n7 ?_;left;refine qq (Q:=Q) F (congrArg V.bl ?_);congr 1<;>exact decide_eq_decide.mpr ()
     ·rw[decide_eq_false (p:=FM.valN (z.getD 2 [])<=99999) (),OQ] at F;exact F
    ·rw[J] at F;exact F
   ·rw[I] at F;exact F
structure jf (H:Hp) (d:Addr) (names:List (List Nat)):Prop where
 ex:∃kvs:List (fu×V),H d=some (.dK kvs)/\kvs.map (·.1)=names.map fun n=>Sum.inr (St n)
theorem jf.keep{H H':Hp}{d:Addr}{names:List (List Nat)}(h:jf H d names)(s:Same H H'):jf H' d names:=by
 obtain⟨kvs,h1,h2⟩:=h;exact⟨kvs,s _ _ h1,h2⟩
theorem tS{kvs:List (fu×V)}{names:List (List Nat)}(h:kvs.map (·.1)=names.map fun n=>Sum.inr (St n))(n:List Nat):(dH kvs (Sum.inr (St n))).isSome=decide (n∈names):=by
 unfold dH;rw[Rc]
 induction kvs generalizing names with
 |nil=>
  cases names with
  |nil=>rfl
  |cons m names=>cases h
 |cons I kvs F=>
  cases names with
  |nil=>cases h
  |cons m names=>
   rw[Oo,Oo] at h;obtain⟨h1,h2⟩:=PB.inj h;rw[Pi,h1];by_cases q:n=m
   ·subst q;rw[decide_eq_true rfl];simp
   ·have e:decide ((Sum.inr (St m):fu)=Sum.inr (St n))=false:=decide_eq_false fun z=>q (pG.mp (Sum.inr.inj z)).symm;rw[e];show(List.find? _ kvs).isSome=_;rw[F h2];simp[q]
inductive pW(K:PySem.W.Frag)(vs:List V)(H:Hp)(Q:VK)(E:XK):Prop|mk(a d:Addr)(z names:List (List Nat))(_:vs=[.ref a,.ref d])(_:aI K H a (z.map sv))(_:vY z)(_:jf H d names)(_:∀H',Same H H'->Q (nv (bb z names)) H')
theorem pX(T:Txt K mg A):fK P w K mg base 4 "product_fault" ["words","earlier"] (pW K):=by
 have S:ax ["words","earlier"] ["words","earlier"] (ap km):=axo
 have nd:=S.nd;refine aN T.M7 S (fun f Z Ar outer s H vs Q E J h=>?_)
 ·obtain⟨a,d,L,names,rfl,ha,hw,hd,z⟩:=h
  refine⟨_,(ae (bc (fI (dD (aF (mB T) J (ab (pv 0) ag)))) (ak (au (aE T.KI))) aG)
   (ae (bc (fI (dD (aF (mD T) J (ab (pv 0) ag)))) (ak (au (aE T.Lp))) aG)
   (ae (bc (ze (GZ (x8 J) (ba ay (pv 0) ao) (pv 1))) (ak (au (aE T.Mr))) aG)
   (ae (bc (dA fB (az vj (by rfl) T.Ks bU (ab (pv 1) ag)) (aE T.Mq)) (ak (au (aE T.Ms))) aG)
   (ak (au (aE T.KG))))))),?_⟩
  exists 0,2,0;unfold bb at z;left;refine⟨a,L,rfl,ha,hw,fun H1 F=>?_⟩;left;refine jq (fun h1=>?_) (fun h1=>?_)
  ·rw[if_pos h1] at z;left;exact z H1 F
  ·rw[if_neg (by rw[h1];exact N2.symm)] at z;have I:=F.seq ha;have h8:=(jI h1).1;left;refine⟨a,L,rfl,I,h1,?_⟩;left;refine jq (fun h2=>?_) (fun h2=>?_)
   ·rw[if_pos h2] at z;left;exact z H1 F
   ·rw[if_neg (by rw[h2];exact N2.symm)] at z;obtain⟨kvs,O,Y⟩:=hd.keep F
    have eL:kvs.length=names.length:=by
     have:=congrArg Os Y;simpa using this
    left;refine kJ 1 I () ?_;left;refine⟨d,_,rfl,kH.k (k:=Sum.inr (St (L.getD 1 []))) O,?_⟩;rw[tS Y];left;refine gz (fun M=>?_) (fun M=>?_)
    ·rw[if_pos M] at z;left;exact z H1 F
    ·rw[if_neg M] at z;left;refine⟨d,kvs,rfl,O,?_⟩;left;refine gz (fun h4=>?_) (fun h4=>?_)
     ·rw[if_pos ()] at z;left;exact z H1 F
     ·rw[if_neg ()] at z;left;exact z H1 F
inductive oP(K:PySem.W.Frag)(vs:List V)(H:Hp)(Q:VK)(E:XK):Prop|mk(a:Addr)(z:List (List Nat))(_:vs=[.ref a])(_:aI K H a (z.map sv))(_:vY z)(_:∀H',Same H H'->Q (.bl (gO z)) H')
theorem oQ(T:Txt K mg A):fK P w K mg base 1 "is_of_any_time" ["words"] (oP K):=by
 have S:ax ["words"] ["words"] (ap jy):=axo
 have nd:=S.nd;refine aN T.M8 S (fun f I Ar outer s H vs Q E J h=>?_)
 ·obtain⟨a,L,rfl,ha,M,O⟩:=h;refine⟨_,(ak (au (jH (wu J.units) (fC gn (pv 0) (dO ao) nS) (aH (ab de (ab de (ab de (ab de ag)))))))),?_⟩;exists 0,1,0;left;refine mZ ha (pV 4) fun Y h1=>?_;left;refine⟨Ia,fun Z h2=>?_⟩;have z:Y≠Z:=aw ac h2;refine Bk (xs:=L.drop 4) (ys:=[FM.cd "1111111",FM.cd "0",FM.cd "1440",FM.cd "4"]) (aI.of (by rw[aj z];exact ac)) (aI.of (by rw[ac,wW,wW,wW,wW];rfl)) (M.drop 4) ?_ ?_
  ·intro x F;simp only[Og,Oy,or_false] at F;rcases F with rfl|rfl|rfl|rfl<;>exact⟨by decide+kernel,by decide+kernel⟩
  ·exact O _ (by walk_at "same")
theorem w_{K:PySem.W.Frag}{xs:List V}{σ:L2.St}{H:Hp}{Q:VK}(h:∀a,(∀H',gI K H' a xs)->Q (.ref a) H):DJ K xs σ H Q:=h
theorem Jw(i:Nat)(h:i<4):[V.str "tariff",V.str "free",V.str "grace",V.str "lost"][i]?=some (sv (gE i)):=by
 rw[wW,wW,wW,wW]
 match i,h with
 |0,_=>rfl
 |1,_=>rfl
 |2,_=>rfl
 |3,_=>rfl
theorem Jx(i:Nat)(h:i<4):[V.int 0,V.int 120,V.int 60,V.int 99999][i]?=some (nv (gK i)):=by
 match i,h with
 |0,_=>rfl
 |1,_=>rfl
 |2,_=>rfl
 |3,_=>rfl
inductive uK(K:PySem.W.Frag)(vs:List V)(H:Hp)(Q:VK)(E:XK):Prop|mk(a:Addr)(i:Nat)(z:List (List Nat))(_:vs=[nv i,.ref a])(_:aI K H a (z.map sv))(_:vY z)(_:i<4)(_:Q (nv (aL i z)) H)
theorem uL(T:Txt K mg A):fK P w K mg base 2 "head_fault" ["line","words"] (uK K):=by
 have S:ax ["line","words"] ["line","words"] (ap oh):=axo
 have nd:=S.nd;refine aN T.M2 S (fun f O Ar outer s H vs Q E M h=>?_)
 ·obtain⟨a,i,Y,rfl,ha,I,hi,z⟩:=h
  refine⟨_,(ae (bc ((mE (dA qi (az aB (by rfl) T.Ks bU (ab (pv 1) ag)) ao) (jM (dA qi (ba ay (pv 1) ao) (ba gX (gZ T.KY) (pv 0)))))).pt (ak (au (aE T.KI))) aG)
   (ae (bc (dA fB (pv 0) ao) (ak (au (fh (dD (aF (iQ T) M (ab (ba ay (pv 1) ao) ag))) (aE T.KG) (aE T.KI)))) aG)
   (ae (bc (fI (dD (aF (oO T) M (ab (ba ay (pv 1) ao) ag)))) (ak (au (aE T.KI))) aG)
   (ak (au (fh (dA fi (c9 b7 (by rfl) T.Kw (by rfl) (ab (ba ay (pv 1) ao) ag)) (ba gX (gZ T.Mp) (pv 0))) (aE T.KG) (aE T.Lp))))))),?_⟩
  exists 0,2,0;unfold aL at z;left;refine dI ha ?_;left;rw[NV];refine FH (fun h1=>?_) (fun h1=>?_)
  ·rw[if_pos (.inl ())] at z;left;exact z
  ·have h2:Y.length=2:=by lia
   left;refine kJ 0 ha () ?_;left;refine w_ fun t Z=>?_;left;refine C1 (j:=i) (v:=sv (gE i)) (Z _) rfl (Jw i hi) ?_;left;rw[j5];refine FH (fun J=>?_) (fun J=>?_)
   ·rw[if_pos (.inr J)] at z;left;exact z
   ·rw[if_neg (by rintro(q|q);exact q h2;exact q J)] at z;left;refine gz (fun h4=>?_) (fun h4=>?_)
    ·rw[if_pos ()] at z;left;refine kJ 1 ha () ?_;left;refine⟨_,rfl,(I.at_ 1).2,(I.at_ 1).1,?_⟩;left;refine zb (fun F=>?_) (fun F=>?_)
     ·rw[if_pos F] at z;left;exact z
     ·rw[if_neg (by rw[F];exact N2)] at z;left;exact z
    ·rw[if_neg ()] at z;left;refine kJ 1 ha () ?_;left;refine⟨_,rfl,(I.at_ 1).2,(I.at_ 1).1,?_⟩;left;refine jq (fun F=>?_) (fun F=>?_)
     ·rw[if_neg (by rw[F];exact N2)] at z;left;exact z
     ·rw[if_pos F] at z;left;refine kJ 1 ha () ?_;left;refine fQ F ?_;left;refine w_ fun t2 L=>?_;left;refine C1 (j:=i) (v:=nv (gK i)) (L _) rfl (Jx i hi) ?_;left;refine gz (fun h6=>?_) (fun h6=>?_)
      ·rw[if_pos ()] at z;left;exact z
      ·rw[if_neg ()] at z;left;exact z
theorem jJ{H:Hp}{Q:VK}{l:List Nat}(hl:l.length<=100000)(q:∀p,H p=none->Q (.ref p) (upd H p (.lst ((aJ 32 l).map sv)))):((N_.ofString " ").length==0)=false/\(St l).length+2<=sizeLine/\iF (Txt.split (St l) (N_.ofString " ")) H Q:=by
 obtain⟨a,b,z,F,h1,h2,I⟩:=Ei (Q:=Q) hl q;cases z;cases F;exact⟨h1,h2,I⟩
theorem El{H:Hp}{Q:VK}{l:List Nat}(hl:l.length<=100000)(q:∀p,H p=none->Q (.ref p) (upd H p (.lst ((aJ 10 l).map sv)))):((N_.ofString "\n").length==0)=false/\(St l).length+2<=sizeLine/\iF (Txt.split (St l) (N_.ofString "\n")) H Q:=by
 obtain⟨a,b,z,F,h1,h2,I⟩:=Ej (Q:=Q) hl q;cases z;cases F;exact⟨h1,h2,I⟩
theorem jf.len{H:Hp}{d:Addr}{names:List (List Nat)}(h:jf H d names):∃kvs:List (fu×V),H d=some (.dK kvs)/\kvs.length=names.length:=by
 obtain⟨kvs,h1,h2⟩:=h;exact⟨kvs,h1,by simpa using congrArg Os h2⟩
inductive xa(K:PySem.W.Frag)(vs:List V)(H:Hp)(Q:VK)(E:XK):Prop|mk(a d:Addr)(ls names:List (List Nat))(_:vs=[.ref a,.ref d])(_:aI K H a (ls.map sv))(_:vY ls)(_:0<ls.length)(_:ls.length<=100000)(_:jf H d names)(_:∀H',Same H H'->Q (nv (gR ls names)) H')
theorem xb(T:Txt K mg A):fK P w K mg base 2 "end_fault" ["lines","names"] (xa K):=by
 have S:ax ["lines","names","line"] ["lines","names"] (ap qr):=axo
 have nd:=S.nd;refine aN T.M9 S (fun f Y Ar outer s H vs Q E Z h=>?_)
 ·obtain⟨a,d,ls,names,rfl,ha,hw,h0,hl,hd,z⟩:=h
  refine⟨_,(ae (bc ((mE (dA qi (ba ay (pv 0) (kj gU ao)) de) (jM (dA fB (az vj (by rfl) T.Ks bU (ab (pv 1) ag)) ao)))).pt (ak (au (aE T.KI))) aG)
   (ae (bc (fI (dD (az (zu rfl) (by rfl) T.KZ zC (ab (iE rfl nd (dj (fC gn (pv 0) (dO (az aB (by rfl) T.Ks bU (ab (gZ T.KY) ag))) (dO (kj gU ao)))) (dn (own:=[("line",2)]) rfl) (fun _ _ _ _ _=>(by exact(eU nd 2))) (fun _ _ _ _ _=>(by exact fA)) (fun _ _ _ _ _=>(by exact(aF (oQ T) Z (ab (iG (pv 2) de) ag))))) ag)))) (ak (au (aE T.Mt))) aG)
   (ak (au (aE T.KG))))),?_⟩
  exists 0,2,1;unfold gR at z;obtain⟨kvs,q1,q2⟩:=hd.len;left;refine Jt ha h0 ?_;left;rw[nk,j5];refine FH (fun h1=>?_) (fun h1=>?_)
  ·rw[if_pos (.inl h1)] at z;left;exact z H (Same.refl _)
  ·left;refine⟨d,kvs,rfl,q1,?_⟩;left;refine gz (fun h2=>?_) (fun h2=>?_)
   ·rw[if_pos (.inr ())] at z;left;exact z H (Same.refl _)
   ·rw[if_neg (by rintro(q|q);exact q h1;lia)] at z;left;refine w_ fun t ht=>?_;left;refine tM (ht _) ?_;left;refine mZ ha (wY 4) fun l1 f1=>?_;refine D8 (l:=ls.dropLast.drop 4) (c:=sv) (aI.of ac) (by simp;lia) (fun _=>true) (fun x=>V.bl (gO (aJ 32 x))) (fun x J hx M R R' k1 k2=>?_) (fun P J f4 M O=>?_)
    ·have F:=hw x ((Uk _).subset (Sw hx));dsimp only[bV,OX,Pl];left;refine⟨rfl,?_⟩;left;refine jJ F.1 fun p hp=>?_;left;exact⟨p,aJ 32 x,rfl,aI.of ac,lR F.1 F.2,fun H5 I=>k1 H5 rfl ((Same.new hp).trans I)⟩
    ·have I:=(Same.new f1).trans M;rw[OR.mpr (fun _ _=>rfl)] at O;left;refine Ek (bs:=(ls.dropLast.drop 4).map fun x=>gO (aJ 32 x)) (aI.of (by rw[O,On];rfl)) ?_;have e5:((ls.dropLast.drop 4).map fun x=>gO (aJ 32 x)).any id=(ls.dropLast.drop 4).any fun l=>gO (aJ 32 l):=by rw[RY];rfl
     rw[e5];left;refine jq (fun L=>?_) (fun L=>?_)
     ·rw[if_neg (by rw[L];exact N2)] at z;left;exact z J I
     ·rw[if_pos L] at z;left;exact z J I
inductive yQ(K:PySem.W.Frag)(vs:List V)(H:Hp)(Q:VK)(E:XK):Prop|mk(a:Addr)(ns:List Nat)(_:vs=[.ref a])(_:aI K H a (ns.map nv))(_:(∀n∈ns,n<256))(_:ns.length<=5000)(_:∀(H':Hp)(r:Addr),H r=none->Same H H'->H' r=some (.lst ((aJ 10 (ns.map bM)).map sv))->Q (.ref r) H')
theorem yR(T:Txt K mg A):fK P w K mg base 3 "lines_of" ["text"] (yQ K):=by
 have S:ax ["text"] ["text"] (ap sO):=axo
 have nd:=S.nd;refine aN T.Na S (fun f I M outer s H vs Q E J h=>?_)
 ·obtain⟨a,ns,rfl,ha,hb,hl,L⟩:=h;refine⟨_,(ak (au (iG (aF (j3 T) J (ab (pv 0) ag)) de))),?_⟩;exists 0,1,0;left;refine⟨a,ns,rfl,ha,hb,by lia,fun H1 z=>?_⟩;left;exact El (by rw[NV];lia) fun p F=>L _ p (z.free F) (z.updN F) ac
theorem tT(i:Nat)(names:List (List Nat))(l:List Nat)(r:List (List Nat)):bN i names (l::r)=if (if i<4 then aL i (aJ 32 l) else bb (aJ 32 l) names)=0 then bN (i+1) (if i<4 then names else names++[(aJ 32 l).getD 1 []]) r else(some ((if i<4 then aL i (aJ 32 l) else bb (aJ 32 l) names),i),names):=rfl
theorem jr(ls:List (List Nat)):dy ls=match bN 0 [] ls.dropLast with
 |(some f,_)=>f
 |(none,names)=>(gR ls names,ls.length-1):=rfl
inductive tU(K:PySem.W.Frag)(vs:List V)(H:Hp)(Q:VK)(E:XK):Prop|mk(a:Addr)(ls:List (List Nat))(_:vs=[.ref a])(_:aI K H a (ls.map sv))(_:vY ls)(_:0<ls.length)(_:ls.length<=10000)(_:∀(H':Hp)(t:Addr),Same H H'->H' t=some (.tup [nv (dy ls).1,nv (dy ls).2])->Q (.ref t) H')
theorem tV(T:Txt K mg A):fK P w K mg base 5 "first_fault" ["lines"] (tU K):=by
 have S:ax ["lines","names","line","words","in_head","kind"] ["lines"] (ap mI):=axo
 have nd:=S.nd;refine aN T.M_ S (fun f b1 Ar outer s H vs Q E hr h=>?_)
 ·obtain⟨a,ls,rfl,ha,hw,h0,hl,kk⟩:=h
  refine⟨_,(ae (aM nd 1 Du)
   (ae (fW OU.never rfl (o_ (by rfl) T.KA (ab (aD bO (az aB (by rfl) T.Ks bU (ab (pv 0) ag)) ao) ag)) (eU nd 2) (ae (aM nd 3 (iG (ba ay (pv 0) (pv 2)) de))
   (ae (aM nd 4 (jH iX (pv 2) (az aB (by rfl) T.Ks bU (ab (gZ T.KY) ag))))
   (ae (aM nd 5 (fh (dD (pv 4)) (aF (uL T) hr (ab (pv 2) (ab (pv 3) ag))) (aF (pX T) hr (ab (pv 3) (ab (pv 1) ag)))))
   (ae (bc (dA qi (pv 5) (aE T.KG)) (ak (au (gW (ab (pv 5) (ab (pv 2) ag))))) aG)
   (ak (bc (fI (dD (pv 4))) (ak (AQ (x8 hr) (pv 1) (ba ay (pv 3) ao) qh rfl)) aG)))))))
   (ak (au (gW (ab (aF (xb T) hr (ab (pv 0) (ab (pv 1) ag))) (ab (aD bO (az aB (by rfl) T.Ks bU (ab (pv 0) ag)) ao) ag))))))),?_⟩
  exists 0,1,5;left;intro d hd;left;refine dI ((Same.new hd).seq ha) ?_;left;rw[NV];have ej:(ls.length:Int)-1=((ls.length-1:Nat):Int):=by lia
  rw[ej];refine⟨_,rfl,(gF ()).1,(gF ()).2,?_⟩;rw[QB];refine lV (fun i σ H'=>∃(v2 v3 v4 v5:Option V)(nm:List (List Nat)),σ=[some (.ref a),some (.ref d),v2,v3,v4,v5]/\Same H H'/\jf H' d nm/\nm.length<=i/\bN 0 [] ls.dropLast=bN i nm (ls.dropLast.drop i)) ⟨_,_,_,_,[],rfl,by walk_at "same",⟨[],ac,rfl⟩,NX _,rfl⟩ ?_ ?_
  ·rintro i σ H' hi ⟨v2,v3,v4,v5,nm,rfl,O,hn,an,z⟩;have ei:(0:Int)+(i:Nat)=((i:Nat):Int):=by lia
   rw[ei];have ar:i<ls.dropLast.length:=by rw[QW];lia
   have eg:ls.dropLast[i]=ls.getD i []:=by
    rw[getElem_dropLast];simp[Q7,show i<ls.length by lia]
   rw[Pk ar,eg,tT] at z;have hx:=hw.at_ i;have as:=O.seq ha;left;refine kJ i as () ?_;left;refine jJ hx.1 fun p hp=>?_;have M:=O.updN (o:=.lst ((aJ 32 (ls.getD i [])).map sv)) hp;have J:=hn.keep (Same.new (o:=.lst ((aJ 32 (ls.getD i [])).map sv)) hp);have L:=ac (H:=H') (a:=p) (o:=.lst ((aJ 32 (ls.getD i [])).map sv));have wp:=lR (c:=32) hx.1 hx.2;generalize aJ 32 (ls.getD i [])=I at z M J L wp ⊢;generalize upd H' p (.lst (I.map sv))=H2 at M J L ⊢;left;refine w_ fun t ht=>?_;left;refine tM (ht _) ?_;left;by_cases Y:i<4
   ·have e4:decide ((i:Int)<(([V.str "tariff",V.str "free",V.str "grace",V.str "lost"]:List V).length:Int))=true:=decide_eq_true (show(i:Int)<4 by lia);rw[if_pos Y,if_pos Y] at z;rw[e4];left;refine⟨p,i,I,rfl,aI.of L,wp,Y,?_⟩;left;refine FH (fun F=>?_) (fun F=>?_)
    ·have F:¬aL i I=0:=by lia
     rw[if_neg F] at z;left;refine⟨gJ,fun u Z=>kk _ u (M.updN Z) ?_⟩;rw[ac,jr,z]
    ·have F:aL i I=0:=by lia
     rw[if_pos F] at z;left;exact⟨_,_,_,_,nm,rfl,M,J,by lia,z⟩
   ·have e4:decide ((i:Int)<(([V.str "tariff",V.str "free",V.str "grace",V.str "lost"]:List V).length:Int))=false:=decide_eq_false (show ¬(i:Int)<4 by lia);rw[if_neg Y,if_neg Y] at z;rw[e4];left;refine⟨p,d,I,nm,rfl,aI.of L,wp,J,fun H3 s3=>?_⟩;have av:=s3 _ _ L;obtain⟨kvs,q1,q2⟩:=J.keep s3;left;refine FH (fun F=>?_) (fun F=>?_)
    ·have F:¬bb I nm=0:=by lia
     rw[if_neg F] at z;left;refine⟨gJ,fun u Z=>kk _ u ((M.trans s3).updN Z) ?_⟩;rw[ac,jr,z]
    ·have F:bb I nm=0:=by lia
     rw[if_pos F] at z
     have al:be I=true/\¬I.getD 1 []∈nm:=by
      unfold bb at F;split at F
      ·lia
      ·rename_i z1;split at F
       ·lia
       ·split at F
        ·lia
        ·rename_i z2;exact⟨by simpa using z1,z2⟩
     have h8:=(jI al.1).1;left;refine g6 ?_;left;refine kJ 1 (aI.of av) () ?_
     have hv:dH kvs (Sum.inr (St (I.getD 1 [])))=none:=by
      have:=tS q2 (I.getD 1 []);rw[decide_eq_false al.2] at this;simpa using this
     refine⟨d,_,rfl,wx.k (k:=Sum.inr (St (I.getD 1 []))) q1 (fj ?_),?_⟩
     ·have:=congrArg Os q2;simp at this;lia
     rw[xS _ hv];refine⟨_,_,_,_,nm++[I.getD 1 []],rfl,(M.trans s3).upd hd,⟨_,ac,?_⟩,?_,z⟩
     ·rw[Oj,Oj,q2];rfl
     ·rw[Of];show nm.length+1<=_;lia
  ·rintro σ H' ⟨v2,v3,v4,v5,nm,rfl,O,hn,an,z⟩;rw[O0 (by rw[QW];lia)] at z;left;refine⟨a,d,ls,nm,rfl,O.seq ha,hw,h0,by lia,hn,fun H2 M=>?_⟩;left;refine dI (M.seq (O.seq ha)) ?_;left;refine⟨gJ,fun u Z=>kk _ u ((O.trans M).updN Z) ?_⟩;rw[ac,jr,z,NV];show some (HO.tup [nv (gR ls nm),V.int ((ls.length:Int)-1)])=some (HO.tup [nv (gR ls nm),nv (ls.length-1)]);rw[ej]
structure Em (bs:List OB) (ws:List (List Nat)):Prop where
 eq:ws=bs.map FM.sg
 form:be ws=true
 wok:vY ws
theorem Em.flat{bs:List OB}{F:List (List Nat)}(h:Em bs F):(aP bs).holds=if F.getD 0 []=FM.cd "flat" then .till (FM.valN (F.getD 3 [])) else .mins (FM.valN (F.getD 3 [])):=by
 have I:=h.form;rw[e9] at I;simp only[NW,Pa,decide_eq_true_eq] at I;have J:=I.1.1.1.1.2;show(if FM.sg (bs.getD 0 [])=FM.cd "buy" then _ else _)=_;rw[h.eq,dX,dX] at*;have ne:¬FM.cd "buy"=FM.cd "flat":=by decide+kernel
 rcases J with q|q
 ·rw[if_pos q,if_neg (by rw[q];exact ne)]
 ·rw[if_neg (by rw[q];exact fun z=>ne z.symm),if_pos q]
theorem Em.days{bs:List OB}{F:List (List Nat)}(h:Em bs F):ou (aP bs)=F.getD 4 []:=by
 have z:=h.form;rw[e9] at z;simp only[NW] at z;have hd:=z.1.2;rw[h.eq,dX] at hd ⊢;exact FC hd
theorem Em.first{bs:List OB}{z:List (List Nat)}(h:Em bs z):(aP bs).first=decide ((z.drop 8).take 1=[FM.cd "first"]):=by
 rw[h.eq,<-Rk];rfl
theorem Em.ending{bs:List OB}{F:List (List Nat)}(h:Em bs F):dq (F.drop 8)=true:=by
 have z:=h.form;rw[e9] at z;simp only[NW] at z;exact z.2
theorem Kq{α:Type}(l:List α):l.dropLast.drop 8=(l.drop 8).dropLast:=by
 rw[Sa,Sa,drop_take,Q5,Nat.sub_right_comm]
theorem Em.card{bs:List OB}{F:List (List Nat)}(h:Em bs F):dC (aP bs).card=if FM.cd "card"∈F.dropLast.drop 8 then F.getLastD [] else[]:=by
 have S:=(jI h.form).1;have J:(bs.drop 8).map FM.sg=F.drop 8:=by rw[h.eq,Rk]
 have L:(bs.drop 8).length=(F.drop 8).length:=by rw[<-J,NV]
 have M:¬FM.cd "card"=FM.cd "first":=by decide+kernel
 show dC (if 2<=(bs.drop 8).length then some ((bs.drop 8).getLastD []) else none)=_;rw[Kq,L]
 have I:∀x,(F.drop 8).getLast?=some x->F.getLastD []=x:=fun x z=>by
  rw[PN];rw[getLast?_drop] at z;split at z
  ·cases z
  ·rw[z];rfl
 have hb:∀x,(F.drop 8).getLast?=some x->FM.sg ((bs.drop 8).getLastD [])=x:=fun x z=>by
  rw[<-J,QK] at z;rw[PN];cases q:(bs.drop 8).getLast? with
  |none=>rw[q] at z;cases z
  |some y=>rw[q] at z;exact N6.inj z
 have fin:∀x,(F.drop 8).getLast?=some x->dS x=true->dC (some ((bs.drop 8).getLastD []))=F.getLastD []:=fun x z O=>by
  rw[I x z];have:=hb x z;show((bs.drop 8).getLastD []).map UInt8.toNat=x;rw[<-oH (by rw[this];exact(lJ O).1)];exact this
 rcases oI h.ending with q|q|⟨x,q,z⟩|⟨x,q,z⟩
 ·rw[q];rfl
 ·rw[q];rfl
 ·have f:=fin x (by rw[q];rfl) z;rw[q,if_pos (by show 2<=2;lia),if_pos (by simp)];exact f
 ·have f:=fin x (by rw[q];rfl) z;rw[q,if_pos (by show 2<=3;lia),if_pos (by simp)];exact f
theorem FS(n:List Nat)(xs:List (List Nat)):EV (sv n) (xs.map sv)=decide (n∈xs):=by
 unfold EV;rw[RY];show xs.any (fun x=>St x==St n)=_
 induction xs with
 |nil=>rfl
 |cons x xs F=>
  rw[QQ,F,rY];by_cases q:x=n
  ·subst q;simp
  ·have:¬n=x:=fun z=>q z.symm;simp[q,this]
theorem CI(xs:List (List Nat)):(xs.map sv).all mF=true:=by
 rw[SX];exact OM.mpr fun x _=>rfl
inductive Al(K:PySem.W.Frag)(A:cX)(vs:List V)(H:Hp)(Q:VK)(E:XK):Prop|mk(o dx a:Addr)(k:Nat)(bs:List OB)(z:List (List Nat))(_:vs=[.ref o,nv k,.ref a])(_:H o=some (.ins A.Product dx []))(_:aI K H a (z.map sv))(_:Em bs z)(_:∀(H':Hp),aa A H' o k (aP bs)->(∀c u,H c=some u->c≠o->H' c=some u)->Q .non H')
theorem Ke{K:PySem.W.Frag}{H:Hp}{a o C dx:Addr}{fs:List (N_×V)}{xs:List V}{u:HO}(h:aI K H a xs)(F:H o=some (.ins C dx fs)):aI K (upd H o u) a xs:=by
 rcases h with(h|⟨o',h⟩)|h
 ·exact .inl (.inl (by rw[aj (b8 h F (by intro z;cases z))];exact h))
 ·exact .inl (.inr ⟨o',by rw[aj (b8 h F (by intro z;cases z))];exact h⟩)
 ·exact .inr h
theorem kG{H:Hp}{o C dx:Addr}{fs fs':List (N_×V)}{R:Hp->Prop}{K:PySem.W.Frag}{a:Addr}{xs:List V}{z:Hp}(F:H o=some (.ins C dx fs))(ha:aI K H a xs)(I:∀c u,z c=some u->c≠o->H c=some u)(q:∀H',H' o=some (.ins C dx fs')->aI K H' a xs->(∀c u,z c=some u->c≠o->H' c=some u)->R H'):R (upd H o (.ins C dx fs')):=
 q _ ac (Ke ha F) fun c u e n=>by rw[aj n];exact I c u e n
theorem Am(T:Txt K mg A):oK P w K mg base 1 A.Product ["self","number","words"] (Al K A):=by
 have S:ax ["self","number","words","is_flat"] ["self","number","words"] (ap iL):=axo
 have nd:=S.nd;refine mr T.K9 S (fun f b4 Ar outer s H vs Q E hr h=>?_)
 ·obtain⟨o,dx,a,k,bs,I,rfl,z,ha,M,kk⟩:=h
  refine⟨_,(ae (aM nd 3 (jH fB (ba ay (pv 2) ao) de))
   (ae (fo (pv 0) (pv 1))
   (ae (fo (pv 0) (c9 b7 (by rfl) T.Kw (by rfl) (ab (ba ay (pv 2) ao) ag)))
   (ae (fo (pv 0) (fh (dD (pv 3)) fk (c9 b7 (by rfl) T.Kw (by rfl) (ab (ba ay (pv 2) ao) ag))))
   (ae (fo (pv 0) (fh (dD (pv 3)) (c9 b7 (by rfl) T.Kw (by rfl) (ab (ba ay (pv 2) ao) ag)) fk))
   (ae (fo (pv 0) (ba ay (pv 2) ao))
   (ae (fo (pv 0) (c9 b7 (by rfl) T.Kw (by rfl) (ab (ba ay (pv 2) ao) ag)))
   (ae (fo (pv 0) (c9 b7 (by rfl) T.Kw (by rfl) (ab (ba ay (pv 2) ao) ag)))
   (ae (fo (pv 0) (c9 b7 (by rfl) T.Kw (by rfl) (ab (ba ay (pv 2) ao) ag)))
   (ae (fo (pv 0) (jH (wu hr.units) (fC gn (pv 2) (dO ao) (dO ao)) (aH (ab de ag))))
   (ak (fo (pv 0) (fh (hG BG de (fC gn (pv 2) (dO ao) (dO (kj gU ao))) rfl) (ba ay (pv 2) (kj gU ao)) de))))))))))))),?_⟩
  exists 0,3,1;obtain⟨h8,n2,n3,n5,n6,n7⟩:=jI M.form;have pf:=M.flat;have pd:=M.days;have p1:=M.first;have pc:=M.card;have as:=M.wok;have c2:(aP bs).cents=FM.valN (I.getD 2 []):=by rw[M.eq,dX];rfl
  have c5:(aP bs).from_=FM.valN (I.getD 5 []):=by rw[M.eq,dX];rfl
  have c6:(aP bs).to_=FM.valN (I.getD 6 []):=by rw[M.eq,dX];rfl
  have c7:(aP bs).most=FM.valN (I.getD 7 []):=by rw[M.eq,dX];rfl
  left;refine kJ 0 ha () ?_;left;rw[wW "flat",j5];refine e_ T.Ku T.LA z (NX 0) (by decide) fun l1=>kG z ha (fun c u e n=>e) fun H1 z ha F=>?_;left;refine kJ 2 ha () ?_;left;refine fQ n2 ?_;left;refine e_ T.Ku T.LB z l1 (by decide) fun l2=>kG z ha F fun H2 z ha F=>?_;left;by_cases O:I.getD 0 []=FM.cd "flat"
  case' pos=>
   rw[if_pos O] at pf;rw[decide_eq_true O];left;refine e_ T.Ku T.K7 z l2 (by decide) fun l3=>kG z ha F fun H3 z ha F=>?_;left;refine kJ 3 ha () ?_;left;refine fQ n3 ?_;left;have em:V.non=vD (aP bs).holds:=by rw[pf];rfl
   have et:V.int (FM.valN (I.getD 3 []))=vE (aP bs).holds:=by rw[pf];rfl
   rw[em] at z l3;rw[et];refine e_ T.Ku T.K8 z l3 (by decide) fun l4=>kG z ha F fun H4 z ha F=>?_
  case' neg=>
   rw[if_neg O] at pf;rw[decide_eq_false O];left;refine kJ 3 ha () ?_;left;refine fQ n3 ?_;left;have em:V.int (FM.valN (I.getD 3 []))=vD (aP bs).holds:=by rw[pf];rfl
   have et:V.non=vE (aP bs).holds:=by rw[pf];rfl
   rw[em];refine e_ T.Ku T.K7 z l2 (by decide) fun l3=>kG z ha F fun H3 z ha F=>?_;left;refine e_ T.Ku T.K8 z l3 (by decide) fun l4=>kG z ha F fun H4 z ha F=>?_;rw[et] at z l4
  all_goals
   left;refine kJ 4 ha () ?_;left;refine e_ T.Ku T.LC z l4 (by decide) fun l5=>kG z ha F fun H5 z ha F=>?_;left;refine kJ 5 ha () ?_;left;refine fQ n5 ?_;left;refine e_ T.Ku T.LD z l5 (by decide) fun l6=>kG z ha F fun H6 z ha F=>?_;left;refine kJ 6 ha () ?_;left;refine fQ n6 ?_;left;refine e_ T.Ku T.LG z l6 (by decide) fun l7=>kG z ha F fun H7 z ha F=>?_;left;refine kJ 7 ha () ?_;left;refine fQ n7 ?_;left;refine e_ T.Ku T.LH z l7 (by decide) fun l8=>kG z ha F fun H8 z ha F=>?_;left;refine mZ ha (wX 8 9 (by decide)) fun b1 f1=>?_;left;refine⟨c_,fun b2 f2=>?_⟩;have av:b1≠b2:=aw ac f2;refine Bk (xs:=(I.drop 8).take 1) (ys:=[FM.cd "first"]) (aI.of (by rw[aj av];exact ac)) (aI.of (by rw[ac,wW];rfl)) ((as.drop 8).take 1) (Ju (by decide+kernel) (by decide+kernel)) ?_;have s9:Same H8 (upd (upd H8 b1 (.lst (((I.drop 8).take (9-8)).map sv))) b2 (.lst [V.str "first"])):=by walk_at "same"
   have an:=s9.seq ha;have Z:=s9 _ _ z;have ar:∀c u,H c=some u->c≠o->(upd (upd H8 b1 (.lst (((I.drop 8).take (9-8)).map sv))) b2 (.lst [V.str "first"])) c=some u:=fun c u e n=>s9 _ _ (F c u e n);generalize upd (upd H8 b1 (.lst (((I.drop 8).take (9-8)).map sv))) b2 (.lst [V.str "first"])=H9 at an Z ar ⊢;left;rw[<-p1];refine e_ T.Ku T.LI Z l8 (by decide) fun l9=>kG Z an ar fun H10 z ha F=>?_;left;refine mZ ha (wY 8) fun b3 f3=>?_;refine⟨b3,_,rfl,.inl (aI.of ac),rfl,CI _,?_⟩
   have ei:(if false=true then !EV (V.str "card") ((I.dropLast.drop 8).map sv) else EV (V.str "card") ((I.dropLast.drop 8).map sv))=decide (FM.cd "card"∈I.dropLast.drop 8):=by
    rw[if_neg N2,wW "card"];exact FS _ _
   rw[ei];have al:=Same.new (o:=.lst ((I.dropLast.drop 8).map sv)) f3;have J:=al.seq ha;have L:=al _ _ z;have Y:∀c u,H c=some u->c≠o->(upd H10 b3 (.lst ((I.dropLast.drop 8).map sv))) c=some u:=fun c u e n=>al _ _ (F c u e n);generalize upd H10 b3 (.lst ((I.dropLast.drop 8).map sv))=H11 at J L Y ⊢;left;refine gz (fun hc=>?_) (fun hc=>?_)
   case' refine_1=>
    rw[if_pos hc] at pc;left;refine Jt J () ?_
   case' refine_2=>
    rw[if_neg hc] at pc;left;rw[nk]
   all_goals
    rw[<-pc];left;refine e_ T.Ku T.LJ L l9 (by decide) fun b5=>kG L J Y fun H12 z ha F=>?_;left;refine kk H12 ⟨dx,_,z,?_,?_,?_,?_,?_,?_,?_,?_,?_,?_⟩ F
    ·repeat (first|exact Fd.same|refine Fd.ne ?_ (by decide+kernel))
    ·rw[c2]
     repeat (first|exact Fd.same|refine Fd.ne ?_ (by decide+kernel))
    ·repeat (first|exact Fd.same|refine Fd.ne ?_ (by decide+kernel))
    ·repeat (first|exact Fd.same|refine Fd.ne ?_ (by decide+kernel))
    ·rw[pd]
     repeat (first|exact Fd.same|refine Fd.ne ?_ (by decide+kernel))
    ·rw[c5]
     repeat (first|exact Fd.same|refine Fd.ne ?_ (by decide+kernel))
    ·rw[c6]
     repeat (first|exact Fd.same|refine Fd.ne ?_ (by decide+kernel))
    ·rw[c7]
     repeat (first|exact Fd.same|refine Fd.ne ?_ (by decide+kernel))
    ·repeat (first|exact Fd.same|refine Fd.ne ?_ (by decide+kernel))
    ·exact Fd.same
abbrev Jy(tb:OB):List V:=tb.map fun c=>nv c.toNat
structure R8 (tb:OB) (Tf:N9):Prop where
 ok:Tb tb=.ok Tf
 nf:(dy (aJ 10 (FM.sg tb))).1=0
 len5:5<=(Pc tb).length
 free:Tf.free=FM.hv ((Pc tb).getD 1 [])
 grace:Tf.grace=FM.hv ((Pc tb).getD 2 [])
 lost:Tf.lost=FM.hv ((Pc tb).getD 3 [])
 prods:Tf.products=((Pc tb).drop 4).map fun b=>aP (PH b)
 few:Tf.products.length<=12
 form:∀b∈(Pc tb).drop 4,be ((PH b).map FM.sg)=true/\dw ((PH b).map FM.sg)=true
 any:Tf.products.any N1.always=true
theorem En{tb:OB}(h:(dy (aJ 10 (FM.sg tb))).1=0):∃Tf,R8 tb Tf:=by
 obtain⟨Tf,h1,h2,z,F,I,J,L,M,O,_⟩:=(wN tb).2 h;exact⟨Tf,h1,h,h2,z,F,I,J,L,M,O⟩
theorem R8.line{tb:OB}{Tf:N9}(h:R8 tb Tf)(i:Nat)(hi:i<(Pc tb).length):(aJ 10 (FM.sg tb)).getD i []=FM.sg ((Pc tb).getD i []):=by
 have e:=eZ tb;have hl:i<(aJ 10 (FM.sg tb)).dropLast.length:=by rw[e,NV];exact hi
 have z:(aJ 10 (FM.sg tb)).getD i []=(aJ 10 (FM.sg tb)).dropLast.getD i []:=by
  have F:i<(aJ 10 (FM.sg tb)).length:=by rw[QW] at hl;lia
  rw[OO,OO,getElem?_dropLast,if_pos (by rw[QW] at hl;exact hl)]
 rw[z,e,dX]
theorem R8.ok_{tb:OB}{Tf:N9}(h:R8 tb Tf):lP Tf:=by
 have bd:∀p∈Tf.products,p.bounded=true:=fun p F=>by
  rw[h.prods] at F;obtain⟨b,hb,rfl⟩:=Oq.mp F;rw[tu];exact(h.form b hb).2
 have M:∀j,1<=j->j<4->FM.hv ((Pc tb).getD j [])<=gK j:=fun j h1 Y=>(vQ h.nf j h1 Y (by have:=h.len5;lia)).2.2;refine⟨⟨bd,?_⟩,fun p F=>⟨bd p F,?_,?_⟩,h.few,?_,?_,?_⟩
 ·obtain⟨p,F,ha⟩:=SH.mp h.any;exact⟨p,F,ha⟩
 ·rw[h.prods] at F;obtain⟨b,hb,rfl⟩:=Oq.mp F;have:=(h.form b hb).1;rw[e9] at this;simp only[NW] at this;have hd:=this.1.2;rw[dX] at hd;unfold gp at hd;simp only[NW,decide_eq_true_eq] at hd;show((PH b).getD 4 [] |>.map fun c=>decide (c=49)).length=7;rw[NV,<-gx];exact hd.1
 ·rw[h.prods] at F;obtain⟨b,hb,rfl⟩:=Oq.mp F;intro q;have O:=(h.form b hb).1;rw[e9] at O;simp only[NW] at O;have he:=O.2;rw[<-Rk] at he;have S:(if 2<=((PH b).drop 8).length then some (((PH b).drop 8).getLastD []) else none)=some ([]:OB):=q;split at S
  ·rename_i hl;have L:=N6.inj S
   have last:∀x,(((PH b).drop 8).map FM.sg).getLast?=some x->x=[]:=fun x I=>by
    rw[QK] at I;rw[PN] at L;cases z:((PH b).drop 8).getLast? with
    |none=>rw[z] at I;cases I
    |some y=>
     rw[z] at I L;have L:y=[]:=L;rw[L] at I;exact(N6.inj I).symm
   have J:2<=(((PH b).drop 8).map FM.sg).length:=by rw[NV];exact hl
   rcases oI he with z|z|⟨x,z,I⟩|⟨x,z,I⟩
   ·rw[z] at J;simp at J
   ·rw[z] at J;simp at J
   ·exact(lJ I).2 (last x (by rw[z];rfl))
   ·exact(lJ I).2 (last x (by rw[z];rfl))
  ·cases S
 ·rw[h.free];exact M 1 (by decide) (by decide)
 ·rw[h.grace];exact M 2 (by decide) (by decide)
 ·rw[h.lost];exact M 3 (by decide) (by decide)
inductive CJ(K:PySem.W.Frag)(A:cX)(vs:List V)(H:Hp)(Q:VK)(E:XK):Prop|mk(q dx t F:Addr)(tb:OB)(Tf:N9)(_:vs=[.ref q,.ref t,.ref F])(_:H q=some (.ins A.Tariff dx []))(_:H t=some (.lst (Jy tb)))(_:H F=some (.lst ((aJ 10 (FM.sg tb)).map sv)))(_:R8 tb Tf)(_:tb.length<=5000)(_:∀(H':Hp)(l:Addr)(zs:List Pz),H l=none->(∀z∈zs,H z.2=none)->ai A H' q Tf t l zs->(∀c u,H c=some u->c≠q->H' c=some u)->Q .non H')
theorem Eo{tb:OB}(h:tb.length<=5000):(FM.sg tb).length<=100000/\(FM.sg tb).all fT=true:=by
 refine⟨by rw[gx];lia,?_⟩;unfold FM.sg;rw[SX];exact OM.mpr fun c _=>tI _
theorem xc{H:Hp}{o C dx:Addr}{fs fs':List (N_×V)}{R:Hp->Prop}{a b:Addr}{xs ys:List V}{F:Hp}(I:H o=some (.ins C dx fs))(ha:H a=some (.lst xs))(hb:H b=some (.lst ys))(J:∀c u,F c=some u->c≠o->H c=some u)(L:∀c,H c=none->F c=none)(q:∀H',H' o=some (.ins C dx fs')->H' a=some (.lst xs)->H' b=some (.lst ys)->(∀c u,F c=some u->c≠o->H' c=some u)->(∀c,H' c=none->F c=none)->R H'):R (upd H o (.ins C dx fs')):=by
 refine q _ ac (by rw[aj (b8 ha I (by intro z;cases z))];exact ha) (by rw[aj (b8 hb I (by intro z;cases z))];exact hb) (fun c u e n=>by rw[aj n];exact J c u e n) (fun c e=>?_);by_cases z:c=o
 ·rw[z,ac] at e;cases e
 ·rw[aj z] at e;exact L c e
theorem CK(T:Txt K mg A):oK P w K mg base 3 A.Tariff ["self","text","lines"] (CJ K A):=by
 have S:ax ["self","text","lines","number","line"] ["self","text","lines"] (ap i_):=axo
 have nd:=S.nd;refine mr T.K_ S (fun f c6 Ar outer s H vs Q E hr h=>?_)
 ·obtain⟨q,dx,t,ll,tb,Tf,rfl,J,O,hl,L,bk,kk⟩:=h
  refine⟨_,(ae (fo (pv 0) (pv 1))
   (ae (fo (pv 0) (c9 b7 (by rfl) T.Kw (by rfl) (ab (ba ay (iG (ba ay (pv 2) ao) de) ao) ag)))
   (ae (fo (pv 0) (c9 b7 (by rfl) T.Kw (by rfl) (ab (ba ay (iG (ba ay (pv 2) ao) de) ao) ag)))
   (ae (fo (pv 0) (c9 b7 (by rfl) T.Kw (by rfl) (ab (ba ay (iG (ba ay (pv 2) ao) de) ao) ag)))
   (ak (fo (pv 0) (iE rfl nd (AR (by rfl) T.Ls (ab (fC gn (pv 2) (dO ao) (dO (kj gU ao))) ag)) (dn (own:=[("number",3),("line",4)]) rfl) (fun _ _ _ _ _=>(by exact(jc (K:=K) (n:=2) rfl rfl (cg (eU nd 3) (cg (eU nd 4) gm))))) (fun _ _ _ _ _=>(by exact fA)) (fun _ _ _ _ _=>(by exact(j7 (Am T) T.MA hr (ab (pv 3) (ab (iG (pv 4) de) ag)))))))))))),?_⟩
  exists 0,3,2;have wk:=Eo bk;have bo:=J;have wl:=lR (c:=10) wk.1 wk.2;have l5:=L.len5;have c7:(aJ 10 (FM.sg tb)).length-1=(Pc tb).length:=vN tb
  have F:∀j,1<=j->j<4->(aJ 32 ((aJ 10 (FM.sg tb)).getD j [])).length=2/\aY ((aJ 32 ((aJ 10 (FM.sg tb)).getD j [])).getD 1 [])=true/\FM.valN ((aJ 32 ((aJ 10 (FM.sg tb)).getD j [])).getD 1 [])=FM.hv ((Pc tb).getD j []):=fun j h1 h4=>by
   have h:=vQ L.nf j h1 h4 ();rw[L.line j (),iP];exact⟨h.1,h.2.1,rfl⟩
  left;refine e_ T.KB T.LK J (NX 0) (by decide) fun l1=>xc J O hl (fun c u e n=>e) (fun c e=>e) fun H1 J O hl hf hn=>?_;left;refine kJ 1 (aI.of hl) () ?_;left;refine jJ (wl.at_ 1).1 fun b1 Y=>?_;left;refine kJ 1 (aI.of ac) (by rw[(F 1 (by decide) (by decide)).1];decide) ?_;left;refine fQ (F 1 (by decide) (by decide)).2.1 ?_;rw[(F 1 (by decide) (by decide)).2.2,<-L.free];have I:=Same.new (o:=.lst ((aJ 32 ((aJ 10 (FM.sg tb)).getD 1 [])).map sv)) Y;left;refine e_ T.KB T.LL (I _ _ J) l1 (by decide) fun l2=>xc (I _ _ J) (I _ _ O) (I _ _ hl) (fun c u e n=>I _ _ (hf c u e n)) (fun c e=>hn c (I.free e)) fun H2 J O hl hf hn=>?_;clear I Y;left;refine kJ 2 (aI.of hl) () ?_;left;refine jJ (wl.at_ 2).1 fun b1 Y=>?_;left;refine kJ 1 (aI.of ac) (by rw[(F 2 (by decide) (by decide)).1];decide) ?_;left;refine fQ (F 2 (by decide) (by decide)).2.1 ?_;rw[(F 2 (by decide) (by decide)).2.2,<-L.grace];have I:=Same.new (o:=.lst ((aJ 32 ((aJ 10 (FM.sg tb)).getD 2 [])).map sv)) Y;left;refine e_ T.KB T.LM (I _ _ J) l2 (by decide) fun l3=>xc (I _ _ J) (I _ _ O) (I _ _ hl) (fun c u e n=>I _ _ (hf c u e n)) (fun c e=>hn c (I.free e)) fun H3 J O hl hf hn=>?_;clear I Y;left;refine kJ 3 (aI.of hl) () ?_;left;refine jJ (wl.at_ 3).1 fun b1 Y=>?_;left;refine kJ 1 (aI.of ac) (by rw[(F 3 (by decide) (by decide)).1];decide) ?_;left;refine fQ (F 3 (by decide) (by decide)).2.1 ?_;rw[(F 3 (by decide) (by decide)).2.2,<-L.lost];have I:=Same.new (o:=.lst ((aJ 32 ((aJ 10 (FM.sg tb)).getD 3 [])).map sv)) Y;left;refine e_ T.KB T.LN (I _ _ J) l3 (by decide) fun l4=>xc (I _ _ J) (I _ _ O) (I _ _ hl) (fun c u e n=>I _ _ (hf c u e n)) (fun c e=>hn c (I.free e)) fun H4 J O hl hf hn=>?_;clear I Y;left;refine mZ (aI.of hl) (wY 4) fun b1 Y=>?_;have I:=Same.new (o:=.lst (((aJ 10 (FM.sg tb)).dropLast.drop 4).map sv)) Y;have Z:=ac (H:=H4) (a:=b1) (o:=.lst (((aJ 10 (FM.sg tb)).dropLast.drop 4).map sv));generalize upd H4 b1 (.lst (((aJ 10 (FM.sg tb)).dropLast.drop 4).map sv))=H5 at I Z ⊢;have bq:(aJ 10 (FM.sg tb)).dropLast.drop 4=((Pc tb).drop 4).map FM.sg:=by rw[eZ,Rk]
  rw[bq] at Z;have bs:Tf.products.length=((Pc tb).drop 4).length:=by rw[L.prods,NV]
  left;refine⟨b1,_,rfl,aI.of Z,?_⟩;have rn:=vU (K:=K) (aI.of Z);rw[NV,NV,<-bs,<-QT (i:=0)] at rn;refine Gs (l:=Tf.products.zipIdx) rn (by rw[QT];have:=L.few;lia) (fun _=>true) (fun _ x v H'=>∃o,v=.ref o/\aa A H' o x.2 x.1/\H o=none) ?_ ?_ ?_ ?_
  ·rintro P x v H6 H7 _ ⟨o,rfl,q1,q2⟩ s;exact⟨o,rfl,q1.keep s,q2⟩
  ·rintro P x v H6 acc c5 _ ⟨o,rfl,q1,q2⟩ hP;exact⟨o,rfl,q1.upL hP,q2⟩
  ·intro P i x X H6 acc hx s6 hP c8 hX R R' k1 k2;obtain⟨tt,u,rfl,c0,hu⟩:=hX;rw[Su] at hx;obtain⟨pr,b3,rfl⟩:=Oc.mp hx;rw[L.prods,NZ] at b3;obtain⟨b,hb,rfl⟩:=Oc.mp b3;rw[NZ,NZ,hb] at hu;cases hu;have b4:=Oe hb
   have an:(FM.sg b).length<=100000/\(FM.sg b).all fT=true:=by
    refine wl (FM.sg b) ?_;have:FM.sg b∈(aJ 10 (FM.sg tb)).dropLast:=by rw[eZ];exact Oq.mpr ⟨b,Sw b4,rfl⟩
    exact(Uk _).subset this
   dsimp only[bV,OX,Pl];refine qV (gI.of c0) rfl ?_;left;refine⟨rfl,?_⟩;left;refine jJ an.1 fun b2 f2=>?_;left;intro x al nx ar c1;have as:=Same.new (o:=.lst ((aJ 32 (FM.sg b)).map sv)) f2;have ca:Same H6 (upd (upd (upd H6 b2 (.lst ((aJ 32 (FM.sg b)).map sv))) al (.own x)) x (.ins A.Product al [])):=(as.updN ar).updN (by rw[aj c1.symm];exact nx);have c2:b2≠x:=aw ac nx;have c3:b2≠al:=aw ac ar;rw[RE] at k1;refine⟨x,al,b2,i,PH b,aJ 32 (FM.sg b),rfl,ac,aI.of (by rw[aj c2,aj c3];exact ac),⟨iP b,by rw[iP];exact(L.form b b4).1,lR an.1 an.2⟩,fun H7 c4 fm=>⟨rfl,?_⟩⟩;refine k1 _ H7 rfl (as.trans (Same.made nx ar fm)) ⟨x,rfl,c4,?_⟩;exact hn x (I.free (s6.free (as.free nx)))
  ·intro P H6 zs hP s6 b5 b6 av;rw[OR.mpr (fun _ _=>rfl)] at b6;have M:=I.trans s6;left;refine e_ T.KB T.LO (M _ _ J) l4 (by decide) fun l6=>?_;left;have bd:=M _ _ J;refine kk _ P (zs.map fun z=>(z.1,(match z.2 with|.ref o=>o|_=>0))) (hn _ (I.free hP)) ?_ ⟨⟨dx,_,ac,?_,?_,?_,?_,?_⟩,?_,?_,?_,?_⟩ ?_
   ·intro z hz;obtain⟨y,hy,rfl⟩:=Oq.mp hz;obtain⟨o,ev,_,q2⟩:=av y hy;show H (match y.2 with|.ref o=>o|_=>0)=none;rw[ev];exact q2
   ·repeat (first|exact Fd.same|refine Fd.ne ?_ (by decide+kernel))
   ·repeat (first|exact Fd.same|refine Fd.ne ?_ (by decide+kernel))
   ·repeat (first|exact Fd.same|refine Fd.ne ?_ (by decide+kernel))
   ·repeat (first|exact Fd.same|refine Fd.ne ?_ (by decide+kernel))
   ·exact Fd.same
   ·rw[aj (b8 (M _ _ O) bd (by intro z;cases z)),vP L.ok];exact M _ _ O
   ·rw[aj (b8 b5 bd (by intro z;cases z)),b5,On];congr 2;apply Om;intro z hz;obtain⟨o,ev,_⟩:=av z hz;show z.2=V.ref (match z.2 with|.ref o=>o|_=>0);rw[ev]
   ·rw[On];exact b6
   ·intro z hz;obtain⟨y,hy,rfl⟩:=Oq.mp hz;obtain⟨o,ev,q1,q2⟩:=av y hy;show aa A _ (match y.2 with|.ref o=>o|_=>0) y.1.2 y.1.1;rw[ev];refine q1.up fun z=>?_;have z:o=q:=z;rw[z,bo] at q2;cases q2
   ·intro c u e n;rw[aj n];exact M _ _ (hf c u e n)
end
theorem dU{f:N_}{u v:V}:∀{fs:List (N_×V)},Fd fs f u->(bf f v fs).length=fs.length
 |[],h=>by cases h
 |(g,x)::fs,h=>by
  unfold bf;by_cases q:g=f
  ·rw[if_pos q];rfl
  ·rw[if_neg q]
   have h':Fd fs f u:=by
    have e:OV f ((g,x)::fs)=OV f fs:=by
     rw[Qs]
     have:(f==g)=false:=by
      apply Pf.mpr;intro z;exact q (eq_of_beq z).symm
     rw[this]
    exact e.symm.trans h
   rw[Ol,Ol,dU h']
structure aq (A:cX) (H:Hp) (c:Addr) (s:Season):Prop where
 ins:∃dx fs,H c=some (.ins A.Card dx fs)/\Fd fs "first_day" (nv s.first)/\Fd fs "last_day" (nv s.last)/\Fd fs "name" (.str (St (s.kind.map UInt8.toNat)))
abbrev vp(l:List Voucher):List (Nat×Nat):=l.map fun v=>(v.kind,v.n)
structure gH (fs:List (N_×V)) (t:OF) (vl:Addr) (gone:Bool):Prop where
 len:fs.length<=9
 cls:Fd fs "car_class" (nv t.who.cls)
 card:Fd fs "card" (uJ t.season)
 by_:Fd fs "parks_by" (.str (St (dC t.who.card)))
 min:Fd fs "minute" (nv t.from_)
 vou:Fd fs "vouchers" (.ref vl)
 paid:Fd fs "paid" (nv t.paid)
 last:Fd fs "paid_at" (uJ t.last)
 lost:Fd fs "is_lost" (.bl t.lost)
 gone:Fd fs "is_gone" (.bl gone)
structure af (A:cX) (H:Hp) (p:Addr) (t:OF) (vl:Addr) (gone:Bool):Prop where
 ins:∃dx fs,H p=some (.ins A.Ticket dx fs)/\gH fs t vl gone
 vou:aT H vl (vp t.vouchers)
section
variable{K:PySem.W.Frag}{mg:N_->Option NU}{A:cX}{H H':Hp}{p vl:Addr}{s:Season}{t:OF}{gone:Bool}{Q:VK}
theorem aq.keep(h:aq A H p s)(z:Same H H'):aq A H' p s:=by
 obtain⟨dx,fs,h1,h2⟩:=h;exact⟨dx,fs,z _ _ h1,h2⟩
theorem aq.i_first(T:Txt K mg A)(h:aq A H p s)(q:Q (nv s.first) H):dJ K "first_day" (.ref p) H Q:=by
 obtain⟨dx,fs,h1,h2,_⟩:=h;exact Tu h1 T.KH T.LP h2 q
theorem aq.i_last(T:Txt K mg A)(h:aq A H p s)(q:Q (nv s.last) H):dJ K "last_day" (.ref p) H Q:=by
 obtain⟨dx,fs,h1,_,h2,_⟩:=h;exact Tu h1 T.KH T.LQ h2 q
theorem aq.i_name(T:Txt K mg A)(h:aq A H p s)(q:Q (.str (St (s.kind.map UInt8.toNat))) H):dJ K "name" (.ref p) H Q:=by
 obtain⟨dx,fs,h1,_,_,h2⟩:=h;exact Tu h1 T.KH T.LR h2 q
theorem af.keep(h:af A H p t vl gone)(z:Same H H'):af A H' p t vl gone:=by
 obtain⟨⟨dx,fs,h1,h2⟩,F⟩:=h;exact⟨⟨dx,fs,z _ _ h1,h2⟩,F.keep z⟩
theorem af.i_class(T:Txt K mg A)(h:af A H p t vl gone)(q:Q (nv t.who.cls) H):dJ K "car_class" (.ref p) H Q:=by
 obtain⟨⟨dx,fs,h1,h2⟩,_⟩:=h;exact Tu h1 T.Kt T.LS h2.cls q
theorem af.i_card(T:Txt K mg A)(h:af A H p t vl gone)(q:Q (uJ t.season) H):dJ K "card" (.ref p) H Q:=by
 obtain⟨⟨dx,fs,h1,h2⟩,_⟩:=h;exact Tu h1 T.Kt T.LU h2.card q
theorem af.i_by(T:Txt K mg A)(h:af A H p t vl gone)(q:Q (.str (St (dC t.who.card))) H):dJ K "parks_by" (.ref p) H Q:=by
 obtain⟨⟨dx,fs,h1,h2⟩,_⟩:=h;exact Tu h1 T.Kt T.LV h2.by_ q
theorem af.i_minute(T:Txt K mg A)(h:af A H p t vl gone)(q:Q (nv t.from_) H):dJ K "minute" (.ref p) H Q:=by
 obtain⟨⟨dx,fs,h1,h2⟩,_⟩:=h;exact Tu h1 T.Kt T.LW h2.min q
theorem af.i_vouchers(T:Txt K mg A)(h:af A H p t vl gone)(q:Q (.ref vl) H):dJ K "vouchers" (.ref p) H Q:=by
 obtain⟨⟨dx,fs,h1,h2⟩,_⟩:=h;exact Tu h1 T.Kt T.Lb h2.vou q
theorem af.i_paid(T:Txt K mg A)(h:af A H p t vl gone)(q:Q (nv t.paid) H):dJ K "paid" (.ref p) H Q:=by
 obtain⟨⟨dx,fs,h1,h2⟩,_⟩:=h;exact Tu h1 T.Kt T.Lc h2.paid q
theorem af.i_last(T:Txt K mg A)(h:af A H p t vl gone)(q:Q (uJ t.last) H):dJ K "paid_at" (.ref p) H Q:=by
 obtain⟨⟨dx,fs,h1,h2⟩,_⟩:=h;exact Tu h1 T.Kt T.KR h2.last q
theorem af.i_lost(T:Txt K mg A)(h:af A H p t vl gone)(q:Q (.bl t.lost) H):dJ K "is_lost" (.ref p) H Q:=by
 obtain⟨⟨dx,fs,h1,h2⟩,_⟩:=h;exact Tu h1 T.Kt T.Ld h2.lost q
theorem af.i_gone(T:Txt K mg A)(h:af A H p t vl gone)(q:Q (.bl gone) H):dJ K "is_gone" (.ref p) H Q:=by
 obtain⟨⟨dx,fs,h1,h2⟩,_⟩:=h;exact Tu h1 T.Kt T.Le h2.gone q
end
theorem jK(m:Nat):uJ (some m)=nv m:=rfl
theorem pY:uJ none=V.non:=rfl
theorem Kn{v:Voucher}(h:v.ok=true):v.kind<=2/\1<=v.n/\v.n<=99999/\(v.kind=1->v.n<=100)/\(v.kind=0->v.n<=1440):=by
 unfold Voucher.ok Rl UZ at h;rw[NW] at h;obtain⟨h1,h2⟩:=h;have h1:=of_decide_eq_true h1;split at h2
 ·rename_i k;have:=of_decide_eq_true h2;lia
 ·split at h2
  ·have:=of_decide_eq_true h2;lia
  ·rw[NW] at h2;have e:=eq_of_beq h2.1;have:=of_decide_eq_true h2.2;lia
local macro_rules|`(tactic|walk_at $s:str)=>do
 let t ←match s.getString with|"at"=>pure "a? Fare.aq.keep;s same|a? Fare.af.keep;s same"|"x"=>pure "? Fare.dz|? Fare.cV;at? Fare.aq.i_first Fare.aq.i_last Fare.aq.i_name Fare.af.i_class Fare.af.i_card Fare.af.i_by Fare.af.i_minute Fare.af.i_vouchers Fare.af.i_paid Fare.af.i_last Fare.af.i_lost Fare.af.i_gone"|_=>Lean.Macro.throwUnsupported
 `(tactic|fail $(Lean.Syntax.mkStrLit ("~"++t)))
section
variable{P:N3}{w:Oh}{K:PySem.W.Frag}{mg:N_->Option NU}{base:Heap}{A:cX}
inductive FT(A:cX)(vs:List V)(H:Hp)(Q:VK)(E:XK):Prop|mk(o dx:Addr)(s:Season)(_:vs=[.ref o,nv s.first,nv s.last,.str (St (s.kind.map UInt8.toNat))])(_:H o=some (.ins A.Card dx []))(_:∀(H':Hp),aq A H' o s->(∀c u,H c=some u->c≠o->H' c=some u)->Q .non H')
theorem FU(T:Txt K mg A):oK P w K mg base 1 A.Card ["self","first_day","last_day","name"] (FT A):=by
 have S:ax ["self","first_day","last_day","name"] ["self","first_day","last_day","name"] (ap kx):=axo
 have nd:=S.nd;refine mr T.La S (fun f z M outer s H vs Q E O h=>?_)
 ·obtain⟨o,dx,s,rfl,F,I⟩:=h
  refine⟨_,(ae (fo (pv 0) (pv 1))
   (ae (fo (pv 0) (pv 2))
   (ak (fo (pv 0) (pv 3))))),?_⟩
  exists 0,4,0;left;refine e_ T.KH T.LP F (NX 0) (by decide) fun J=>?_;left;refine e_ T.KH T.LQ ac J (by decide) fun L=>?_;left;refine e_ T.KH T.LR ac L (by decide) fun Y=>?_;left;refine I _ ⟨dx,_,ac,?_,?_,?_⟩ fun c u e n=>by rw[aj n,aj n,aj n];exact e
  ·repeat (first|exact Fd.same|refine Fd.ne ?_ (by decide+kernel))
  ·repeat (first|exact Fd.same|refine Fd.ne ?_ (by decide+kernel))
  ·exact Fd.same
inductive CL(A:cX)(vs:List V)(H:Hp)(Q:VK)(E:XK):Prop|mk(o dx:Addr)(who:Ob)(season:Option Nat)(m:Nat)(_:vs=[.ref o,nv who.cls,uJ season,.str (St (dC who.card)),nv m])(_:H o=some (.ins A.Ticket dx []))(_:∀(H':Hp)(vl:Addr),H vl=none->af A H' o ⟨who,season,m,[],0,none,false⟩ vl false->(∀c u,H c=some u->c≠o->H' c=some u)->Q .non H')
theorem CM(T:Txt K mg A):oK P w K mg base 1 A.Ticket ["self","car_class","card","parks_by","minute"] (CL A):=by
 have S:ax ["self","car_class","card","parks_by","minute"] ["self","car_class","card","parks_by","minute"] (ap ja):=axo
 have nd:=S.nd;refine mr T.KM S (fun f L Ar outer s H vs Q E hr h=>?_)
 ·obtain⟨o,dx,who,season,m,rfl,M,O⟩:=h
  refine⟨_,(ae (fo (pv 0) (pv 1))
   (ae (fo (pv 0) (pv 2))
   (ae (fo (pv 0) (pv 3))
   (ae (fo (pv 0) (pv 4))
   (ae (fo (pv 0) (aH ag))
   (ae (fo (pv 0) ao)
   (ae (fo (pv 0) fk)
   (ae (fo (pv 0) qh)
   (ak (fo (pv 0) qh)))))))))),?_⟩
  exists 0,5,0;left;refine e_ T.Kt T.LS M (NX 0) (by decide) fun Y=>?_;left;refine e_ T.Kt T.LU ac Y (by decide) fun Z=>?_;left;refine e_ T.Kt T.LV ac Z (by decide) fun l3=>?_;left;refine e_ T.Kt T.LW ac l3 (by decide) fun l4=>?_;left;refine⟨gG,fun vl hv=>?_⟩;have F:o≠vl:=aw ac hv
  have I:H vl=none:=by
   rw[aj (fun z=>F z.symm),aj (fun z=>F z.symm),aj (fun z=>F z.symm),aj (fun z=>F z.symm)] at hv;exact hv
  left;refine e_ T.Kt T.Lb (by rw[aj F];exact ac) l4 (by decide) fun l5=>?_;left;refine e_ T.Kt T.Lc ac l5 (by decide) fun l6=>?_;left;refine e_ T.Kt T.KR ac l6 (by decide) fun l7=>?_;left;refine e_ T.Kt T.Ld ac l7 (by decide) fun l8=>?_;left;refine e_ T.Kt T.Le ac l8 (by decide) fun l9=>?_;left;refine O _ vl I ⟨⟨dx,_,ac,l9,?_,?_,?_,?_,?_,?_,?_,?_,?_⟩,aT.nil ?_⟩ fun c u e n=>?_
  ·repeat (first|exact Fd.same|refine Fd.ne ?_ (by decide+kernel))
  ·repeat (first|exact Fd.same|refine Fd.ne ?_ (by decide+kernel))
  ·repeat (first|exact Fd.same|refine Fd.ne ?_ (by decide+kernel))
  ·repeat (first|exact Fd.same|refine Fd.ne ?_ (by decide+kernel))
  ·repeat (first|exact Fd.same|refine Fd.ne ?_ (by decide+kernel))
  ·repeat (first|exact Fd.same|refine Fd.ne ?_ (by decide+kernel))
  ·repeat (first|exact Fd.same|refine Fd.ne ?_ (by decide+kernel))
  ·repeat (first|exact Fd.same|refine Fd.ne ?_ (by decide+kernel))
  ·exact Fd.same
  ·rw[aj (fun z=>F z.symm),aj (fun z=>F z.symm),aj (fun z=>F z.symm),aj (fun z=>F z.symm),aj (fun z=>F z.symm)];exact ac
  ·have J:c≠vl:=aw e I;rw[aj n,aj n,aj n,aj n,aj n,aj J,aj n,aj n,aj n,aj n];exact e
inductive re(A:cX)(vs:List V)(H:Hp)(Q:VK)(E:XK):Prop|mk(c:Addr)(s:Season)(m:Nat)(_:vs=[.ref c,nv m])(_:aq A H c s)(_:Q (.str (St (dC (if s.first<=m/1440/\m/1440<=s.last then some s.kind else none)))) H)
theorem rf(T:Txt K mg A):fK P w K mg base 1 "kind_by_card" ["card","minute"] (re A):=by
 have S:ax ["card","minute"] ["card","minute"] (ap k9):=axo
 have nd:=S.nd;refine aN T.Nb S (fun f J L outer s H vs Q E M h=>?_)
 ·obtain⟨c,I,m,rfl,O,F⟩:=h;refine⟨_,(ak (au (fh (kQ fi fi (aA (pv 0)) (aD jN (pv 1) (aE T.Kx)) (aA (pv 0))) (aA (pv 0)) de))),?_⟩;exists 0,2,0;left;refine bJ (k:=(I.last:Int)) (fun R h=>?_) ?_
  ·left;exact h
  left;refine zb (fun h1=>?_) (fun h1=>?_)
  ·rw[NW,decide_eq_true_eq,decide_eq_true_eq] at h1;rw[if_pos ()] at F;left;exact F
  ·have h2:¬(I.first<=m/1440/\m/1440<=I.last):=fun z=>by
    rw[decide_eq_true (),decide_eq_true ()] at h1;cases h1
   rw[if_neg h2] at F;left;rw[nk];exact F
inductive uM(vs:List V)(H:Hp)(Q:VK)(E:XK):Prop|mk(k n:Nat)(_:vs=[nv k,nv n])(_:Q (.bl (Voucher.ok ⟨k,n⟩)) H)
theorem jg{K:PySem.W.Frag}{xs:List V}{σ:L2.St}{H:Hp}{Q:VK}(h:∀a,(∀H',gI K H' a xs)->Q (.ref a) H):DJ K xs σ H Q:=h
theorem Ii(k n:Nat)(z:k<3):∃b:Nat,[V.int 1440,V.int 100,V.int 99999][k]?=some (nv b)/\Voucher.ok ⟨k,n⟩=(decide ((1:Int)<=n)&&decide ((n:Int)<=b)):=by
 unfold Voucher.ok Rl UZ
 match k,z with
 |0,_=>exact⟨1440,rfl,by rw[show decide (1<=n)=decide ((1:Int)<=n) from decide_eq_decide.mpr ()];simp only[if_true];congr 1;exact decide_eq_decide.mpr ()⟩
 |1,_=>exact⟨100,rfl,by rw[show decide (1<=n)=decide ((1:Int)<=n) from decide_eq_decide.mpr ()];simp;congr 1;exact decide_eq_decide.mpr ()⟩
 |2,_=>exact⟨99999,rfl,by rw[show decide (1<=n)=decide ((1:Int)<=n) from decide_eq_decide.mpr ()];simp;congr 1;exact decide_eq_decide.mpr ()⟩
theorem uN(T:Txt K mg A):fK P w K mg base 1 "is_voucher" ["kind","n"] uM:=by
 have S:ax ["kind","n"] ["kind","n"] (ap oi):=axo
 have nd:=S.nd;refine aN T.Nc S (fun f I L outer s H vs Q E M h=>?_)
 ·obtain⟨k,n,rfl,z⟩:=h;refine⟨_,(ak (au (fZ (jH iX (pv 0) (az aB (by rfl) T.Ks bU (ab (gZ T.Lr) ag))) (gq (kP fi fi ao (pv 1) (ba gX (gZ T.Lr) (pv 0))))))),?_⟩;exists 0,2,0;left;refine jg fun t J=>?_;left;refine tM (J _) ?_;left;refine gz (fun h1=>?_) (fun h1=>?_)
  ·have h1:(k:Int)<3:=h1;obtain⟨b,hb,he⟩:=Ii k n ();rw[he] at z;left;refine bJ (k:=(b:Int)) (fun R h=>?_) ?_
   ·left;refine jg fun O F=>?_;left;exact C1 (j:=k) (v:=nv b) (F _) rfl hb h
   exact z
  ·have h1:¬(k:Int)<3:=h1;refine qq (Q:=Q) z (congrArg V.bl ?_);unfold Voucher.ok;rw[if_neg (by show ¬k=0;lia),if_neg (by show ¬k=1;lia)]
   have:((⟨k,n⟩:Voucher).kind==2)=false:=by
    apply Pf.mpr;intro q;have:=eq_of_beq q;have:k=2:=this;lia
   rw[this,OQ,RN]
inductive uO(A:cX)(vs:List V)(H:Hp)(Q:VK)(E:XK):Prop|mk(q t l p vl:Addr)(T:N9)(zs:List Pz)(tk:OF)(gone:Bool)(a b:Nat)(_:vs=[.ref q,.ref p,nv a,nv b])(_:ai A H q T t l zs)(_:lP T)(_:af A H p tk vl gone)(_:Bi tk.who)(_:a<=b)(_:b<=5000000)(_:∀(H':Hp),Same H H'->Q (nv (Rj T tk.who a b)) H')
theorem m7(T:Txt K mg A):fK P w K mg base 7 "price_from" ["tariff","ticket","minute","now"] (uO A):=by
 have S:ax ["tariff","ticket","minute","now"] ["tariff","ticket","minute","now"] (ap oj):=axo
 have nd:=S.nd;refine aN T.Nd S (fun f L Ar outer s H vs Q E I h=>?_)
 ·obtain⟨q,t,l,p,vl,Tf,zs,tk,gone,a,b,rfl,M,ok,hp,O,z,hb,Y⟩:=h;refine⟨_,(ak (au (aF (qI T) I (ab (pv 0) (ab (j7 (rW T) T.KQ I (ab (pv 2) (ab (pv 3) (ab (aA (pv 1)) (ab (aA (pv 1)) ag))))) ag))))),?_⟩;exists 0,4,0;left;intro x dx nx F Z;refine⟨x,dx,a,b,tk.who.cls,dC tk.who.card,rfl,ac,fun H1 hx fm=>⟨rfl,?_⟩⟩;have J:=Same.made nx F fm;left;exact⟨q,x,t,l,Tf,zs,tk.who,a,b,rfl,M.keep J,ok,hx,O,z,hb,fun H2 s2=>Y H2 (J.trans s2)⟩
theorem Bl{K:PySem.W.Frag}{H:Hp}{Q:VK}{a:Addr}{ns:List Int}(h:aI K H a (ns.map V.int))(q:Q (.int ns.sum) H):IV K [.ref a] H Q:=⟨a,ns,rfl,h,q⟩
theorem oR(l:List Nat):(l.map OW).sum=((l.sum:Nat):Int):=by
 induction l with
 |nil=>rfl
 |cons x l z=>rw[Oo,QR,z,QR,Uy];rfl
theorem aT.zip{H:Hp}{q:Addr}{l:List (Nat×Nat)}(h:aT H q l):∃zs:List ((Nat×Nat)×Addr),zs.map (·.1)=l/\H q=some (.lst (zs.map fun z=>V.ref z.2))/\∀z∈zs,H z.2=some (.tup [nv z.1.1,nv z.1.2]):=by
 obtain⟨F,h1,h2,J⟩:=h;refine⟨l.zip F,Ut (),?_,fun z L=>?_⟩
 ·rw[h1];congr 2;have:(l.zip F).map (fun z=>V.ref z.2)=((l.zip F).map (·.2)).map V.ref:=by rw[On];rfl
  rw[this,Us ()]
 ·obtain⟨j,I⟩:=QM.mp L;rw[O_] at I;exact J j z.2 z.1 I.2 I.1
theorem aT.of_zip{H:Hp}{q:Addr}{zs:List ((Nat×Nat)×Addr)}(h:H q=some (.lst (zs.map fun z=>V.ref z.2)))(ha:∀z∈zs,H z.2=some (.tup [nv z.1.1,nv z.1.2])):aT H q (zs.map (·.1)):=by
 refine⟨zs.map (·.2),by rw[h,On];rfl,by simp,fun i t x F I=>?_⟩;rw[NZ] at F I;cases J:zs[i]? with
 |none=>rw[J] at F;cases F
 |some z=>
  rw[J] at F I;cases F;cases I;exact ha z (Oe J)
structure xf (t:OF):Prop where
 who:Bi t.who
 vou:∀v∈t.vouchers,v.ok=true
 few:t.vouchers.length<=3
theorem xg(l:List Voucher):minutesOf l=(((vp l).filter fun x=>decide (x.1=0)).map (·.2)).sum:=by
 unfold minutesOf vp;rw[mf,RT,On];congr 1
inductive An(A:cX)(vs:List V)(H:Hp)(Q:VK)(E:XK):Prop|mk(q t l p vl:Addr)(T:N9)(zs:List Pz)(tk:OF)(gone:Bool)(now:Nat)(_:vs=[.ref q,.ref p,nv now])(_:ai A H q T t l zs)(_:lP T)(_:af A H p tk vl gone)(_:xf tk)(_:now<=5000000)(_:∀(H':Hp),Same H H'->Q (nv (Qy T tk now)) H')
theorem nJ(T:Txt K mg A):fK P w K mg base 8 "base_of" ["tariff","ticket","now"] (An A):=by
 have S:ax ["tariff","ticket","now","later","kind","n"] ["tariff","ticket","now"] (ap vy):=axo
 have nd:=S.nd;refine aN T.Nf S (fun f Z Ar outer s H vs Q E hr h=>?_)
 ·obtain⟨q,t,l,p,vl,Tf,zs,tk,gone,now,rfl,hT,ok,L,M,hb,O⟩:=h
  refine⟨_,(ae (aM nd 3 (az (wt rfl) (by rfl) T.KP wA (ab (iE rfl nd (dj (aA (pv 1))) (dn (own:=[("kind",4),("n",5)]) rfl) (fun _ _ _ _ _=>(by exact(jc (K:=K) (n:=2) rfl rfl (cg (eU nd 4) (cg (eU nd 5) gm))))) (fun _ _ _ _ _=>(by exact(nY (dA fB (pv 4) (aE T.Lq))))) (fun _ _ _ _ _=>(by exact(pv 5)))) ag)))
   (ak (au (aF (m7 T) hr (ab (pv 0) (ab (pv 1) (ab (az (fU rfl) (by rfl) T.Kz gY (ab (aD b0 (aA (pv 1)) (pv 3)) (ab (pv 2) ag))) (ab (pv 2) ag)))))))),?_⟩
  exists 0,3,3;unfold Qy at O;obtain⟨ys,Y,y2,y3⟩:=L.vou.zip
  have yl:ys.length<=3:=by
   have:=congrArg Os Y;simp at this;have:=M.few;lia
  left;refine D8 (l:=ys) (c:=fun z=>V.ref z.2) (aI.of y2) () (fun z=>decide (z.1.1=0)) (fun z=>nv z.1.2) (fun z H1 hz F R R' k1 k2=>?_) (fun P H1 f1 F h1=>?_)
  ·dsimp only[bV,OX,Pl];refine qV (gI.of (F _ _ (y3 z hz))) rfl ?_;left;refine⟨rfl,?_⟩;left;refine gz (fun h2=>?_) (fun h2=>?_)
   ·left;exact k1 H1 (decide_eq_true ()) (Same.refl _)
   ·exact k2 H1 (decide_eq_false ()) (Same.refl _)
  ·left
   have e1:(ys.filter fun z=>decide (z.1.1=0)).map (fun z=>nv z.1.2)=(((((vp tk.vouchers).filter fun x=>decide (x.1=0)).map (·.2)).map OW).map V.int):=by
    rw[<-Y,RT,On,On,On];rfl
   rw[e1] at h1;refine Bl (aI.of h1) ?_;rw[oR,<-xg];have I:=hT.keep F;have J:=L.keep F;left;have e2:(if (now:Int)<(tk.from_:Int)+(minutesOf tk.vouchers:Int) then(now:Int) else(tk.from_:Int)+(minutesOf tk.vouchers:Int))=((min now (tk.from_+minutesOf tk.vouchers):Nat):Int):=by split<;>lia
   rw[e2];exact⟨q,t,l,p,vl,Tf,zs,tk,gone,_,now,rfl,I,ok,J,M.who,by lia,hb,fun H2 s2=>O H2 (F.trans s2)⟩
def tW(v:Nat×Nat)(x:Nat):Nat:=if v.1=0 then 0 else if v.1=1 then x*v.2/100 else min v.2 x
theorem yS{v:Voucher}(h:v.ok=true)(x:Nat):tW (v.kind,v.n) x<=x/\takes x v=x-tW (v.kind,v.n) x:=by
 have hv:=Kn h;unfold tW takes;by_cases z:v.kind=0
 ·rw[if_pos z,if_neg (),if_neg ()];lia
 ·by_cases h1:v.kind=1
  ·rw[if_neg z,if_pos h1,if_pos h1];have:x*v.n<=x*100:=PR x (hv.2.2.2.1 h1);exact⟨by show x*v.n/100<=x;lia,rfl⟩
  ·rw[if_neg z,if_neg h1,if_neg h1,if_pos ()];show min v.n x<=x/\x-v.n=x-min v.n x;lia
inductive xh(vs:List V)(H:Hp)(Q:VK)(E:XK):Prop|mk(k n x:Nat)(_:vs=[nv k,nv n,nv x])(_:k<=2)(_:n<=99999)(_:Q (nv (tW (k,n) x)) H)
theorem xi(T:Txt K mg A):fK P w K mg base 1 "taken_off" ["kind","n","cents"] xh:=by
 have S:ax ["kind","n","cents"] ["kind","n","cents"] (ap qt):=axo
 have nd:=S.nd;refine aN T.Ng S (fun f F I outer s H vs Q E J h=>?_)
 ·obtain⟨k,n,x,rfl,L,M,z⟩:=h
  refine⟨_,(ae (bc (dA fB (pv 0) (aE T.Lq)) (ak (au ao)) aG)
   (ae (bc (dA fB (pv 0) (aE T.Mu)) (ak (au (aD jN (aD kO (pv 2) (pv 1)) ao))) aG)
   (ak (au (az (fU rfl) (by rfl) T.Kz gY (ab (pv 1) (ab (pv 2) ag))))))),?_⟩
  exists 0,3,0;unfold tW at z;left;refine gz (fun h1=>?_) (fun h1=>?_)
  ·rw[if_pos (by show k=0;lia)] at z;left;exact z
  ·rw[if_neg (by show ¬k=0;lia)] at z;left;refine gz (fun h2=>?_) (fun h2=>?_)
   ·rw[if_pos (by show k=1;lia)] at z;left;refine bY (yG ()) ?_;left;refine qq (Q:=Q) z (congrArg V.int ?_);show((x*n/100:Nat):Int)=(x:Int)*n/100;rw[Sb,Qx];rfl
   ·rw[if_neg (by show ¬k=1;lia)] at z;left;refine qq (Q:=Q) z (congrArg V.int ?_);show((min n x:Nat):Int)=_;split<;>lia
inductive Ao(vs:List V)(H:Hp)(Q:VK)(E:XK):Prop|mk(vl:Addr)(l:List Voucher)(x:Nat)(_:vs=[.ref vl,nv x])(_:aT H vl (vp l))(_:(∀v∈l,v.ok=true))(_:Q (nv (l.foldl takes x)) H)
theorem j_(T:Txt K mg A):fK P w K mg base 2 "left_by" ["vouchers","base"] Ao:=by
 have S:ax ["vouchers","base","left","kind","n"] ["vouchers","base"] (ap vz):=axo
 have nd:=S.nd;refine aN T.Nh S (fun f Z Ar outer s H vs Q E hr h=>?_)
 ·obtain⟨vl,l,x,rfl,hv,hok,kk⟩:=h
  refine⟨_,(ae (aM nd 2 (pv 1))
   (ae (fW OU.never rfl (dj (pv 0)) (sj rfl (cg (eU nd 3) (cg (eU nd 4) gm))) (ak (sn (i:=2) nd rfl (by first|exact Or.inl rfl|exact Or.inr rfl) (aF (xi T) hr (ab (pv 3) (ab (pv 4) (ab (pv 2) ag)))) zf)))
   (ak (au (pv 2))))),?_⟩
  exists 0,2,3;obtain⟨ys,M,y2,y3⟩:=hv.zip;left;refine kE (K:=K) (Hb:=H) (xs:=ys.map fun z=>V.ref z.2) (Same.refl _) (aI.of y2) (fun j σ H'=>∃J L,σ=[some (.ref vl),some (nv x),some (nv ((l.take j).foldl takes x)),J,L]/\H=H') ⟨_,_,rfl,rfl⟩ (fun j σ H' h=>by obtain⟨_,_,_,rfl⟩:=h;exact Same.refl _) ?_ ?_
  ·rintro j X σ H' O ⟨J,L,rfl,rfl⟩;rw[NZ] at O;obtain⟨z,Y,rfl⟩:=Oc.mp O;have hl:(vp l)[j]?=some z.1:=by rw[<-M,NZ,Y];rfl
   rw[NZ] at hl;obtain⟨v,I,ev⟩:=Oc.mp hl;have F:=hok v (Oe I);have vk:=Kn F;have ty:=y3 z (Oe Y);rw[<-ev] at ty;refine qV (gI.of ty) rfl ?_;left;refine yC rfl ?_;left;refine⟨v.kind,v.n,_,rfl,by lia,by lia,?_⟩;left;have tt:=yS F ((l.take j).foldl takes x);refine⟨some (nv v.kind),some (nv v.n),?_,rfl⟩
   have e3:(l.take (j+1)).foldl takes x=takes ((l.take j).foldl takes x) v:=by
    rw[Pg,I,PU];rfl
   rw[e3,tt.2];show[some (V.ref vl),some (nv x),some (V.int _),_,_]=_;rw[show((((l.take j).foldl takes x:Nat):Int)-(tW (v.kind,v.n) ((l.take j).foldl takes x):Int))=(((l.take j).foldl takes x-tW (v.kind,v.n) ((l.take j).foldl takes x):Nat):Int) by lia]
  ·rintro σ H' ⟨J,L,rfl,rfl⟩
   have e:(ys.map fun z=>V.ref z.2).length=l.length:=by
    have:=congrArg Os M;simp at this;simp[this]
   rw[e,Qg];left;exact kk
inductive Ap(A:cX)(vs:List V)(H:Hp)(Q:VK)(E:XK):Prop|mk(q t l p vl:Addr)(T:N9)(zs:List Pz)(tk:OF)(gone:Bool)(now:Nat)(_:vs=[.ref q,.ref p,nv now])(_:ai A H q T t l zs)(_:lP T)(_:af A H p tk vl gone)(_:xf tk)(_:tk.from_<=now)(_:now<=5000000)(_:∀(H':Hp),Same H H'->Q (nv (due T tk now)) H')
theorem tX(T:Txt K mg A):fK P w K mg base 9 "due_for" ["tariff","ticket","now"] (Ap A):=by
 have S:ax ["tariff","ticket","now"] ["tariff","ticket","now"] (ap vA):=axo
 have nd:=S.nd;refine aN T.Nl S (fun f Y Z outer s H vs Q E I h=>?_)
 ·obtain⟨q,t,l,p,vl,Tf,zs,tk,gone,now,rfl,O,ok,J,L,M,hb,z⟩:=h
  refine⟨_,(ae (bc (dD (aA (pv 1))) (ak (au (az (lW rfl) (by rfl) T.KJ sJ (ab (aA (pv 0)) (ab (aF (m7 T) I (ab (pv 0) (ab (pv 1) (ab (aA (pv 1)) (ab (pv 2) ag))))) ag))))) aG)
   (ak (au (aF (j_ T) I (ab (aA (pv 1)) (ab (aF (nJ T) I (ab (pv 0) (ab (pv 1) (ab (pv 2) ag)))) ag)))))),?_⟩
  exists 0,3,0;unfold due at z;left;refine zb (fun h1=>?_) (fun h1=>?_)
  ·rw[if_pos h1] at z;left;refine⟨q,t,l,p,vl,Tf,zs,tk,gone,tk.from_,now,rfl,O,ok,J,L.who,M,hb,fun H1 F=>?_⟩;left;refine qq (Q:=fun v _=>Q v H1) (H:=H1) (z H1 F) (congrArg V.int ?_);split<;>lia
  ·rw[if_neg (by rw[h1];exact N2)] at z;left;refine⟨q,t,l,p,vl,Tf,zs,tk,gone,now,rfl,O,ok,J,L,hb,fun H1 F=>?_⟩;left;exact⟨vl,tk.vouchers,_,rfl,(J.keep F).vou,L.vou,z H1 F⟩
inductive Aq(A:cX)(vs:List V)(H:Hp)(Q:VK)(E:XK):Prop|mk(q t l p vl:Addr)(T:N9)(zs:List Pz)(tk:OF)(gone:Bool)(now:Nat)(_:vs=[.ref q,.ref p,nv now,nv (due T tk now)])(_:ai A H q T t l zs)(_:af A H p tk vl gone)(_:Q (nv (O1 T tk now)) H)
theorem tY(T:Txt K mg A):fK P w K mg base 1 "owed_of" ["tariff","ticket","now","due"] (Aq A):=by
 have S:ax ["tariff","ticket","now","due"] ["tariff","ticket","now","due"] (ap vB):=axo
 have nd:=S.nd;refine aN T.Nm S (fun f F I outer s H vs Q E J h=>?_)
 ·obtain⟨q,t,l,p,vl,Tf,zs,tk,gone,now,rfl,L,M,z⟩:=h
  refine⟨_,(ae (bc ((sh (dA nP (aA (pv 1)) fk) (nO (dA fi (pv 2) (aD b0 (aA (pv 1)) (aA (pv 0))))))).pt (ak (au ao)) aG)
   (ak (au (az (lW rfl) (by rfl) T.KJ sJ (ab ao (ab (aD bO (pv 3) (aA (pv 1))) ag)))))),?_⟩
  exists 0,4,0;unfold O1 at z
  have last:∀(b:Bool),(tk.last.any fun u=>decide (now<=u+Tf.grace))=false->Q (.int (if (due Tf tk now:Int)-(tk.paid:Int)>0 then(due Tf tk now:Int)-(tk.paid:Int) else 0)) H:=fun _ hb=>by
   rw[if_neg (by rw[hb];exact N2)] at z;refine qq (Q:=Q) z (congrArg V.int ?_);split<;>lia
  left;cases hl:tk.last with
  |none=>
   rw[hl] at z last;rw[pY];left;exact last true rfl
  |some u=>
   rw[hl] at z last;rw[jK];left;rw[hl,jK];left;refine gz (fun h1=>?_) (fun h1=>?_)
   ·rw[if_pos (by exact decide_eq_true ())] at z;left;exact z
   ·left;exact last true (by exact decide_eq_false ())
structure rZ (H:Hp) (q:Addr) (l:List (List Nat)):Prop where
 ex:∃zs:List (List Nat×Addr),zs.map (·.1)=l/\H q=some (.lst (zs.map fun z=>V.ref z.2))/\∀z∈zs,H z.2=some (.lst (z.1.map nv))/\z.2≠q
def yT(n:Nat):Nat->List (List Nat)
 |0=>[[]]
 |k+1=>(yT n k).flatMap fun o=>((N0 n).filter fun x=>decide (x∉o)).map fun x=>o++[x]
theorem Ij:∀n,n<=3->(∀k,k<=n->(yT n k).length<=6/\∃o r,yT n k=o::r/\o.length=k)/\(∀k,k<=n->∀o∈yT n k,o.length<=3)/\yT n n=orders n (N0 n):=by
 have key:∀n,n<=3->∀k,k<=n->(yT n k).length<=6/\(yT n k).head?.map Os=some k/\(∀o∈yT n k,o.length<=3):=by decide+kernel
 intro n z;refine⟨fun k F=>?_,fun k F=>(key n z k F).2.2,?_⟩
 ·refine⟨(key n z k F).1,?_⟩;have:=(key n z k F).2.1;cases e:yT n k with
  |nil=>rw[e] at this;cases this
  |cons o r=>rw[e] at this;exact⟨o,r,rfl,N6.inj this⟩
 ·have:∀n,n<=3->yT n n=orders n (N0 n):=by decide+kernel
  exact this n z
theorem FV(n:Nat)(xs:List Nat):EV (nv n) (xs.map nv)=decide (n∈xs):=by
 unfold EV;rw[RY];show xs.any (fun x=>((x:Int)==(n:Int)))=_
 induction xs with
 |nil=>rfl
 |cons x xs F=>
  rw[QQ,F];by_cases q:x=n
  ·subst q;simp
  ·have I:¬n=x:=fun z=>q z.symm
   have:((x:Int)==(n:Int))=false:=by
    apply Pf.mpr;intro z;have:=eq_of_beq z;lia
   rw[this];simp[I]
theorem CN(xs:List Nat):(xs.map nv).all mF=true:=by
 rw[SX];exact OM.mpr fun x _=>rfl
inductive xj(vs:List V)(H:Hp)(Q:VK)(E:XK):Prop|mk(n:Nat)(_:vs=[nv n])(_:n<=3)(_:∀(H':Hp)(r:Addr),H r=none->Same H H'->rZ H' r (orders n (N0 n))->Q (.ref r) H')
theorem xk(T:Txt K mg A):fK P w K mg base 1 "orders_of" ["count"] xj:=by
 have S:ax ["count","orders","longer","order","number"] ["count"] (ap qu):=axo
 have nd:=S.nd;refine aN T.Ni S (fun f c0 Ar outer s H vs Q E hr h=>?_)
 ·obtain⟨n,rfl,hn,kk⟩:=h
  refine⟨_,(ae (aM nd 1 (aH (ab (aH ag) ag)))
   (ae (kN OU.never (dA iX (az aB (by rfl) T.Ks bU (ab (ba ay (pv 1) ao) ag)) (pv 0)) (ae (aM nd 2 (aH ag))
   (ae (fW OU.never rfl (dj (pv 1)) (eU nd 3) (ak (dr (gh PySem.F.plainAttrs_list PySem.F.slot_list_extend PySem.F.type_list_extend gv (pv 2) (ab (iE rfl nd (o_ (by rfl) T.KA (ab (pv 0) ag)) (dn (own:=[("number",4)]) rfl) (fun _ _ _ _ _=>(by exact(eU nd 4))) (fun _ _ _ _ _=>(by exact(nY (hG (uz (K:=K) rfl) (pv 4) (pv 3) rfl)))) (fun _ _ _ _ _=>(by exact(aD iD (pv 3) (aH (ab (pv 4) ag)))))) ag)))))
   (ak (aM nd 1 (pv 2))))))
   (ak (au (pv 1))))),?_⟩
  exists 0,1,4;obtain⟨o1,o2,o3⟩:=Ij n hn;rw[<-o3] at kk;left;refine⟨gG,fun l0 h0=>?_⟩;left;refine⟨c_,fun l1 h1=>?_⟩;left;have al:l0≠l1:=aw ac h1;refine⟨fun m σ H'=>∃(k:Nat)(l:Addr)(v2 v3 v4:Option V),m=n-k/\k<=n/\σ=[some (nv n),some (.ref l),v2,v3,v4]/\H l=none/\Same H H'/\rZ H' l (yT n k),⟨_,0,l1,_,_,_,rfl,OA _,rfl,Same.free (Same.new h0) h1,by walk_at "same",⟨[([],l0)],rfl,ac,fun z hz=>?_⟩⟩,?_⟩
  ·cases OT.mp hz;exact⟨by rw[aj al];exact ac,al⟩
  rintro m σ H' ⟨k,l,v2,v3,v4,rfl,hk,rfl,fl,s1,zs,M,z2,z3⟩;obtain⟨c1,o,r,eo,ol⟩:=o1 k hk
  obtain⟨z0,zr,ez⟩:∃z0 zr,zs=z0::zr:=by
   cases zs with
   |nil=>rw[eo] at M;cases M
   |cons a b=>exact⟨a,b,rfl⟩
  have b4:z0.1=o:=by rw[ez,eo] at M;exact(PB.inj M).1
  left;refine gB (j:=0) (v:=.ref z0.2) (aI.of z2) rfl (by rw[ez];rfl) ?_;left;have an:z0∈zs:=by rw[ez];exact Oi ..
  refine dI (aI.of (z3 z0 an).1) ?_;left;rw[NV,b4,ol];refine gz (fun hc=>?_) (fun hc=>?_)
  ·have b5:k<n:=by lia
   refine⟨fun σ' H'=>∃m',m'<n-k/\∃(k:Nat)(l:Addr)(v2 v3 v4:Option V),m'=n-k/\k<=n/\σ'=[some (nv n),some (.ref l),v2,v3,v4]/\H l=none/\Same H H'/\rZ H' l (yT n k),fun σ' H' h=>h,?_⟩;left;refine⟨gG,fun J hg=>?_⟩;have sg:=Same.new (o:=.lst []) hg;have fg:=s1.free hg;left
   have zl:zs.length<=6:=by
    have:=congrArg Os M;simp at this;lia
   refine kE (K:=K) (Hb:=H') (xs:=zs.map fun z=>V.ref z.2) sg (aI.of z2) (fun j σ O=>∃v3 v4,σ=[some (nv n),some (.ref l),some (.ref J),v3,v4]/\Same H' O/\rZ O J (((yT n k).take j).flatMap fun o=>((N0 n).filter fun x=>decide (x∉o)).map fun x=>o++[x])) ⟨_,_,rfl,sg,[],rfl,ac,fun z hz=>by cases hz⟩ (fun j σ O h=>by obtain⟨_,_,_,h,_⟩:=h;exact h) ?_ ?_
   ·rintro j X σ O hx ⟨w3,w4,rfl,s2,ys,y1,y2,y3⟩;rw[NZ] at hx;obtain⟨z,hz,rfl⟩:=Oc.mp hx;have b6:=Oe hz;have ej:(yT n k)[j]?=some z.1:=by rw[<-M,NZ,hz];rfl
    have zo:=z3 z b6;have c2:=o2 k hk z.1 (Oe ej);left;refine gi (aI.of y2) ?_;left;refine⟨_,rfl,(gF ()).1,(gF ()).2,?_⟩;rw[QB];have rr:Vt (qR 0 n) O (N0 n).length (fun i x _=>x=.int (0+(i:Nat))):=by rw[Re];exact Af
    refine Gs (l:=N0 n) rr (by simp;lia) (fun x=>decide (x∉z.1)) (fun P x v Hy=>∃a,v=.ref a/\Hy a=some (.lst ((z.1++[x]).map nv))/\a≠P/\O a=none) ?_ ?_ ?_ ?_
    ·rintro P x v H3 H4 _ ⟨a,rfl,q1,q2,q3⟩ sm;exact⟨a,rfl,sm _ _ q1,q2,q3⟩
    ·rintro P x v H3 acc bs _ ⟨a,rfl,q1,q2,q3⟩ hP;exact⟨a,rfl,by rw[aj q2];exact q1,q2,q3⟩
    ·intro P i x X H3 acc hx s3 hP bd hX R R' k1 k2;have hi:i<n:=by have:=(N4.mp hx).1;simpa using this
     have ex:x=i:=by rw[Qa hi] at hx;exact(N6.inj hx).symm
     subst ex;subst hX;have e0:(0:Int)+(x:Nat)=((x:Nat):Int):=by lia
     rw[e0];have Y:=s3 _ _ (s2 _ _ zo.1);dsimp only[bV,OX,Pl];left;refine⟨rfl,?_⟩;left;refine⟨z.2,_,rfl,.inl (aI.of Y),rfl,CN _,?_⟩;rw[if_pos rfl,FV];left;refine FH (fun h2=>?_) (fun h2=>?_)
     ·left;refine⟨c_,fun b1 f1=>?_⟩;left;have bk:z.2≠b1:=aw Y f1;refine lM (by rw[aj bk];exact Y) ac (eP (by simp;lia)) fun b2 f2=>?_;have s5:=(Same.new (o:=.lst [nv x]) f1).updN (o:=.lst (z.1.map nv++[nv x])) f2;refine k1 _ _ (decide_eq_true h2) s5 ⟨b2,rfl,by rw[ac,Oj];rfl,?_,?_⟩
      ·exact fun q=>by
        have:=(Same.new (o:=.lst [nv x]) f1) _ _ bd;rw[q,this] at f2;cases f2
      ·exact s3.free ((Same.new (o:=.lst [nv x]) f1).free f2)
     ·exact k2 H3 (decide_eq_false fun q=>q h2) (Same.refl _)
    ·intro P H3 ws hP s3 bo ar as;left;have bq:=s3 _ _ y2;have c3:P≠J:=fun q=>by rw[q,y2] at hP;cases hP
     have wl:ws.length<=3:=by
      have:=congrArg Os ar;rw[NV] at this;have h4:=QL (fun x=>decide (x∉z.1)) (N0 n);rw[Re] at h4;lia
     have yl:ys.length<=100:=by
      have:=congrArg Os y1;rw[NV] at this
      have hb:∀(L:List (List Nat)),(L.flatMap fun o=>((N0 n).filter fun x=>decide (x∉o)).map fun x=>o++[x]).length<=3*L.length:=by
       intro L
       induction L with
       |nil=>exact NX _
       |cons a L ih=>
        rw[PV,Of,NV,Ol];have h4:=QL (fun x=>decide (x∉a)) (N0 n);rw[Re] at h4;lia
      have h6:((yT n k).take j).length<=6:=by rw[QE];lia
      have:=hb ((yT n k).take j);lia
     refine gS bq bo (eP (by simp;lia)) ?_;have av:H' J=none:=hg;refine⟨_,_,rfl,(s2.trans s3).upd av,ys++ws.map (fun I=>(z.1++[I.1],(match I.2 with|.ref a=>a|_=>0))),?_,?_,?_⟩
     ·rw[Oj,y1,Pg,ej,QH,On];congr 1;show _=List.flatMap _ [z.1];rw[PV,Uq,OC,<-ar,On];rfl
     ·rw[ac,Oj,On];congr 3;apply Om;intro I Z;obtain⟨a,ev,_⟩:=as I Z;show I.2=V.ref (match I.2 with|.ref a=>a|_=>0);rw[ev]
     ·intro y hy;rcases OK.mp hy with hy|hy
      ·have:=y3 y hy;exact⟨by rw[aj this.2];exact s3 _ _ this.1,this.2⟩
      ·obtain⟨I,Z,rfl⟩:=Oq.mp hy;obtain⟨a,ev,q1,q2,q3⟩:=as I Z;have b3:a≠J:=fun q=>by rw[q,y2] at q3;cases q3
       show(upd H3 J _) (match I.2 with|.ref a=>a|_=>0)=_/\(match I.2 with|.ref a=>a|_=>0)≠J;rw[ev];exact⟨by show(upd H3 J _) a=_;rw[aj b3];exact q1,b3⟩
   ·rintro σ O ⟨w3,w4,rfl,s2,hL⟩
    have e:(zs.map fun z=>V.ref z.2).length=(yT n k).length:=by
     have:=congrArg Os M;simp at this;simp[this]
    rw[e,Qg] at hL;left;exact⟨n-(k+1),by lia,k+1,J,_,_,_,rfl,b5,rfl,fg,s1.trans s2,hL⟩
  ·have:k=n:=by lia
   subst this;left;exact kk H' l fl s1 ⟨zs,M,z2,z3⟩
theorem jh(l:List Voucher){o:List Nat}(h:∀i∈o,i<l.length):∀v∈inOrder l o,v∈l:=fun v hv=>by
 unfold inOrder at hv;obtain⟨i,_,hi⟩:=Rq.mp hv;exact Oe hi
inductive yU(K:PySem.W.Frag)(vs:List V)(H:Hp)(Q:VK)(E:XK):Prop|mk(vl z:Addr)(l:List Voucher)(o:List Nat)(_:vs=[.ref vl,.ref z])(_:aT H vl (vp l))(_:aI K H z (o.map nv))(_:(∀i∈o,i<l.length))(_:o.length<=1000)(_:∀(H':Hp)(r:Addr),H r=none->Same H H'->aT H' r (vp (inOrder l o))->Q (.ref r) H')
theorem ji(T:Txt K mg A):fK P w K mg base 1 "in_order" ["vouchers","order"] (yU K):=by
 have S:ax ["vouchers","order","number"] ["vouchers","order"] (ap sP):=axo
 have nd:=S.nd;refine aN T.Nj S (fun f Z Ar outer s H vs Q E hr h=>?_)
 ·obtain⟨vl,ol,l,o,rfl,hv,O,hi,I,J⟩:=h;refine⟨_,(ak (au (iE rfl nd (dj (pv 1)) (dn (own:=[("number",2)]) rfl) (fun _ _ _ _ _=>(by exact(eU nd 2))) (fun _ _ _ _ _=>(by exact fA)) (fun _ _ _ _ _=>(by exact(ba (lu (K:=K) rfl) (pv 0) (pv 2))))))),?_⟩;exists 0,2,1;obtain⟨ys,Y,y2,y3⟩:=hv.zip
  have yl:ys.length=l.length:=by
   have:=congrArg Os Y;simpa using this
  left;refine D8 (l:=o) (c:=nv) O () (fun _=>true) (fun i=>match ys[i]? with|some z=>V.ref z.2|none=>.non) (fun i H1 hm F R R' k1 k2=>?_) (fun P H1 f1 F h1=>?_)
  ·have L:=hi i hm;have e:ys[i]?=some (ys[i]'()):=by simp
   dsimp only[bV,OX,Pl];left;refine⟨rfl,?_⟩;left;refine gB (j:=i) (v:=V.ref (ys[i]'()).2) (aI.of (F _ _ y2)) rfl (by rw[NZ,e];rfl) ?_;have:=k1 H1 rfl (Same.refl _);rw[e] at this;exact this
  ·rw[OR.mpr (fun _ _=>rfl)] at h1
   have e1:o.map (fun i=>match ys[i]? with|some z=>V.ref z.2|none=>.non)=(o.filterMap fun i=>ys[i]?).map fun z=>V.ref z.2:=by
    clear h1 J O I
    induction o with
    |nil=>rfl
    |cons i o ih=>
     have L:=hi i (Oi ..);have e:ys[i]?=some (ys[i]'()):=by simp
     rw[Oo,Ql,e];show V.ref _::_=V.ref _::_;rw[ih fun j hj=>hi j (N5 _ hj)]
   rw[e1] at h1
   have e2:vp (inOrder l o)=(o.filterMap fun i=>ys[i]?).map (·.1):=by
    unfold inOrder vp;rw[Vd,Vd];congr 1;funext i;have:=congrArg (fun q=>q[i]?) Y;simp only[NZ] at this;rw[this]
   rw[e2] at J;refine J H1 P f1 F (aT.of_zip h1 fun z hz=>F _ _ (y3 z ?_));obtain⟨i,_,M⟩:=Rq.mp hz;exact Oe M
theorem uP(l:List Voucher):inOrder l (N0 l.length)=l:=by
 unfold inOrder
 have gen:∀(l m:List Voucher),((N0 l.length).map fun i=>m.length+i).filterMap (fun i=>(m++l)[i]?)=l:=by
  intro l
  induction l with
  |nil=>intro m;rfl
  |cons x l z=>
   intro m
   have F:(N0 (x::l).length).map (fun i=>m.length+i)=m.length::(N0 l.length).map (fun i=>(m++[x]).length+i):=by
    rw[Ol,Qe,Oo,On];congr 1;apply Om;intro i _;simp;lia
   have I:m++x::l=(m++[x])++l:=by simp
   have J:(m++x::l)[m.length]?=some x:=by rw[OJ (NX _)];simp
   rw[F,Ql,J];show x::_=x::l;rw[I,z (m++[x])]
 have:=gen l [];simpa using this
def lS(l:List Voucher)(x:Nat)(os:List (List Nat)):Nat×List Nat:=os.foldl (fun(b:Nat×List Nat)(o:List Nat)=>if (inOrder l o).foldl takes x<b.1 then((inOrder l o).foldl takes x,o) else b) (l.foldl takes x,N0 l.length)
theorem FW(l:List Voucher)(x:Nat):ON l x=lS l x (orders l.length (N0 l.length)):=rfl
theorem CO:∀n,n<=3->∀o∈orders n (N0 n),(∀i∈o,i<n)/\o.length<=3:=by decide+kernel
inductive uQ(K:PySem.W.Frag)(vs:List V)(H:Hp)(Q:VK)(E:XK):Prop|mk(vl:Addr)(l:List Voucher)(x:Nat)(_:vs=[.ref vl,nv x])(_:aT H vl (vp l))(_:(∀v∈l,v.ok=true))(_:l.length<=3)(_:((∀i∈(ON l x).2,i<l.length)->(ON l x).2.length<=3->(inOrder l (ON l x).2).foldl takes x=(ON l x).1->∀(H':Hp)(r:Addr),Same H H'->H' r=some (.lst ((ON l x).2.map nv))->Q (.ref r) H'))
theorem m9(T:Txt K mg A):fK P w K mg base 3 "best_order" ["vouchers","base"] (uQ K):=by
 have S:ax ["vouchers","base","best","order"] ["vouchers","base"] (ap om):=axo
 have nd:=S.nd;refine aN T.Nk S (fun f b2 Ar outer s H vs Q E M h=>?_)
 ·obtain⟨vl,l,x,rfl,hv,hok,hl,kk⟩:=h
  refine⟨_,(ae (aM nd 2 (c9 (mP rfl) (by rfl) T.KL (by rfl) (ab (CA (by rfl) T.KA (ab (az aB (by rfl) T.Ks bU (ab (pv 0) ag)) ag)) ag)))
   (ae (fW OU.never rfl (dj (aF (xk T) M (ab (az aB (by rfl) T.Ks bU (ab (pv 0) ag)) ag))) (eU nd 3) (ak (bc (dA iX (aF (j_ T) M (ab (aF (ji T) M (ab (pv 0) (ab (pv 3) ag))) (ab (pv 1) ag))) (aF (j_ T) M (ab (aF (ji T) M (ab (pv 0) (ab (pv 2) ag))) (ab (pv 1) ag)))) (ak (aM nd 2 (pv 3))) aG)))
   (ak (au (pv 2))))),?_⟩
  exists 0,2,2;obtain⟨ts,t1,t2⟩:=hv.len;rw[NV] at t2;have O:=CO l.length hl;rw[FW] at kk;generalize an:orders l.length (N0 l.length)=os at kk O;left;refine dI (aI.of t1) ?_;rw[t2];left;refine⟨_,rfl,gF (),fun p hp=>?_⟩;left;refine D7 ac () () () fun rb hb=>?_
  have eb:(N0 ((l.length:Int)-0).toNat).map (fun k=>V.int (0+(k:Nat)))=(N0 l.length).map nv:=by
   rw[show((l.length:Int)-0).toNat=l.length by lia];apply Om;intro k _;exact congrArg V.int ()
  rw[eb];have s0:Same H (upd (upd H p (.rng 0 l.length)) rb (.lst ((N0 l.length).map nv))):=by walk_at "same"
  have Y:=ac (H:=upd H p (.rng 0 l.length)) (a:=rb) (o:=.lst ((N0 l.length).map nv));generalize upd (upd H p (.rng 0 l.length)) rb (.lst ((N0 l.length).map nv))=H0 at s0 Y ⊢;left;refine dI (aI.of (s0 _ _ t1)) ?_;rw[t2];left;refine⟨l.length,rfl,hl,fun H1 r fr s1 hL=>?_⟩;rw[an] at hL;obtain⟨zs,z1,z2,z3⟩:=hL;have ar:=(hv.keep s0).keep s1;left
  refine kE (K:=K) (Hb:=H1) (xs:=zs.map fun z=>V.ref z.2) (Same.refl _) (aI.of z2) (fun j σ H'=>∃(b:Addr)(v3:Option V),σ=[some (.ref vl),some (nv x),some (.ref b),v3]/\Same H1 H'/\H' b=some (.lst ((lS l x (os.take j)).2.map nv))/\(∀i∈(lS l x (os.take j)).2,i<l.length)/\(lS l x (os.take j)).2.length<=3/\(inOrder l (lS l x (os.take j)).2).foldl takes x=(lS l x (os.take j)).1)
   ⟨rb,_,rfl,Same.refl _,s1 _ _ Y,fun i hi=>Px.mp hi,by show(N0 l.length).length<=3;simp;lia,by show(inOrder l (N0 l.length)).foldl _ x=_;rw[uP];rfl⟩ (fun j σ H' h=>by obtain⟨_,_,_,h,_⟩:=h;exact h) ?_ ?_
  ·rintro j X σ H' hx ⟨b,v3,rfl,Z,F,h1,h2,L⟩;rw[NZ] at hx;obtain⟨z,hz,rfl⟩:=Oc.mp hx;have ej:os[j]?=some z.1:=by rw[<-z1,NZ,hz];rfl
   have zo:=(z3 z (Oe hz)).1;have I:=O z.1 (Oe ej)
   have as:lS l x (os.take (j+1))=if (inOrder l z.1).foldl takes x<(lS l x (os.take j)).1 then((inOrder l z.1).foldl takes x,z.1) else lS l x (os.take j):=by
    unfold lS;rw[Pg,ej,PU];rfl
   rw[as];generalize lS l x (os.take j)=bo at F h1 h2 L ⊢;have al:=ar.keep Z;left;refine⟨vl,z.2,l,z.1,rfl,al,aI.of (Z _ _ zo),I.1,by lia,fun H3 r3 f3 s3 av=>?_⟩;left;refine⟨r3,_,x,rfl,av,fun v J=>hok v (jh l I.1 v J),?_⟩;left;refine⟨vl,b,l,bo.2,rfl,al.keep s3,aI.of (s3 _ _ F),h1,by lia,fun H4 r4 f4 s4 b1=>?_⟩;left;refine⟨r4,_,x,rfl,b1,fun v J=>hok v (jh l h1 v J),?_⟩;left;rw[L];have s5:=Z.trans (s3.trans s4);refine gz (fun hc=>?_) (fun hc=>?_)
   ·rw[if_pos ()];left;exact⟨z.2,_,rfl,s5,s5 _ _ zo,I.1,I.2,rfl⟩
   ·rw[if_neg ()];left;exact⟨b,_,rfl,s5,(s3.trans s4) _ _ F,h1,h2,L⟩
  ·rintro σ H' ⟨b,v3,rfl,Z,F,h1,h2,L⟩
   have e:(zs.map fun z=>V.ref z.2).length=os.length:=by
    have:=congrArg Os z1;simp at this;simp[this]
   rw[e,Qg] at F h1 h2 L;left;exact kk h1 h2 L H' b ((s0.trans s1).trans Z) F
inductive yV(K:PySem.W.Frag)(vs:List V)(H:Hp)(Q:VK)(E:XK):Prop|mk(a:Addr)(z:List Nat)(_:vs=[.ref a])(_:aI K H a (z.map nv))(_:∀H',Same H H'->Q (nv (worth z)) H')
def Ik:List V:=[V.int 1,V.int 2,V.int 5,V.int 10,V.int 20,V.int 50,V.int 100,V.int 200]
theorem CP(z:List Nat):worth z=((PJ.zip z).map fun x=>x.1*x.2).sum:=by
 unfold worth;exact mf _
theorem yW(T:Txt K mg A):fK P w K mg base 1 "worth_of" ["coins"] (yV K):=by
 have S:ax ["coins","cents","count"] ["coins"] (ap sK):=axo
 have nd:=S.nd;refine aN T.MH S (fun f al Ar outer s H vs Q E hr h=>?_)
 ·obtain⟨a,L,rfl,ha,kk⟩:=h;refine⟨_,(ak (au (az (wt rfl) (by rfl) T.KP wA (ab (iE rfl nd (Fs (by rfl) T.K5 (ab (gZ T.KF) (ab (pv 0) ag))) (dn (own:=[("cents",1),("count",2)]) rfl) (fun _ _ _ _ _=>(by exact(jc (K:=K) (n:=2) rfl rfl (cg (eU nd 1) (cg (eU nd 2) gm))))) (fun _ _ _ _ _=>(by exact fA)) (fun _ _ _ _ _=>(by exact(aD kO (pv 1) (pv 2))))) ag)))),?_⟩;exists 0,1,2;left;refine jg fun t ht=>?_;left;have F:gI K H t (PJ.map nv):=ht H;refine⟨t,a,_,_,rfl,F,ha,?_⟩;have Z:=Cy F ha;have en:min (PJ.map nv).length (L.map nv).length=(PJ.zip L).length:=by rw[NV,NV,Qv]
  rw[en] at Z;refine Gs (l:=PJ.zip L) Z (by rw[Qv];have:PJ.length=8:=rfl;lia) (fun _=>true) (fun _ x v _=>v=nv (x.1*x.2)) (fun _ _ _ _ _ _ h _=>h) (fun _ _ _ _ _ _ _ h _=>h) ?_ ?_
  ·intro P i x X H1 acc M s1 hP an hX R R' k1 k2;obtain⟨tt,u,v,rfl,O,hu,hv⟩:=hX;rw[O_] at M;rw[NZ,M.1] at hu;rw[NZ,M.2] at hv;cases hu;cases hv;have hm:=Oe M.1
   have hb:x.1<=200:=by
    have:∀y∈PJ,y<=200:=by decide
    exact this _ hm
   dsimp only[bV,OX,Pl];refine qV (gI.of O) rfl ?_;left;refine⟨rfl,?_⟩;left;refine bY (Js ()) ?_;exact k1 _ H1 rfl (Same.refl _) (by rw[<-Qx])
  ·intro P H1 zs hP s1 I J Y;rw[OR.mpr (fun _ _=>rfl)] at J
   have e1:zs.map (·.2)=(((PJ.zip L).map fun x=>x.1*x.2).map OW).map V.int:=by
    rw[<-J,On,On,On];apply Om;intro z hz;exact Y z hz
   rw[e1] at I;left;refine Bl (aI.of I) ?_;rw[oR,<-CP];exact kk H1 s1
theorem tZ:∀(N:Nat)(l:List Nat),l.Nodup->(∀x∈l,x<N)->l.length<=N
 |0,l,_,h=>by
  cases l with
  |nil=>exact NX _
  |cons x l=>exact absurd (h x (Oi ..)) (Nat.not_lt_zero _)
 |N+1,l,F,h=>by
  by_cases I:N∈l
  ·have:=tZ N (l.erase N) (F.erase N) fun x z=>by
    have h1:=(F.mem_erase_iff).mp z;have:=h x h1.2;have:x≠N:=h1.1;lia
   rw[length_erase_of_mem I] at this;lia
  ·have:=tZ N l F fun x z=>by
    have:=h x z;have:x≠N:=fun q=>I (q ▸ z);lia
   lia
def ky(k y:Nat):List fu:=[Sum.inl (k:Int),Sum.inl (y:Int)]
structure eV (H:Hp) (d:Addr) (cs:List Nat):Prop where
 ex:∃kvs:List (List fu×V),H d=some (.dT kvs)/\(∀key v,dH kvs key=some v->∃k y,k<=8/\y<=1000/\key=ky k y/\v=nv (FM.fw (FM.kd cs k) y))/\(kvs.map (·.1)).Nodup
theorem eV.keep{H H':Hp}{d:Addr}{z:List Nat}(h:eV H d z)(s:Same H H'):eV H' d z:=by
 obtain⟨kvs,h1,h2⟩:=h;exact⟨kvs,s _ _ h1,h2⟩
theorem Ep{kvs:List (List fu×V)}{key:List fu}(h:key∈kvs.map (·.1)):∃v,dH kvs key=some v:=by
 unfold dH;cases e:kvs.find? fun z=>decide (z.1=key) with
 |none=>
  rw[Rs] at e;obtain⟨z,F,I⟩:=Oq.mp h;exact absurd (decide_eq_true I) (e z F)
 |some z=>exact⟨z.2,rfl⟩
theorem Il{k y z F:Nat}(h:ky k y=ky z F):k=z/\y=F:=by
 unfold ky at h;have h1:=Sum.inl.inj (PB.inj h).1;have h2:=Sum.inl.inj (PB.inj (PB.inj h).2).1;lia
theorem CQ{kvs:List (List fu×V)}{M:List Nat}(h:∀key v,dH kvs key=some v->∃k y,k<=8/\y<=1000/\key=ky k y/\v=nv (FM.fw (FM.kd M k) y))(L:(kvs.map (·.1)).Nodup):kvs.length<=10000:=by
 let f:List fu->Nat:=fun key=>match key with
  |[Sum.inl k,Sum.inl y]=>k.toNat*1001+y.toNat
  |_=>0
 have F:∀key∈kvs.map (·.1),∃k y,k<=8/\y<=1000/\key=ky k y:=fun key z=>by
  obtain⟨v,hv⟩:=Ep z;obtain⟨k,y,h1,h2,O,_⟩:=h key v hv;exact⟨k,y,h1,h2,O⟩
 have I:∀k y:Nat,f (ky k y)=k*1001+y:=fun k y=>by
  show(k:Int).toNat*1001+(y:Int).toNat=_;lia
 have S:((kvs.map (·.1)).map f).Nodup:=by
  rw[Sz,pairwise_map];rw[Sz] at L;refine List.Pairwise.imp_of_mem (fun{a b} ha hb J=>?_) L;obtain⟨k,y,h1,h2,rfl⟩:=F a ha;obtain⟨Y,Z,al,an,rfl⟩:=F b hb;rw[I,I];intro q;exact J (by rw[show k=Y by lia,show y=Z by lia])
 have:=tZ 10000 _ S fun x hx=>by
  obtain⟨key,z,rfl⟩:=Oq.mp hx;obtain⟨k,y,h1,h2,rfl⟩:=F key z;rw[I];lia
 simpa using this
theorem eV.put{H:Hp}{d:Addr}{I:List Nat}{kvs:List (List fu×V)}{k y:Nat}(h1:H d=some (.dT kvs))(h2:∀key v,dH kvs key=some v->∃k y,k<=8/\y<=1000/\key=ky k y/\v=nv (FM.fw (FM.kd I k) y))(L:(kvs.map (·.1)).Nodup)(M:k<=8)(O:y<=1000):
  eV (upd H d (.dT (hJ kvs (ky k y) (nv (FM.fw (FM.kd I k) y))))) d I:=by
 refine⟨_,ac,fun key v hv=>?_,?_⟩
 ·rw[xR] at hv;by_cases q:key=ky k y
  ·rw[if_pos q] at hv;cases hv;exact⟨k,y,M,O,q,rfl⟩
  ·rw[if_neg q] at hv;exact h2 key v hv
 ·cases e:dH kvs (ky k y) with
  |none=>exact E9 _ L e
  |some v=>
   have:(hJ kvs (ky k y) (nv (FM.fw (FM.kd I k) y))).map (·.1)=kvs.map (·.1):=by
    unfold hJ;split
    ·rw[On];apply Om;intro F _;show(if F.1=ky k y then(F.1,_) else F).1=F.1;split<;>rfl
    ·rename_i q;exfalso;apply q;unfold dH at e;cases J:kvs.find? fun F=>decide (F.1=ky k y) with
     |none=>rw[J] at e;cases e
     |some F=>
      have z:=UT J;exact SH.mpr ⟨F,Rw J,z⟩
   rw[this];exact L
theorem Er:∀k,k<8->0<FM.cn k/\FM.cn k<=200/\Ik[k]?=some (nv (FM.cn k)):=by decide+kernel
theorem Es{z:List Nat}(I:z.length=8)(F:∀n∈z,n<=100){k:Nat}(J:k<8):z[k]?=some (z.getD k 0)/\z.getD k 0<=100:=by
 have e:z.getD k 0=z[k]'():=by simp[Q7,show k<z.length by lia]
 rw[e];exact⟨by simp,F _ (Ps _)⟩
inductive mw(K:PySem.W.Frag)(m:Nat)(vs:List V)(H:Hp)(Q:VK)(E:XK):Prop|mk(a d:Addr)(k x:Nat)(z:List Nat)(_:vs=[.ref a,nv k,nv x,.ref d])(_:aI K H a (z.map nv))(_:z.length=8)(_:(∀n∈z,n<=100))(_:1<=k)(_:k<=m)(_:k<=8)(_:x<=1000)(_:eV H d z)(_:∀H',Same (o8 H d) H'->eV H' d z->Q (nv (FM.fw (FM.kd z k) x)) H')
theorem Et{K:PySem.W.Frag}{H:Hp}{a d:Addr}{xs:List V}{kvs:List (List fu×V)}(h:aI K H a xs)(hd:H d=some (.dT kvs)):aI K (o8 H d) a xs:=by
 rcases h with(h|⟨o,h⟩)|h
 ·exact .inl (.inl (nB h (b8 h hd (by intro z;cases z))))
 ·exact .inl (.inr ⟨o,nB h (b8 h hd (by intro z;cases z))⟩)
 ·exact .inr h
theorem pZ:ax ["coins","kinds","x","known","cents","most","n"] ["coins","kinds","x","known"] (ap yd):=axo
theorem Eu{H:Hp}{l b:Addr}(h:H b=none):o8 H l b=none:=by
 unfold o8;split
 ·rfl
 ·exact h
theorem eV.up{H:Hp}{d l:Addr}{z:List Nat}{o:HO}(h:eV H d z)(n:d≠l):eV (upd H l o) d z:=by
 obtain⟨kvs,h1,h2⟩:=h;exact⟨kvs,by rw[aj n];exact h1,h2⟩
theorem yX(T:Txt K mg A):fK P w K mg base 1 "fewest" ["coins","kinds","x","known"] (mw K 0):=by
 obtain⟨f,fd,F,z⟩:=T.L1;refine⟨f,fd,z,F.kp,F.binds,?_⟩;refine F.ok pZ (fun vs H Q E h=>?_) (fun I L outer s H vs Q E M h=>?_)
 ·obtain⟨a,d,k,x,J,rfl,_⟩:=h;rfl
 ·obtain⟨a,d,k,x,J,rfl,_,_,_,h1,h2,_⟩:=h;lia
theorem yY(T:Txt K mg A)(m:Nat)(IH:fK P w K mg base (m+1) "fewest" ["coins","kinds","x","known"] (mw K m)):fK P w K mg base (m+2) "fewest" ["coins","kinds","x","known"] (mw K (m+1)):=by
 obtain⟨f,fd,F,hm⟩:=T.L1;obtain⟨f_fewest,fd_fewest,m_fewest,k_fewest,b_fewest,G_fewest⟩:=IH;have nd:=pZ.nd;refine⟨f,fd,hm,F.kp,F.binds,?_⟩;refine F.ok pZ (fun vs H Q E h=>?_) (fun co Ar outer s H vs Q E hr h=>?_)
 ·obtain⟨a,d,k,x,I,rfl,_⟩:=h;rfl
 ·obtain⟨a,d,k,x,I,rfl,ha,h8,hc,h1,ct,b1,hx,hd,S⟩:=h
  refine⟨_,(ae (bc (dA fB (pv 1) ao) (ak (au (fh (dA fi (pv 2) (ba ay (pv 0) ao)) (pv 2) (aE T.Lo)))) aG)
   (ae (bc (ze (BK (x8 hr) (gW (ab (pv 1) (ab (pv 2) ag))) (pv 3))) (ae (aM nd 4 (ba gX (gZ T.KF) (aD bO (pv 1) ao)))
   (ae (aM nd 5 (az (fU rfl) (by rfl) T.Kz gY (ab (ba ay (pv 0) (aD bO (pv 1) ao)) (ab (aD jN (pv 2) (pv 4)) ag))))
   (ak (AQ (x8 hr) (pv 3) (gW (ab (pv 1) (ab (pv 2) ag))) (az (Dm rfl) (by rfl) T.Kz gY (ab (iE rfl nd (o_ (by rfl) T.KA (ab (aD b0 (pv 5) ao) ag)) (dn (own:=[("n",6)]) rfl) (fun _ _ _ _ _=>(by exact(eU nd 6))) (fun _ _ _ _ _=>(by exact fA)) (fun _ _ _ _ _=>(by exact(aD b0 (pv 6) (iY G_fewest (hr.mono (by first|decide|lia)) (by rfl) m_fewest k_fewest b_fewest .nil i6 (ab (pv 0) (ab (aD bO (pv 1) ao) (ab (aD bO (pv 2) (aD kO (pv 6) (pv 4))) (ab (pv 3) ag))))))))) ag)) rfl)))) aG)
   (ak (au (E3 (x8 hr) (pv 3) (gW (ab (pv 1) (ab (pv 2) ag))) (fun _ _=>rfl)))))),?_⟩
  exists 0,4,3;have L:=hd;obtain⟨kvs,q1,q2,q3⟩:=hd;left;refine gz (fun Y=>?_) (fun Y=>?_)
  ·have Y:k=1:=by lia
   subst Y;have e1:FM.kd I 1=[(1,I.getD 0 0)]:=by rw[mj h8 (by decide)];rfl
   rw[e1,HR] at S;left;refine gB (j:=0) (v:=nv (I.getD 0 0)) ha rfl (by rw[NZ,(Es h8 hc (by decide)).1];rfl) ?_;left;refine gz (fun h2=>?_) (fun h2=>?_)
   ·rw[if_pos ()] at S;left;exact S H iR L
   ·rw[if_neg ()] at S;left;exact S H iR L
  ·have cv:2<=k:=by lia
   left;refine⟨gJ,fun t ht=>?_⟩;have cL:d≠t:=aw q1 ht;have s1:=Same.new (o:=.tup [nv k,nv x]) ht;have b2:=ac (H:=H) (a:=t) (o:=.tup [nv k,nv x]);generalize upd H t (.tup [nv k,nv x])=H1 at s1 b2 ⊢;have M:=s1 _ _ q1;left;refine⟨d,_,rfl,kH.t (k:=ky k x) M b2,?_⟩;left;cases hv:dH kvs (ky k x) with
   |some v=>
    obtain⟨k',y',_,_,ek,ev⟩:=q2 _ _ hv;obtain⟨rfl,rfl⟩:=Il ek;refine jq (fun z=>by cases z) (fun _=>?_);left;refine⟨gJ,fun t2 b3=>?_⟩;have Z:=s1.updN (o:=.tup [nv k,nv x]) b3;refine⟨d,v,rfl,hv ▸ kH.t (k:=ky k x) ((Same.new b3) _ _ M) ac,?_⟩;rw[ev];exact S _ (iR.trans Z) (L.keep Z)
   |none=>
    refine jq (fun _=>?_) (fun z=>by cases z);have b4:=Er (k-1) ();have b5:=Es h8 hc (k:=k-1) ();have b6:=s1.seq ha;have c2:(k:Int)-1=((k-1:Nat):Int):=by lia
    have O:FM.kd I k=(FM.cn (k-1),I.getD (k-1) 0)::FM.kd I (k-1):=by
     have:=mj h8 (show k-1<8 by lia);rw[show k-1+1=k by lia] at this;exact this
    left;refine jg fun tc c3=>?_;left;refine C1 (j:=k-1) (v:=nv (FM.cn (k-1))) (c3 _) () b4.2.2 ?_;left;refine gB (j:=k-1) (v:=nv (I.getD (k-1) 0)) b6 () (by rw[NZ,b5.1];rfl) ?_;generalize d0:FM.cn (k-1)=c at b4 O ⊢;generalize d1:I.getD (k-1) 0=cm at b5 O ⊢;left;refine b9 (b_ () ()) ?_;left
    have bd:(if (x:Int)/(c:Int)<(cm:Int) then(x:Int)/(c:Int) else(cm:Int))=((min cm (x/c):Nat):Int):=by
     rw[<-Sb];split<;>lia
    rw[bd];have bk:min cm (x/c)<=x/c:=QI _ _;have al:min cm (x/c)<=100:=by lia
    generalize c4:min cm (x/c)=an at bk al ⊢;refine⟨_,rfl,(gF ()).1,(gF ()).2,fun D hD=>?_⟩;rw[show((an:Int)+1).toNat=an+1 by lia];have ar:D≠d:=fun q=>by rw[q,M] at hD;cases hD
    have bo:o8 H1 d d=none:=oM;have bq:o8 H1 d D=none:=Eu hD;have c5:=Et b6 M;refine Do (lo:=0) (n:=an+1) (fun i H'=>Same (o8 H1 d) H'/\eV H' d I/\H' D=some (.lst (((N0 i).map fun n=>n+FM.fw (FM.kd I (k-1)) (x-n*c)).map nv))) ⟨iR.upd bq,(L.keep s1).up ar.symm,ac⟩ ?_ ?_
    ·rintro i H2 hi ⟨Z,as,av⟩;have d2:i*c<=x:=Od (Qi c (show i<=x/c by lia)) (Tc x c);have e2:(x:Int)-(i:Int)*(c:Int)=((x-i*c:Nat):Int):=by rw[<-Qx];lia
     have e0:(0:Int)+(i:Nat)=(i:Int):=by lia
     rw[e0];dsimp only[bV,OX,Pl];left;refine⟨rfl,?_⟩;left;refine bY (yG ()) ?_;left;rw[c2,e2];refine⟨a,d,k-1,x-i*c,I,rfl,Z.seq c5,h8,hc,by lia,by lia,by lia,by lia,as,fun H3 s3 c6=>?_⟩;left;have c7:=s3 _ _ (nB av ar);refine⟨_,c7,fj (by simp;lia),((iS Z bo).trans s3).upd bq,c6.up ar.symm,?_⟩;rw[ac,P_,Oj,Oj];congr 3
    ·rintro H2 ⟨Z,as,av⟩;have few:=zM h8 hc k b1;rw[O] at few;left;refine Gx (ns:=(vK (c,cm) (FM.kd I (k-1)) x).map OW) (m:=(FM.fw (FM.kd I k) x:Int)) (aI.of (by rw[av];unfold vK;rw[c4];simp only[On];rfl)) ?_ ?_ ?_
     ·unfold vK;rw[NV,NV,Re];exact So _
     ·intro m' c8 ca;obtain⟨z,hz,rfl⟩:=Oq.mp c8;rw[O];exact congrArg OW (DX few hz fun y hy=>RG.mp (ca _ (Oq.mpr ⟨y,hy,rfl⟩)))
     ·left;refine⟨gJ,fun t3 ce=>?_⟩;obtain⟨J,r1,r2,r3⟩:=as;have s3:=Same.new (o:=.tup [nv k,nv x]) ce;have bs:=s3 _ _ r1;refine⟨d,_,rfl,wx.t (k:=ky k x) bs ac (fj (Od (CQ r2 r3) (by decide))),?_⟩;have c0:=eV.put (k:=k) (y:=x) bs r2 r3 b1 hx;have c1:=ac (H:=upd H2 t3 (.tup [nv k,nv x])) (a:=d) (o:=.dT (hJ J (ky k x) (nv (FM.fw (FM.kd I k) x))));have s4:Same (o8 H1 d) (upd (upd H2 t3 (.tup [nv k,nv x])) d (.dT (hJ J (ky k x) (nv (FM.fw (FM.kd I k) x))))):=(Z.trans s3).upd bo;generalize upd (upd H2 t3 (.tup [nv k,nv x])) d (.dT (hJ J (ky k x) (nv (FM.fw (FM.kd I k) x))))=H4 at c0 c1 s4 ⊢;left;refine⟨gJ,fun t4 cf=>?_⟩;have s5:=Same.new (o:=.tup [nv k,nv x]) cf;have ch:dH (hJ J (ky k x) (nv (FM.fw (FM.kd I k) x))) (ky k x)=some (nv (FM.fw (FM.kd I k) x)):=by rw[xR,if_pos rfl]
      refine⟨d,nv (FM.fw (FM.kd I k) x),rfl,ch ▸ kH.t (k:=ky k x) (s5 _ _ c1) ac,?_⟩;refine S _ ?_ (c0.keep s5);have sd:Same (o8 H d) (o8 H1 d):=iS (iR.trans s1) oM;exact(sd.trans s4).trans s5
theorem p0(T:Txt K mg A):∀m,fK P w K mg base (m+1) "fewest" ["coins","kinds","x","known"] (mw K m)
 |0=>yX T
 |m+1=>yY T m (p0 T m)
inductive nL(K:PySem.W.Frag)(vs:List V)(H:Hp)(Q:VK)(E:XK):Prop|mk(a d:Addr)(k x v:Nat)(z:List Nat)(_:vs=[.ref a,nv (k+1),nv x,.ref d])(_:aI K H a (z.map nv))(_:z.length=8)(_:(∀n∈z,n<=100))(_:1<=k)(_:k<8)(_:x<=1000)(_:eV H d z)(_:dW (FM.kd z (k+1)) x=some v)(_:∀(H':Hp)(c:Nat),Same (o8 H d) H'->eV H' d z->c=FM.pickK (FM.cn k,z.getD k 0) (FM.kd z k) x->c*FM.cn k<=x->c<=100->(dW (FM.kd z k) (x-c*FM.cn k)).isSome=true->Q (nv c) H')
theorem iU:ax ["coins","kinds","x","known","cents","count"] ["coins","kinds","x","known"] (ap i8):=axo
theorem nM(T:Txt K mg A):fK P w K mg base 10 "count_in_change" ["coins","kinds","x","known"] (nL K):=by
 obtain⟨f,fd,F,hm⟩:=T.MI;obtain⟨f_fewest,fd_fewest,m_fewest,k_fewest,b_fewest,G_fewest⟩:=p0 (P:=P) (w:=w) (base:=base) T 8;have nd:=iU.nd;refine⟨f,fd,hm,F.kp,F.binds,?_⟩;refine F.ok iU (fun vs H Q E h=>?_) (fun c3 Ar outer s H vs Q E hr h=>?_)
 ·obtain⟨a,d,k,x,v,I,rfl,_⟩:=h;rfl
 ·obtain⟨a,d,k,x,v,I,rfl,ha,S,hc,b4,M,hx,hd,Y,kk⟩:=h
  refine⟨_,(ae (aM nd 4 (ba gX (gZ T.KF) (aD bO (pv 1) ao)))
   (ae (aM nd 5 (az (fU rfl) (by rfl) T.Kz gY (ab (ba ay (pv 0) (aD bO (pv 1) ao)) (ab (aD jN (pv 2) (pv 4)) ag))))
   (ae (kN OU.never (dA gP (aD b0 (pv 5) (iY G_fewest (hr.mono (by first|decide|lia)) (by rfl) m_fewest k_fewest b_fewest .nil i6 (ab (pv 0) (ab (aD bO (pv 1) ao) (ab (aD bO (pv 2) (aD kO (pv 5) (pv 4))) (ab (pv 3) ag)))))) (iY G_fewest (hr.mono (by first|decide|lia)) (by rfl) m_fewest k_fewest b_fewest .nil i6 (ab (pv 0) (ab (pv 1) (ab (pv 2) (ab (pv 3) ag)))))) (ak (sn (i:=5) nd rfl (by first|exact Or.inl rfl|exact Or.inr rfl) ao zf)))
   (ak (au (pv 5)))))),?_⟩
  exists 0,4,2;have Z:=Er k M;have al:=Es S hc M;have L:=mj S M;have few:=zM S hc (k+1) ();rw[L] at Y few;have b5:((k+1:Nat):Int)-1=((k:Nat):Int):=by lia
  obtain⟨kvs,q1,q2,q3⟩:=id hd;left;refine jg fun tc b6=>?_;left;refine C1 (j:=k) (v:=nv (FM.cn k)) (b6 _) () Z.2.2 ?_;left;refine gB (j:=k) (v:=nv (I.getD k 0)) ha () (by rw[NZ,al.1];rfl) ?_;generalize c4:FM.cn k=c at Z L few Y kk ⊢;generalize c5:I.getD k 0=J at al L few Y kk ⊢;left;refine b9 (b_ () ()) ?_;left
  have an:(if (x:Int)/(c:Int)<(J:Int) then(x:Int)/(c:Int) else(J:Int))=((min J (x/c):Nat):Int):=by
   rw[<-Sb];split<;>lia
  rw[an];obtain⟨kg,bd,O⟩:=B_ few Y;have ar:=Et ha q1;have as:o8 H d d=none:=oM;refine⟨fun z σ H'=>∃j,z=j/\σ=[some (.ref a),some (nv (k+1)),some (nv x),some (.ref d),some (nv c),some (nv j)]/\Same (o8 H d) H'/\eV H' d I/\kg<=j/\j<min J (x/c)+1/\∀i,j<i->i<min J (x/c)+1->FM.fw ((c,J)::FM.kd I k) x<i+FM.fw (FM.kd I k) (x-i*c),⟨_,_,rfl,rfl,iR,hd,by show kg<=min J (x/c);have:kg<min J (x/c)+1:=bd;lia,Rm _,fun i h1 h2=>by lia⟩,?_⟩;rintro z σ H' ⟨j,rfl,rfl,s1,bk,c6,bo,av⟩;have bq:z<=x/c:=by have:=QI J (x/c);lia
  have bs:z*c<=x:=Od (Qi c bq) (Tc x c);have c0:z<=100:=by have:=Qw J (x/c);lia
  have e2:(x:Int)-(z:Int)*(c:Int)=((x-z*c:Nat):Int):=by rw[<-Qx];lia
  left;refine bY (yG ()) ?_;left;rw[b5,e2];refine⟨a,d,k,x-z*c,I,rfl,s1.seq ar,S,hc,b4,by lia,by lia,by lia,bk,fun H2 s2 c1=>?_⟩;have b1:=(iS s1 as).trans s2;left;refine⟨a,d,k+1,x,I,rfl,b1.seq ar,S,hc,by lia,by lia,by lia,hx,c1,fun H3 s3 b2=>?_⟩;have b3:=(iS b1 as).trans s3;rw[L];left;refine gz (fun c2=>?_) (fun c2=>?_)
  ·refine⟨fun σ' H'=>∃m',m'<z/\∃j,m'=j/\σ'=[some (.ref a),some (nv (k+1)),some (nv x),some (.ref d),some (nv c),some (nv j)]/\Same (o8 H d) H'/\eV H' d I/\kg<=j/\j<min J (x/c)+1/\∀i,j<i->i<min J (x/c)+1->FM.fw ((c,J)::FM.kd I k) x<i+FM.fw (FM.kd I k) (x-i*c),fun σ' H' h=>h,?_⟩
   have c7:kg≠z:=fun q=>by
    rw[q] at O;have O:z+FM.fw (FM.kd I k) (x-z*c)<=FM.fw ((c,J)::FM.kd I k) x:=O;lia
   left;refine yC rfl ?_;left;refine⟨z-1,by lia,z-1,rfl,?_,b3,b2,by lia,by lia,fun i h1 h2=>?_⟩
   ·show[_,_,_,_,_,some (V.int ((z:Int)-1))]=_;rw[show(z:Int)-1=((z-1:Nat):Int) by lia]
   ·by_cases q:i=z
    ·rw[q];lia
    ·exact av i () h2
  ·left;have pk:=DY few Y (show z<_ from bo) (by show z+FM.fw (FM.kd I k) (x-z*c)<=_;lia) av;exact kk H3 z b3 b2 pk.1.symm bs c0 pk.2
theorem As(c:Nat×Nat)(r:FM.Kinds)(y:Nat):gD (c::r) y=FM.pickK c r y::gD r (y-FM.pickK c r y*c.1):=rfl
theorem Ev{z y:Nat}(h:(dW [(1,z)] y).isSome=true):gD [(1,z)] y=[y]:=by
 have I:∀c∈[(1,z)],0<c.1:=fun c J=>by cases OT.mp J;exact VB
 have b:=lB [(1,z)] y I;cases e:dW [(1,z)] y with
 |none=>rw[e] at h;cases h
 |some n=>
  rw[e] at b;obtain⟨⟨k,d,L,h1,h2,F,M⟩,_⟩:=b;rw[L,M];have h2:k*1<=y:=h2;have F:y-k*1=0:=F;rw[show k=y by lia]
theorem CS{H:Hp}{Q:VK}{l:Addr}{xs:List V}{v:V}(h:H l=some (.lst xs))(n:xs.length<sizeLine)(q:Q .non (upd H l (.lst (v::xs)))):yi (.ref l) [.int 0,v] H Q:=⟨l,xs,v,rfl,rfl,h,n,q⟩
inductive xm(K:PySem.W.Frag)(vs:List V)(H:Hp)(Q:VK)(E:XK):Prop|mk(a:Addr)(x:Nat)(z:List Nat)(_:vs=[.ref a,nv x])(_:aI K H a (z.map nv))(_:z.length=8)(_:(∀n∈z,n<=100))(_:x<=1000)(_:(Qq z x=none->∀H',Same H H'->Q .non H'))(_:∀F,Qq z x=some F->∀(H':Hp)(r:Addr),H r=none->Same H H'->H' r=some (.lst (F.map nv))->Q (.ref r) H')
theorem oS:ax ["coins","x","known","change","left","kinds","count"] ["coins","x"] (ap ql):=axo
theorem oT(T:Txt K mg A):fK P w K mg base 11 "change_of" ["coins","x"] (xm K):=by
 obtain⟨f,fd,F,hm⟩:=T.MJ;obtain⟨f_fewest,fd_fewest,m_fewest,k_fewest,b_fewest,G_fewest⟩:=p0 (P:=P) (w:=w) (base:=base) T 8;obtain⟨f_count_in_change,fd_count_in_change,m_count_in_change,k_count_in_change,b_count_in_change,G_count_in_change⟩:=nM (P:=P) (w:=w) (base:=base) T;have nd:=oS.nd;refine⟨f,fd,hm,F.kp,F.binds,?_⟩;refine F.ok oS (fun vs H Q E h=>?_) (fun cf Ar outer s H vs Q E hr h=>?_)
 ·obtain⟨a,x,I,rfl,_⟩:=h;rfl
 ·obtain⟨a,x,I,rfl,ha,h8,hc,hx,kn,ks⟩:=h
  refine⟨_,(ae (aM nd 2 Dv)
   (ae (bc (dA F7 (iY G_fewest (hr.mono (by first|decide|lia)) (by rfl) m_fewest k_fewest b_fewest .nil i6 (ab (pv 0) (ab (az aB (by rfl) T.Ks bU (ab (gZ T.KF) ag)) (ab (pv 1) (ab (pv 2) ag))))) (aE T.Lo)) (ak (au fk)) aG)
   (ae (aM nd 3 (aH ag))
   (ae (aM nd 4 (pv 1))
   (ae (fW OU.never rfl (vd (by rfl) T.KA (ab (az aB (by rfl) T.Ks bU (ab (gZ T.KF) ag)) (ab ao (ab (kj gU ao) ag)))) (eU nd 5) (ae (aM nd 6 (iY G_count_in_change (hr.mono (by decide)) (by rfl) m_count_in_change k_count_in_change b_count_in_change .nil i6 (ab (pv 0) (ab (pv 5) (ab (pv 4) (ab (pv 2) ag))))))
   (ae (dr (gh PySem.F.plainAttrs_list PySem.F.slot_list_insert PySem.F.type_list_insert BR (pv 3) (ab ao (ab (pv 6) ag))))
   (ak (sn (i:=4) nd rfl (by first|exact Or.inl rfl|exact Or.inr rfl) (aD kO (pv 6) (ba gX (gZ T.KF) (aD bO (pv 5) ao))) zf)))))
   (ak (au (aD iD (aH (ab (pv 4) ag)) (pv 3))))))))),?_⟩
  exists 0,2,5;rw[vI,<-HP h8] at kn ks;have few:=zM h8 hc 8 (NX _);left;intro d hd;have s1:=Same.new (o:=.dT []) hd;have al:eV (upd H d (.dT [])) d I:=⟨[],ac,(fun key v h=>nomatch (show(none:Option V)=some v from h)),SY⟩;have an:Same H (o8 (upd H d (.dT [])) d):=iS s1 hd;generalize upd H d (.dT [])=H1 at s1 al an ⊢;left;refine jg fun tc bk=>?_;left;refine tM (bk _) ?_;left;refine⟨a,d,8,x,I,rfl,s1.seq ha,h8,hc,by decide,by decide,by decide,hx,al,fun H2 s2 bo=>?_⟩;have S:=an.trans s2;left;cases ht:dW (FM.kd I 8) x with
  |none=>
   have Y:FM.fw (FM.kd I 8) x=10000:=by unfold FM.fw;rw[ht];rfl
   rw[Y];refine gz (fun _=>?_) (fun z=>absurd (show(10000:Int)<=((10000:Nat):Int) by decide) z);left;exact kn (by rw[ht];rfl) H2 S
  |some v=>
   have Y:FM.fw (FM.kd I 8) x=v:=by unfold FM.fw;rw[ht];rfl
   have hv:=few.lt ht;rw[Y];refine gz (fun z=>by lia) (fun _=>?_);have ks:=ks _ (by rw[ht];rfl);left;refine⟨gG,fun lc ar=>?_⟩;have bq:=S.free ar;have s3:=Same.new (o:=.lst []) ar;have as:=bo.keep s3;have O:=ac (H:=H2) (a:=lc) (o:=.lst []);have av:=S.trans s3;generalize upd H2 lc (.lst [])=H3 at s3 as O av ⊢;left;refine jg fun cm b1=>?_;left;refine tM (b1 _) ?_;left;refine Gw (i:=8) (j:=1) (by decide) (by decide) (fun m σ H'=>∃(y:Nat)(ch:List Nat)(v5 v6:Option V),σ=[some (.ref a),some (nv x),some (.ref d),some (.ref lc),some (nv y),v5,v6]/\m<=7/\Same H H'/\eV H' d I/\H' lc=some (.lst (ch.map nv))/\ch.length<=m/\y<=1000/\(dW (FM.kd I (8-m)) y).isSome=true/\gD (FM.kd I 8) x=ch.reverse++gD (FM.kd I (8-m)) y) ⟨x,[],_,_,rfl,by decide,av,as,O,NX _,hx,by show(dW (FM.kd I 8) x).isSome=true;rw[ht];rfl,rfl⟩ ?_ ?_
   ·rintro m σ H4 hm ⟨y,ch,v5,v6,rfl,bs,s4,Z,L,c0,hy,M,J⟩;have co:m<7:=by have:((8:Int)-1).toNat=7:=rfl;lia
    obtain⟨vv,b2⟩:=QP.mp M;have c1:8-m=(7-m)+1:=by lia
    rw[c1] at b2 J;have em:(8:Int)-(m:Nat)=(((7-m)+1:Nat):Int):=by lia
    rw[em];obtain⟨ce,r1,_⟩:=id Z;have b3:lc≠d:=b8 L r1 (by intro z;cases z);left;refine⟨a,d,7-m,y,vv,I,rfl,s4.seq ha,h8,hc,by lia,by lia,hy,Z,b2,fun H5 c s5 c2 c3 ct c4 c5=>?_⟩;have c6:=(iS s4 hd).trans s5;have b4:=s5 _ _ (nB L b3);have c7:=mj h8 (show 7-m<8 by lia);have c8:=Er (7-m) ();left;refine gi (aI.of b4) ?_;left;refine CS b4 (fj (by rw[NV];lia)) ?_;have s6:Same H (upd H5 lc (.lst (nv c::ch.map nv))):=c6.upd bq;have b5:eV (upd H5 lc (.lst (nv c::ch.map nv))) d I:=c2.up b3.symm;have b6:=ac (H:=H5) (a:=lc) (o:=.lst (nv c::ch.map nv));generalize upd H5 lc (.lst (nv c::ch.map nv))=H6 at s6 b5 b6 ⊢;left;refine yC rfl ?_;left;refine jg fun cv bd=>?_;left;refine C1 (j:=7-m) (v:=nv (FM.cn (7-m))) (bd _) () c8.2.2 ?_;left;refine bY (yG ()) ?_;left;refine⟨y-c*FM.cn (7-m),c::ch,some (nv (7-m+1)),some (nv c),?_,by lia,s6,b5,b6,by rw[Ol];lia,by lia,?_,?_⟩
    ·show[_,_,_,_,some (V.int ((y:Int)-(c:Int)*(FM.cn (7-m):Int))),_,_]=_;rw[show(y:Int)-(c:Int)*(FM.cn (7-m):Int)=((y-c*FM.cn (7-m):Nat):Int) by rw[<-Qx];lia]
    ·rw[show 8-(m+1)=7-m by lia];exact c5
    ·rw[show 8-(m+1)=7-m by lia,J,c7,As,<-c3,TQ,Oz];rfl
   ·rintro σ H4 ⟨y,ch,v5,v6,rfl,bs,s4,Z,L,c0,hy,M,J⟩
    have e1:FM.kd I (8-((8:Int)-1).toNat)=[(1,I.getD 0 0)]:=by
     show FM.kd I 1=_;rw[mj h8 (by decide)];rfl
    rw[e1] at M J;rw[Ev M] at J;left;refine⟨c_,fun l1 h1=>?_⟩;have n1:lc≠l1:=aw L h1;left;refine lM ac (by rw[aj n1];exact L) (eP (by have:((8:Int)-1).toNat=7:=rfl;simp;lia)) fun r ca=>?_;refine ks _ r ?_ (by walk_at "same") ?_
    ·exact(s4.updN h1).free ca
    ·rw[ac,J,UU,Ux];rfl
end
structure Gz (A:cX):Prop where
 tk_pr:A.Ticket≠A.Product
 tk_ta:A.Ticket≠A.Tariff
 tk_ca:A.Ticket≠A.Card
 tk_pa:A.Ticket≠A.Park
 pa_ta:A.Park≠A.Tariff
 pa_pr:A.Park≠A.Product
 pa_ca:A.Park≠A.Card
theorem p6{H:Hp}{a b C I dx F:Addr}{fs fs':List (N_×V)}(h:H a=some (.ins C dx fs))(h':H b=some (.ins I F fs'))(n:C≠I):a≠b:=b8 h h' fun z=>n (HO.ins.inj z).1
structure m_ where
 t:OF
 gone:Bool
 p:Addr
 vl:Addr
structure Rf where
 q:Addr
 t:Addr
 l:Addr
 c:Addr
 lc:Addr
 lt:Addr
 lp:Addr
 zs:List Pz
 cds:List (Season×Addr)
 tk:List m_
def Rf.ls(r:Rf):List Addr:=[r.c,r.t,r.l,r.lc,r.lt,r.lp]++r.tk.map (·.vl)
def m_.told(e:m_):Option OF:=if e.gone=true then none else some e.t
structure a_ (A:cX) (H:Hp) (h:House) (r:Rf) (N:Nat):Prop where
 tar:ai A H r.q h.tariff r.t r.l r.zs
 tok:lP h.tariff
 tlen:h.tariff.text.length<=5000
 now:h.now<=5000000
 coins:H r.c=some (.lst (h.coins.map nv))
 c8:h.coins.length=8
 c40:∀n∈h.coins,n<=40
 cards:H r.lc=some (.lst (r.cds.map fun e=>V.ref e.2))
 cds:r.cds.map (·.1)=h.seasons
 cat:∀e∈r.cds,aq A H e.2 e.1
 cok:∀e∈r.cds,e.1.kind≠[]
 c32:r.cds.length<=32
 tks:H r.lt=some (.lst (r.tk.map fun e=>V.ref e.p))
 tkl:h.tickets=r.tk.map m_.told
 tat:∀e∈r.tk,af A H e.p e.t e.vl e.gone
 tko:∀e∈r.tk,xf e.t/\e.t.from_<=h.now
 t200:r.tk.length<=200
 pay:aT H r.lp (h.journal.map fun e=>(e.minute,e.cents))
 plen:h.journal.length<=N
 nd:r.ls.Nodup
 ndp:(r.tk.map (·.p)).Nodup
structure iV (fs:List (N_×V)) (tv cv wv dv kv pv:V):Prop where
 len:fs.length<=6
 tariff:Fd fs "tariff" tv
 coins:Fd fs "coins" cv
 now:Fd fs "now" wv
 cards:Fd fs "cards" dv
 tickets:Fd fs "tickets" kv
 payments:Fd fs "payments" pv
structure dB (A:cX) (H:Hp) (p:Addr) (U:Addr->Prop) (s:OS) (N:Nat):Prop where
 ex:∃dx fs,H p=some (.ins A.Park dx fs)/\match s with
  |none=>∃cv wv dv kv pv,iV fs .non cv wv dv kv pv
  |some h=>∃r,a_ A H h r N/\iV fs (.ref r.q) (.ref r.c) (nv h.now) (.ref r.lc) (.ref r.lt) (.ref r.lp)/\∀b∈r.ls,¬U b
theorem a_.keep{A:cX}{H H':Hp}{h:House}{r:Rf}{N:Nat}(x:a_ A H h r N)(s:Same H H'):a_ A H' h r N:=
 {x with
  tar:=x.tar.keep s
  coins:=s _ _ x.coins
  cards:=s _ _ x.cards
  cat:=fun e he=>(x.cat e he).keep s
  tks:=s _ _ x.tks
  tat:=fun e he=>(x.tat e he).keep s
  pay:=x.pay.keep s}
theorem a_.more{A:cX}{H:Hp}{h:House}{r:Rf}{N M:Nat}(x:a_ A H h r N)(n:N<=M):a_ A H h r M:={x with plen:=Od x.plen n}
theorem dB.keep{A:cX}{H H':Hp}{p:Addr}{U:Addr->Prop}{s:OS}{N:Nat}(x:dB A H p U s N)(z:Same H H'):dB A H' p U s N:=by
 obtain⟨dx,fs,h1,h2⟩:=x;refine⟨dx,fs,z _ _ h1,?_⟩;cases s with
 |none=>exact h2
 |some h=>
  obtain⟨r,a,b,c⟩:=h2;exact⟨r,a.keep z,b,c⟩
theorem dB.more{A:cX}{H:Hp}{p:Addr}{U:Addr->Prop}{s:OS}{N M:Nat}(x:dB A H p U s N)(n:N<=M):dB A H p U s M:=by
 obtain⟨dx,fs,h1,h2⟩:=x;refine⟨dx,fs,h1,?_⟩;cases s with
 |none=>exact h2
 |some h=>
  obtain⟨r,a,b,c⟩:=h2;exact⟨r,a.more n,b,c⟩
section
variable{A:cX}{H:Hp}{P p vl:Addr}{o:HO}
theorem ai.upL{q t l:Addr}{T:N9}{zs:List Pz}{acc:List V}(h:ai A H q T t l zs)(I:H P=some (.lst acc))(J:t≠P)(L:l≠P):ai A (upd H P o) q T t l zs:=by
 obtain⟨⟨dx,fs,h1,h2⟩,M,F⟩:=h;exact⟨⟨dx,fs,by rw[aj (b8 h1 I (by intro z;cases z))];exact h1,h2⟩,by rw[aj J];exact M,by rw[aj L];exact F.lst,F.all,fun z O=>(F.at_ z O).upL I⟩
theorem ai.upI{q t l C dx:Addr}{T:N9}{zs:List Pz}{fs:List (N_×V)}(h:ai A H q T t l zs)(F:H P=some (.ins C dx fs))(L:C≠A.Tariff)(M:C≠A.Product):ai A (upd H P o) q T t l zs:=by
 obtain⟨⟨dx,fs,h1,h2⟩,J,I⟩:=h;refine⟨⟨dx,fs,by rw[aj (p6 h1 F fun z=>L z.symm)];exact h1,h2⟩,by rw[aj (b8 J F (by intro z;cases z))];exact J,by rw[aj (b8 I.lst F (by intro z;cases z))];exact I.lst,I.all,fun z O=>?_⟩;have:=I.at_ z O;obtain⟨S,fs',Y,Z⟩:=id this;exact this.up (p6 Y F fun z=>M z.symm)
theorem aq.upL{s:Season}{acc:List V}(h:aq A H p s)(F:H P=some (.lst acc)):aq A (upd H P o) p s:=by
 obtain⟨dx,fs,h1,h2⟩:=h;exact⟨dx,fs,by rw[aj (b8 h1 F (by intro z;cases z))];exact h1,h2⟩
theorem aq.upI{s:Season}{C dx:Addr}{fs:List (N_×V)}(h:aq A H p s)(F:H P=some (.ins C dx fs))(n:C≠A.Card):aq A (upd H P o) p s:=by
 obtain⟨dx,fs,h1,h2⟩:=h;exact⟨dx,fs,by rw[aj (p6 h1 F fun z=>n z.symm)];exact h1,h2⟩
theorem af.upL{t:OF}{gone:Bool}{acc:List V}(h:af A H p t vl gone)(F:H P=some (.lst acc))(n:vl≠P):af A (upd H P o) p t vl gone:=by
 obtain⟨⟨dx,fs,h1,h2⟩,I⟩:=h;exact⟨⟨dx,fs,by rw[aj (b8 h1 F (by intro z;cases z))];exact h1,h2⟩,I.upL F n⟩
theorem af.upI{t:OF}{gone:Bool}{C dx:Addr}{fs:List (N_×V)}(h:af A H p t vl gone)(z:H P=some (.ins C dx fs))(n:p≠P):af A (upd H P o) p t vl gone:=by
 obtain⟨⟨dx,fs,h1,h2⟩,F⟩:=h;exact⟨⟨dx,fs,by rw[aj n];exact h1,h2⟩,F.upI z⟩
end
section
variable{A:cX}{H:Hp}{P:Addr}{o:HO}{h:House}{r:Rf}{N:Nat}
theorem yZ{r:Rf}{e:m_}(he:e∈r.tk):e.vl∈r.ls:=OK.mpr (.inr (Oq.mpr ⟨e,he,rfl⟩))
theorem a_.upL{acc:List V}(x:a_ A H h r N)(z:H P=some (.lst acc))(n:P∉r.ls):a_ A (upd H P o) h r N:=by
 have ne:∀b,b∈r.ls->b≠P:=fun b hb q=>n (q ▸ hb);have F:r.c∈r.ls:=by simp[Rf.ls]
 have I:r.t∈r.ls:=by simp[Rf.ls]
 have J:r.l∈r.ls:=by simp[Rf.ls]
 have L:r.lc∈r.ls:=by simp[Rf.ls]
 have M:r.lt∈r.ls:=by simp[Rf.ls]
 have O:r.lp∈r.ls:=by simp[Rf.ls]
 exact {x with
  tar:=x.tar.upL z (ne _ I) (ne _ J)
  coins:=by rw[aj (ne _ F)];exact x.coins
  cards:=by rw[aj (ne _ L)];exact x.cards
  cat:=fun e he=>(x.cat e he).upL z
  tks:=by rw[aj (ne _ M)];exact x.tks
  tat:=fun e he=>(x.tat e he).upL z (ne _ (yZ he))
  pay:=x.pay.upL z (ne _ O)}
theorem a_.upP{dx:Addr}{fs:List (N_×V)}(x:a_ A H h r N)(dst:Gz A)(F:H P=some (.ins A.Park dx fs)):a_ A (upd H P o) h r N:=
 {x with
  tar:=x.tar.upI F dst.pa_ta dst.pa_pr
  coins:=by rw[aj (b8 x.coins F (by intro z;cases z))];exact x.coins
  cards:=by rw[aj (b8 x.cards F (by intro z;cases z))];exact x.cards
  cat:=fun e he=>(x.cat e he).upI F dst.pa_ca
  tks:=by rw[aj (b8 x.tks F (by intro z;cases z))];exact x.tks
  tat:=fun e he=>by
   have:=x.tat e he;obtain⟨⟨I,fs',J,L⟩,M⟩:=id this;exact this.upI F (p6 J F dst.tk_pa)
  pay:=x.pay.upI F}
end
theorem aU{H H1:Hp}{a:Addr}(s:Same H H1)(f:H1 a=none):H a=none:=by
 by_cases q:H a=none
 ·exact q
 ·obtain⟨o,z⟩:=Qb.mp q;rw[s _ _ z] at f;cases f
local macro_rules|`(tactic|walk_at $s:str)=>do
 let t ←match s.getString with|"back"=>pure "_ Same.refl|=|?a Same.trans;s back"|"m"=>pure "m"|"fresh"=>pure "=|?a Fare.aU;s back"|_=>Lean.Macro.throwUnsupported
 `(tactic|fail $(Lean.Syntax.mkStrLit ("~"++t)))
section
variable{P:N3}{w:Oh}{K:PySem.W.Frag}{mg:N_->Option NU}{base:Heap}{A:cX}
theorem Jz{K:PySem.W.Frag}{H:Hp}{Q:VK}{a:Addr}{ns:List Int}(h:aI K H a (ns.map V.int))(z:0<ns.length)(q:∀m,m∈ns->(∀y,y∈ns->y<=m)->Q (.int m) H):IW K [.ref a] H Q:=⟨a,ns,rfl,h,z,q⟩
inductive xn(K:PySem.W.Frag)(vs:List V)(H:Hp)(Q:VK)(E:XK):Prop|mk(a:Addr)(z:List Nat)(m:Nat)(_:vs=[.ref a,nv m])(_:aI K H a (z.map nv))(_:Q (.bl (isCoins m z)) H)
theorem ka(T:Txt K mg A):fK P w K mg base 1 "are_coins" ["coins","most"] (xn K):=by
 have S:ax ["coins","most"] ["coins","most"] (ap qv):=axo
 have nd:=S.nd;refine aN T.Nn S (fun f M Ar outer s H vs Q E hr h=>?_)
 ·obtain⟨a,F,m,rfl,ha,I⟩:=h;refine⟨_,(ak (au (fZ (jH fB (az aB (by rfl) T.Ks bU (ab (pv 0) ag)) (aE T.L5)) (gq (jH fi (az (GS rfl) (by rfl) T.KJ sJ (ab (pv 0) ag)) (pv 1)))))),?_⟩;exists 0,2,0;unfold isCoins at I;left;refine dI ha ?_;left;rw[NV];refine gz (fun h1=>?_) (fun h1=>?_)
  ·have O:F.length=8:=by lia
   have J:(F.length==PJ.length)=true:=by rw[O];rfl
   rw[J,Op] at I;left;refine Jz (ns:=F.map OW) (by rw[On];exact ha) (by rw[NV];lia) fun x Y L=>?_;left;obtain⟨n,Z,rfl⟩:=Oq.mp Y;refine qq (Q:=Q) I (congrArg V.bl ?_);by_cases h2:n<=m
   ·rw[decide_eq_true (show OW n<=(m:Int) by exact RG.mpr h2)];refine OM.mpr fun y hy=>decide_eq_true ?_;have:=RG.mp (L _ (Oq.mpr ⟨y,hy,rfl⟩));lia
   ·rw[decide_eq_false (show ¬OW n<=(m:Int) from fun z=>h2 (RG.mp z))];apply Pf.mpr;intro z;exact h2 (of_decide_eq_true (OM.mp z n Z))
  ·have J:(F.length==PJ.length)=false:=by
    apply Pf.mpr;intro z;have:F.length=8:=eq_of_beq z;lia
   rw[J,OQ] at I;exact I
def xo(n:Nat):Bool:=decide (1<=n)&&decide (n<=4)
inductive y6(vs:List V)(H:Hp)(Q:VK)(E:XK):Prop|mk(n:Nat)(_:vs=[nv n])(_:Q (.bl (xo n)) H)
theorem qK(T:Txt K mg A):fK P w K mg base 1 "is_class" ["number"] y6:=by
 have S:ax ["number"] ["number"] (ap sQ):=axo
 have nd:=S.nd;refine aN T.No S (fun f z I outer s H vs Q E J h=>?_)
 ·obtain⟨n,rfl,F⟩:=h;refine⟨_,(ak (au (kP fi fi ao (pv 0) (aE T.Li)))),?_⟩;exists 0,1,0;left;refine qq (Q:=Q) F (congrArg V.bl ?_);unfold xo;congr 1<;>exact decide_eq_decide.mpr ()
def wa(a b cls:Nat)(card:List Nat):Bool:=decide (a<=b/\b<=5000000)&&(xo cls&&(decide (card=[])||dS card))
inductive Au(A:cX)(vs:List V)(H:Hp)(Q:VK)(E:XK):Prop|mk(s:Addr)(a b cls:Nat)(card:List Nat)(_:vs=[.ref s])(_:ah A H s a b cls card)(_:card.all fT=true)(_:card.length<=100000)(_:Q (.bl (wa a b cls card)) H)
theorem kb(T:Txt K mg A):fK P w K mg base 2 "is_stay" ["stay"] (Au A):=by
 have S:ax ["stay"] ["stay"] (ap vC):=axo
 have nd:=S.nd;refine aN T.Np S (fun f L O outer s H vs Q E J h=>?_)
 ·obtain⟨st,a,b,cls,card,rfl,hs,M,hl,z⟩:=h
  refine⟨_,(ae (bc ((mE (dA iX (aA (pv 0)) (aA (pv 0))) (jM (dA gP (aA (pv 0)) (aE T.Lg))))).pt (ak (au qh)) aG)
   (ak (au (fZ (aF (qK T) J (ab (aA (pv 0)) ag)) (gq (Az (jH fB (aA (pv 0)) de) (gq (aF (iQ T) J (ab (aA (pv 0)) ag))))))))),?_⟩
  exists 0,1,0;unfold wa at z;left;refine gz (fun h1=>?_) (fun h1=>?_)
  ·rw[decide_eq_false (),OQ] at z;left;exact z
  ·left;refine gz (fun h2=>?_) (fun h2=>?_)
   ·rw[decide_eq_false (),OQ] at z;left;exact z
   ·rw[decide_eq_true (),Op] at z;left;refine⟨cls,rfl,?_⟩;left;refine zb (fun F=>?_) (fun F=>?_)
    ·rw[F,Op] at z;left;rw[nk,j5];refine gz (fun I=>?_) (fun I=>?_)
     ·rw[decide_eq_true I] at z;exact z
     ·rw[decide_eq_false I] at z;left;exact⟨card,rfl,M,hl,z⟩
    ·rw[F] at z;exact z
structure fR (H:Hp) (ro:Addr) (rs:List Addr) (ls:List (List Nat)):Prop where
 lst:H ro=some (.lst (rs.map V.ref))
 len:rs.length=ls.length
 at_:∀(i:Nat)(a:Addr)(l:List Nat),rs[i]?=some a->ls[i]?=some l->H a=some (.lst (l.map nv))
theorem fR.keep{H H':Hp}{ro:Addr}{rs:List Addr}{ls:List (List Nat)}(h:fR H ro rs ls)(s:Same H H'):fR H' ro rs ls:=⟨s _ _ h.lst,h.len,fun i a l h1 h2=>s _ _ (h.at_ i a l h1 h2)⟩
theorem fR.ex{H:Hp}{ro:Addr}{rs:List Addr}{ls:List (List Nat)}(h:fR H ro rs ls){i:Nat}{l:List Nat}(hl:ls[i]?=some l):∃a,rs[i]?=some a/\(rs.map V.ref)[i]?=some (V.ref a)/\H a=some (.lst (l.map nv)):=by
 have hi:=(N4.mp hl).1;have e:rs[i]?=some (rs[i]'(by rw[h.len];exact hi)):=by simp
 exact⟨_,e,by rw[NZ,e];rfl,h.at_ i _ l e hl⟩
def zd(l:List Nat):List Nat:=l.map bM
theorem t_{l:List Nat}(h:l.length<=10000):(zd l).all fT=true/\(zd l).length<=100000:=by
 unfold zd;refine⟨by rw[SX];exact OM.mpr fun c _=>tI _,by rw[NV];lia⟩
inductive xp(A:cX)(vs:List V)(H:Hp)(Q:VK)(E:XK):Prop|mk(nu ro:Addr)(rs:List Addr)(a b c:Nat)(ns:List Nat)(_:vs=[.ref nu,.ref ro])(_:H nu=some (.lst [nv a,nv b,nv c]))(_:fR H ro rs [ns])(_:(∀n∈ns,n<256))(_:ns.length<=5000)(_:∀(H':Hp)(x:Addr),Same H H'->ah A H' x a b c (zd ns)->Q (.ref x) H')
theorem ke(T:Txt K mg A):fK P w K mg base 3 "told_stay" ["numbers","rows"] (xp A):=by
 have S:ax ["numbers","rows"] ["numbers","rows"] (ap qw):=axo
 have nd:=S.nd;refine aN T.Nq S (fun f M Ar outer s H vs Q E J h=>?_)
 ·obtain⟨nu,ro,rs,a,b,c,ns,rfl,F,z,hb,hl,O⟩:=h;refine⟨_,(ak (au (j7 (rW T) T.KQ J (ab (ba ay (pv 0) ao) (ab (ba ay (pv 0) ao) (ab (ba ay (pv 0) ao) (ab (aF (j3 T) J (ab (ba ay (pv 1) ao) ag)) ag))))))),?_⟩;exists 0,2,0;obtain⟨L,_,Y,Z⟩:=z.ex (i:=0) rfl;left;refine gB (j:=0) (v:=nv a) (aI.of F) rfl rfl ?_;left;refine gB (j:=1) (v:=nv b) (aI.of F) rfl rfl ?_;left;refine gB (j:=2) (v:=nv c) (aI.of F) rfl rfl ?_;left;refine gB (j:=0) (v:=.ref L) (aI.of z.lst) rfl Y ?_;left;refine⟨L,ns,rfl,aI.of Z,hb,by lia,fun H1 s1=>?_⟩;left;intro x dx nx I al;refine⟨x,dx,a,b,c,zd ns,rfl,ac,fun H2 hx fm=>⟨rfl,?_⟩⟩;exact O H2 x (s1.trans (Same.made nx I fm)) hx
theorem Kf{fs:List (N_×V)}{a b c d e f:V}(h:fs=[]\/∃tv z I J L pv,iV fs tv z I J L pv):(bf "payments" f (bf "tickets" e (bf "cards" d (bf "now" c (bf "coins" b (bf "tariff" a fs)))))).length<=6:=by
 rcases h with rfl|⟨tv,z,I,J,L,pv,F⟩
 ·exact fF (fF (fF (fF (fF (fF (NX 0))))))
 ·have M:¬("coins":N_)="tariff":=by decide+kernel
  rw[dU (u:=pv) (by repeat (first|exact F.payments|refine Fd.ne ?_ (by decide+kernel))),dU (u:=L) (by repeat (first|exact F.tickets|refine Fd.ne ?_ (by decide+kernel))),dU (u:=J) (by repeat (first|exact F.cards|refine Fd.ne ?_ (by decide+kernel))),dU (u:=I) (by repeat (first|exact F.now|refine Fd.ne ?_ (by decide+kernel))),dU (u:=z) (by repeat (first|exact F.coins|refine Fd.ne ?_ (by decide+kernel))),dU (u:=tv) F.tariff];exact F.len
inductive uR(A:cX)(vs:List V)(H:Hp)(Q:VK)(E:XK):Prop|mk(p dx c:Addr)(tv:V)(fs:List (N_×V))(_:vs=[.ref p,tv,.ref c])(_:H p=some (.ins A.Park dx fs))(_:(fs=[]\/∃tv z F I J pv,iV fs tv z F I J pv))(_:∀(H':Hp)(fs':List (N_×V))(lc lt lp:Addr),H' p=some (.ins A.Park dx fs')->iV fs' tv (.ref c) (nv 0) (.ref lc) (.ref lt) (.ref lp)->H lc=none->H lt=none->H lp=none->H' lc=some (.lst [])->H' lt=some (.lst [])->H' lp=some (.lst [])->lc≠lt->lc≠lp->lt≠lp->(∀b u,H b=some u->b≠p->H' b=some u)->Q .non H')
theorem iW(T:Txt K mg A):MethP P w K mg base 1 A.Park "begin_anew" ["self","tariff","coins"] (uR A):=by
 have S:ax ["self","tariff","coins"] ["self","tariff","coins"] (ap jb):=axo
 have nd:=S.nd;refine Bf T.MF S (fun f as Ar outer s H vs Q E hr h=>?_)
 ·obtain⟨p,dx,c,tv,fs,rfl,hp,hf,kk⟩:=h
  refine⟨_,(ae (fo (pv 0) (pv 1))
   (ae (fo (pv 0) (pv 2))
   (ae (fo (pv 0) ao)
   (ae (fo (pv 0) (aH ag))
   (ae (fo (pv 0) (aH ag))
   (ak (fo (pv 0) (aH ag)))))))),?_⟩
  exists 0,3,0
  have hl:fs.length<=6:=by
   rcases hf with rfl|⟨_,_,_,_,_,_,F⟩
   ·decide
   ·exact F.len
  left;refine e_ T.Kv T.KS hp hl (by decide) fun l1=>?_;left;refine e_ T.Kv T.Lf ac l1 (by decide) fun l2=>?_;left;refine e_ T.Kv T.KU ac l2 (by decide) fun l3=>?_;have f3:∀b u,H b=some u->b≠p->(upd (upd (upd H p (.ins A.Park dx (bf "tariff" tv fs))) p (.ins A.Park dx (bf "coins" (.ref c) (bf "tariff" tv fs)))) p (.ins A.Park dx (bf "now" (.int 0) (bf "coins" (.ref c) (bf "tariff" tv fs))))) b=some u:=fun b u e n=>by rw[aj n,aj n,aj n];exact e
  have an:=ac (H:=upd (upd H p (.ins A.Park dx (bf "tariff" tv fs))) p (.ins A.Park dx (bf "coins" (.ref c) (bf "tariff" tv fs)))) (a:=p) (o:=.ins A.Park dx (bf "now" (.int 0) (bf "coins" (.ref c) (bf "tariff" tv fs))))
  have n3:∀b,(upd (upd (upd H p (.ins A.Park dx (bf "tariff" tv fs))) p (.ins A.Park dx (bf "coins" (.ref c) (bf "tariff" tv fs)))) p (.ins A.Park dx (bf "now" (.int 0) (bf "coins" (.ref c) (bf "tariff" tv fs))))) b=none->H b=none:=fun b e=>by
   by_cases z:b=p
   ·rw[z,ac] at e;cases e
   ·rw[aj z,aj z,aj z] at e;exact e
  generalize upd (upd (upd H p _) p _) p _=H3 at f3 an n3 ⊢;left;refine⟨gG,fun lc ar=>?_⟩;have J:p≠lc:=aw an ar;left;refine e_ T.Kv T.LX (by rw[aj J];exact an) l3 (by decide) fun l4=>?_;left;refine⟨gG,fun lt L=>?_⟩;have M:p≠lt:=aw ac L
  have Y:lc≠lt:=fun q=>by
   rw[<-q,aj J.symm,ac] at L;cases L
  left;refine e_ T.Kv T.LY (by rw[aj M];exact ac) l4 (by decide) fun l5=>?_;left;refine⟨gG,fun lp I=>?_⟩;have O:p≠lp:=aw ac I
  have Z:lt≠lp:=fun q=>by
   rw[<-q,aj M.symm,ac] at I;cases I
  have al:lc≠lp:=fun q=>by
   rw[<-q,aj J.symm,aj Y,aj J.symm,ac] at I;cases I
  left;refine e_ T.Kv T.LZ (by rw[aj O];exact ac) l5 (by decide) fun l6=>?_;left;refine kk _ _ lc lt lp ac ⟨Kf hf,?_,?_,?_,?_,?_,Fd.same⟩ (n3 _ ar) ?_ ?_ ?_ ?_ ?_ Y al Z ?_
  ·repeat (first|exact Fd.same|refine Fd.ne ?_ (by decide+kernel))
  ·repeat (first|exact Fd.same|refine Fd.ne ?_ (by decide+kernel))
  ·repeat (first|exact Fd.same|refine Fd.ne ?_ (by decide+kernel))
  ·repeat (first|exact Fd.same|refine Fd.ne ?_ (by decide+kernel))
  ·repeat (first|exact Fd.same|refine Fd.ne ?_ (by decide+kernel))
  ·rw[aj M.symm,aj Y.symm] at L;exact n3 _ L
  ·rw[aj O.symm,aj Z.symm,aj O.symm,aj al.symm] at I;exact n3 _ I
  ·rw[aj J.symm,aj al,aj J.symm,aj Y,aj J.symm];exact ac
  ·rw[aj M.symm,aj Z,aj M.symm];exact ac
  ·rw[aj O.symm];exact ac
  ·intro b u e n;have e3:=f3 b u e n;rw[aj n,aj,aj n,aj,aj n,aj]
   ·exact e3
   ·exact fun q=>by rw[q,ar] at e3;cases e3
   ·exact fun q=>by
     rw[aj M.symm,aj Y.symm] at L;rw[q,L] at e3;cases e3
   ·exact fun q=>by
     rw[aj O.symm,aj Z.symm,aj O.symm,aj al.symm] at I;rw[q,I] at e3;cases e3
inductive FX(A:cX)(vs:List V)(H:Hp)(Q:VK)(E:XK):Prop|mk(p dx:Addr)(_:vs=[.ref p])(_:H p=some (.ins A.Park dx []))(_:∀(H':Hp),(∀U N,dB A H' p U none N)->(∀b u,H b=some u->b≠p->H' b=some u)->Q .non H')
theorem FY(T:Txt K mg A):oK P w K mg base 2 A.Park ["self"] (FX A):=by
 obtain⟨f_Park_begin_anew,fd_Park_begin_anew,M_Park_begin_anew,b_Park_begin_anew,G_Park_begin_anew⟩:=iW (P:=P) (w:=w) (base:=base) T;have S:ax ["self"] ["self"] (ap kz):=axo
 have nd:=S.nd;refine mr T.KN S (fun f L Z outer s H vs Q E M h=>?_)
 ·obtain⟨p,dx,rfl,z,O⟩:=h;refine⟨_,(ak (dr (wm (pv 0) T.Kv M_Park_begin_anew G_Park_begin_anew (M.mono (by decide)) b_Park_begin_anew .nil i6 (ab fk (ab (aH ag) ag))))),?_⟩;exists 0,1,0;left;refine⟨p,dx,[],rfl,z,rfl,?_⟩;left;refine⟨gG,fun c J=>?_⟩;have I:p≠c:=aw z J;left;refine⟨p,dx,c,.non,[],rfl,by rw[aj I];exact z,.inl rfl,fun H1 fs lc lt lp h1 F f1 f2 f3 g1 g2 g3 n1 n2 n3 Y=>?_⟩;left;exact O H1 (fun U N=>⟨dx,fs,h1,_,_,_,_,_,F⟩) fun b u e n=>Y b u (by rw[aj (aw e J)];exact e) n
end
structure aC (A:cX) (H:Hp) (p:Addr) (h:House) (r:Rf) (N:Nat):Prop where
 ins:∃dx fs,H p=some (.ins A.Park dx fs)/\iV fs (.ref r.q) (.ref r.c) (nv h.now) (.ref r.lc) (.ref r.lt) (.ref r.lp)
 hs:a_ A H h r N
section
variable{K:PySem.W.Frag}{mg:N_->Option NU}{A:cX}{H H':Hp}{p:Addr}{h:House}{r:Rf}{N:Nat}{Q:VK}
theorem aC.keep(x:aC A H p h r N)(s:Same H H'):aC A H' p h r N:=by
 obtain⟨⟨dx,fs,h1,h2⟩,z⟩:=x;exact⟨⟨dx,fs,s _ _ h1,h2⟩,z.keep s⟩
theorem aC.more{M:Nat}(x:aC A H p h r N)(n:N<=M):aC A H p h r M:=⟨x.ins,x.hs.more n⟩
theorem aC.i_tariff(T:Txt K mg A)(x:aC A H p h r N)(q:Q (.ref r.q) H):dJ K "tariff" (.ref p) H Q:=by
 obtain⟨⟨dx,fs,h1,h2⟩,_⟩:=x;exact Tu h1 T.Kv T.KS h2.tariff q
theorem aC.i_coins(T:Txt K mg A)(x:aC A H p h r N)(q:Q (.ref r.c) H):dJ K "coins" (.ref p) H Q:=by
 obtain⟨⟨dx,fs,h1,h2⟩,_⟩:=x;exact Tu h1 T.Kv T.Lf h2.coins q
theorem aC.i_now(T:Txt K mg A)(x:aC A H p h r N)(q:Q (nv h.now) H):dJ K "now" (.ref p) H Q:=by
 obtain⟨⟨dx,fs,h1,h2⟩,_⟩:=x;exact Tu h1 T.Kv T.KU h2.now q
theorem aC.i_cards(T:Txt K mg A)(x:aC A H p h r N)(q:Q (.ref r.lc) H):dJ K "cards" (.ref p) H Q:=by
 obtain⟨⟨dx,fs,h1,h2⟩,_⟩:=x;exact Tu h1 T.Kv T.LX h2.cards q
theorem aC.i_tickets(T:Txt K mg A)(x:aC A H p h r N)(q:Q (.ref r.lt) H):dJ K "tickets" (.ref p) H Q:=by
 obtain⟨⟨dx,fs,h1,h2⟩,_⟩:=x;exact Tu h1 T.Kv T.LY h2.tickets q
theorem aC.i_payments(T:Txt K mg A)(x:aC A H p h r N)(q:Q (.ref r.lp) H):dJ K "payments" (.ref p) H Q:=by
 obtain⟨⟨dx,fs,h1,h2⟩,_⟩:=x;exact Tu h1 T.Kv T.LZ h2.payments q
theorem dB.of{U:Addr->Prop}(x:aC A H p h r N)(hU:∀b∈r.ls,¬U b):dB A H p U (some h) N:=by
 obtain⟨⟨dx,fs,h1,h2⟩,z⟩:=x;exact⟨dx,fs,h1,r,z,h2,hU⟩
theorem dB.pk{U:Addr->Prop}(x:dB A H p U (some h) N):∃r,aC A H p h r N/\∀b∈r.ls,¬U b:=by
 obtain⟨dx,fs,h1,r,z,h2,hU⟩:=x;exact⟨r,⟨⟨dx,fs,h1,h2⟩,z⟩,hU⟩
theorem a_.ticket_some(x:a_ A H h r N){k:Nat}{e:m_}(he:r.tk[k]?=some e)(hg:e.gone=false):h.ticket k=some e.t:=by
 unfold House.ticket;rw[x.tkl,NZ,he];show(some (m_.told e)).bind _=_;unfold m_.told;rw[hg];rfl
theorem a_.ticket_none(x:a_ A H h r N){k:Nat}(z:r.tk[k]?=none\/∃e,r.tk[k]?=some e/\e.gone=true):h.ticket k=none:=by
 unfold House.ticket;rw[x.tkl,NZ];rcases z with q|⟨e,q,hg⟩
 ·rw[q];rfl
 ·rw[q];show(some (m_.told e)).bind _=_;unfold m_.told;rw[hg];rfl
theorem JA{o:Option Nat}{c:Nat}(q:Q (.bl (decide (o=some c))) H):EG (uJ o) (nv c) H Q:=by
 cases o with
 |none=>exact⟨rfl,qq (Q:=Q) q (congrArg V.bl (by rw[decide_eq_false (by intro z;cases z),decide_eq_false (by intro z;cases z)]))⟩
 |some m=>
  refine cc (qq (Q:=Q) q (congrArg V.bl (decide_eq_decide.mpr ?_)));constructor
  ·intro z;have:=N6.inj z;lia
  ·intro z;congr 1;lia
end
local macro_rules|`(tactic|walk_at $s:str)=>do
 let t ←match s.getString with|"at"=>pure "a? Fare.aC.keep;s same"|"x"=>pure "? Fare.cV;at? Fare.aC.i_tariff Fare.aC.i_coins Fare.aC.i_now Fare.aC.i_cards Fare.aC.i_tickets Fare.aC.i_payments"|_=>Lean.Macro.throwUnsupported
 `(tactic|fail $(Lean.Syntax.mkStrLit ("~"++t)))
section
variable{P:N3}{w:Oh}{K:PySem.W.Frag}{mg:N_->Option NU}{base:Heap}{A:cX}
inductive ua(A:cX)(vs:List V)(H:Hp)(Q:VK)(E:XK):Prop|mk(p:Addr)(h:House)(r:Rf)(N k:Nat)(_:vs=[.ref p,nv k])(_:aC A H p h r N)(_:(h.ticket k=none->Q .non H))(_:∀e,r.tk[k]?=some e->e.gone=false->Q (.ref e.p) H)
theorem ub(T:Txt K mg A):fK P w K mg base 1 "open_ticket" ["park","number"] (ua A):=by
 have S:ax ["park","number"] ["park","number"] (ap mJ):=axo
 have nd:=S.nd;refine aN T.Nr S (fun f J M outer s H vs Q E O h=>?_)
 ·obtain⟨p,Y,r,N,k,rfl,L,z,ks⟩:=h
  refine⟨_,(ae (bc ((mE (dA F7 (pv 1) (az aB (by rfl) T.Ks bU (ab (aA (pv 0)) ag))) (jM (dD (aA (ba ay (aA (pv 0)) (pv 1))))))).pt (ak (au fk)) aG)
   (ak (au (ba ay (aA (pv 0)) (pv 1))))),?_⟩
  exists 0,2,0;have x:=L.hs;left;refine dI (aI.of x.tks) ?_;left;rw[NV];refine gz (fun h1=>?_) (fun h1=>?_)
  ·left;exact z (x.ticket_none (.inl (Qn ())))
  ·have F:k<r.tk.length:=by lia
   have e:r.tk[k]?=some r.tk[k]:=by simp[F]
   have I:=Ps F;generalize r.tk[k]=te at e I;have Z:=x.tat te I;left;refine gB (j:=k) (v:=.ref te.p) (aI.of x.tks) rfl (by rw[NZ,e];rfl) ?_;left;refine zb (fun h2=>?_) (fun h2=>?_)
   ·left;exact z (x.ticket_none (.inr ⟨te,e,h2⟩))
   ·left;refine gB (j:=k) (v:=.ref te.p) (aI.of x.tks) rfl (by rw[NZ,e];rfl) ?_;exact ks te e h2
inductive oU(A:cX)(vs:List V)(H:Hp)(Q:VK)(E:XK):Prop|mk(p:Addr)(h:House)(r:Rf)(N c:Nat)(_:vs=[.ref p,nv c])(_:aC A H p h r N)(_:∀H',Same H H'->Q (.bl (h.inUse c)) H')
theorem oV(T:Txt K mg A):fK P w K mg base 1 "is_card_in_use" ["park","card"] (oU A):=by
 have S:ax ["park","card","ticket"] ["park","card"] (ap jz):=axo
 have nd:=S.nd;refine aN T.Nt S (fun f J Z outer s H vs Q E hr h=>?_)
 ·obtain⟨p,L,r,N,c,rfl,M,O⟩:=h;refine⟨_,(ak (au (az (zu rfl) (by rfl) T.KZ zC (ab (iE rfl nd (dj (aA (pv 0))) (dn (own:=[("ticket",2)]) rfl) (fun _ _ _ _ _=>(by exact(eU nd 2))) (fun _ _ _ _ _=>(by exact fA)) (fun _ _ _ _ _=>(by exact(fZ (jH fB (lO (K:=K) (pv 2)) (pv 1)) (gq (GG (lO (K:=K) (pv 2)))))))) ag)))),?_⟩;exists 0,2,1;have x:=M.hs;left;refine D8 (l:=r.tk) (c:=fun e=>V.ref e.p) (aI.of x.tks) (by have:=x.t200;lia) (fun _=>true) (fun e=>V.bl (decide (e.t.season=some c)&&!e.gone)) (fun e H1 he I R R' F k2=>?_) (fun D H1 f1 I h1=>?_)
  ·have ht:=(x.tat e he).keep I;dsimp only[bV,OX,Pl];left;refine⟨rfl,?_⟩;left;refine JA ?_;left;have F:=F H1 rfl (Same.refl _);refine zb (fun h2=>?_) (fun h2=>?_)
   ·rw[h2,Op] at F;left;exact F
   ·rw[h2,OQ] at F;exact F
  ·rw[OR.mpr (fun _ _=>rfl)] at h1;left;refine Ek (bs:=r.tk.map fun e=>decide (e.t.season=some c)&&!e.gone) (aI.of (by rw[h1,On];rfl)) ?_
   have Y:(r.tk.map fun e=>decide (e.t.season=some c)&&!e.gone).any id=L.inUse c:=by
    unfold House.inUse;rw[x.tkl,RY,RY];congr 1;funext e;show(decide (e.t.season=some c)&&!e.gone)=(m_.told e).any _;unfold m_.told;cases e.gone with
    |true=>rw[Bool.not_true,RN];rfl
    |false=>
     rw[Bool.not_false,R6];show _=(e.t.season==some c);by_cases q:e.t.season=some c
     ·rw[decide_eq_true q,q];exact(beq_self_eq_true _).symm
     ·rw[decide_eq_false q];symm;apply Pf.mpr;intro z;exact q (eq_of_beq z)
   rw[Y];exact O H1 I
inductive y8(A:cX)(vs:List V)(H:Hp)(Q:VK)(E:XK):Prop|mk(p:Addr)(h:House)(r:Rf)(N:Nat)(e:m_)(_:vs=[.ref p,.ref e.p])(_:aC A H p h r N)(_:e∈r.tk)(_:∀H',Same H H'->Q (nv (O1 h.tariff e.t h.now)) H')
theorem qL(T:Txt K mg A):fK P w K mg base 10 "owed_now" ["park","ticket"] (y8 A):=by
 have S:ax ["park","ticket"] ["park","ticket"] (ap sR):=axo
 have nd:=S.nd;refine aN T.NI S (fun f J O outer s H vs Q E I h=>?_)
 ·obtain⟨p,z,r,N,e,rfl,L,he,M⟩:=h;refine⟨_,(ak (au (aF (tY T) I (ab (aA (pv 0)) (ab (pv 1) (ab (aA (pv 0)) (ab (aF (tX T) I (ab (aA (pv 0)) (ab (pv 1) (ab (aA (pv 0)) ag)))) ag))))))),?_⟩;exists 0,2,0;have x:=L.hs;have tk:=x.tko e he;left;refine⟨r.q,r.t,r.l,e.p,e.vl,z.tariff,r.zs,e.t,e.gone,z.now,rfl,x.tar,x.tok,x.tat e he,tk.1,tk.2,x.now,fun H1 F=>?_⟩;left;exact⟨r.q,r.t,r.l,e.p,e.vl,z.tariff,r.zs,e.t,e.gone,z.now,rfl,x.tar.keep F,(x.tat e he).keep F,M H1 F⟩
end
theorem wb{α:Type}:∀{l:List α}{i:Nat}{v:α},l.Nodup->v∉l->(l.set i v).Nodup
 |[],_,_,h,_=>h
 |a::l,0,v,h,hv=>by
  rw[Pq] at h;show(v::l).Nodup;rw[Pq];exact⟨fun q=>hv (N5 _ q),h.2⟩
 |a::l,i+1,v,h,hv=>by
  rw[Pq] at h;show(a::l.set i v).Nodup;rw[Pq];refine⟨fun q=>?_,wb h.2 fun q=>hv (N5 _ q)⟩;rcases Ry q with z|z
  ·exact h.1 z
  ·exact hv (by rw[<-z];exact Oi ..)
theorem uc{α:Type}{l:List α}{i:Nat}{a:α}(h:l[i]?=some a):l.set i a=l:=by
 apply RF;intro j;rw[TR];by_cases q:i=j
 ·subst q;rw[if_pos rfl,if_pos (N4.mp h).1,h]
 ·rw[if_neg q]
section
variable{A:cX}{H H':Hp}{h:House}{r:Rf}{N:Nat}
theorem aT.lst{q:Addr}{l:List (Nat×Nat)}(x:aT H q l):∃xs,H q=some (.lst xs):=by
 obtain⟨z,h1,_⟩:=x;exact⟨_,h1⟩
theorem a_.ls_at(x:a_ A H h r N):∀b∈r.ls,∃xs,H b=some (.lst xs):=by
 intro b hb;rcases OK.mp hb with q|q
 ·simp only[Og,Oy,or_false] at q;rcases q with rfl|rfl|rfl|rfl|rfl|rfl
  ·exact⟨_,x.coins⟩
  ·exact⟨_,x.tar.text⟩
  ·exact⟨_,x.tar.prods.lst⟩
  ·exact⟨_,x.cards⟩
  ·exact⟨_,x.tks⟩
  ·exact x.pay.lst
 ·obtain⟨e,he,rfl⟩:=Oq.mp q;exact(x.tat e he).vou.lst
theorem a_.setT(x:a_ A H h r N)(dst:Gz A){k:Nat}{e e':m_}(he:r.tk[k]?=some e)(M:e'.p=e.p)(fr:∀b o,H b=some o->b≠e.p->b≠e.vl->H' b=some o)(as:∃Y,H' e.vl=some Y)(ht:af A H' e'.p e'.t e'.vl e'.gone)(hv:e'.vl=e.vl\/H e'.vl=none)(hok:xf e'.t/\e'.t.from_<=h.now):
  a_ A H' {h with tickets:=h.tickets.set k e'.told} {r with tk:=r.tk.set k e'} N:=by
 have hm:=Oe he;have hk:=(N4.mp he).1;have te:=x.tat e hm;obtain⟨⟨dx,fs,hp,hF⟩,av⟩:=id te;obtain⟨vs,al⟩:=av.lst;obtain⟨⟨an,fs',ar,bk⟩,bd⟩:=id ht;rw[M] at ar;obtain⟨Y,hY⟩:=as;have b1:e.vl≠e.p:=b8 al hp (by intro z;cases z)
 have s:Same (upd (upd H e.p (.ins A.Ticket an fs')) e.vl Y) H':=fun b o hb=>by
  by_cases q1:b=e.vl
  ·rw[q1,ac] at hb;rw[q1,hY];exact hb
  ·rw[aj q1] at hb;by_cases q2:b=e.p
   ·rw[q2,ac] at hb;rw[q2,ar];exact hb
   ·rw[aj q2] at hb;exact fr b o hb q2 q1
 have J:(upd H e.p (.ins A.Ticket an fs')) e.vl=some (.lst vs):=by rw[aj b1];exact al
 have bo:=yZ hm;have O:=x.nd;unfold Rf.ls at O;have b2:=(RI.mp O).2.2;have L:∀b∈[r.c,r.t,r.l,r.lc,r.lt,r.lp],b≠e.vl:=fun b hb=>b2 b hb _ (Oq.mpr ⟨e,hm,rfl⟩);have I:∀b xs,b∈[r.c,r.t,r.l,r.lc,r.lt,r.lp]->H b=some (.lst xs)->H' b=some (.lst xs):=fun b xs hb hx=>fr b _ hx (b8 hx hp (by intro z;cases z)) (L b hb);have told:h.tickets.set k e'.told=(r.tk.set k e').map m_.told:=by rw[x.tkl,TU]
 have b3:((r.tk.map (·.vl))).Nodup:=(RI.mp O).2.1;refine {tar:=((x.tar.upI hp dst.tk_ta dst.tk_pr).upL J (L _ (by simp)) (L _ (by simp))).keep s,tok:=x.tok,tlen:=x.tlen,now:=x.now,coins:=I _ _ (by simp) x.coins,c8:=x.c8,c40:=x.c40,cards:=I _ _ (by simp) x.cards,cds:=x.cds,cat:=fun c hc=>((((x.cat c hc).upI hp dst.tk_ca)).upL J).keep s,cok:=x.cok,c32:=x.c32,tks:=?_,tkl:=told,tat:=fun S F=>?_,tko:=fun S F=>?_,t200:=by show(r.tk.set k e').length<=200;rw[UH];exact x.t200,pay:=((x.pay.upI hp).upL J (L _ (by simp))).keep s,plen:=x.plen,nd:=?_,ndp:=?_}
 ·show H' r.lt=some (.lst ((r.tk.set k e').map fun e=>V.ref e.p));rw[TU,M,uc (by rw[NZ,he];rfl)];exact I _ _ (by simp) x.tks
 ·have F:S∈r.tk.set k e':=F;obtain⟨j,Z⟩:=QM.mp F;rw[TR] at Z;by_cases q:k=j
  ·rw[if_pos q,if_pos hk] at Z;cases Z;exact ht
  ·rw[if_neg q] at Z;have m2:=Oe Z;have t2:=x.tat S m2;have b4:S.p≠e.p:=fun z=>q (DE x.ndp (i:=k) (j:=j) (x:=e.p) (by rw[NZ,he];rfl) (by rw[NZ,Z];exact congrArg some z));have b5:S.vl≠e.vl:=fun z=>q (DE b3 (i:=k) (j:=j) (x:=e.vl) (by rw[NZ,he];rfl) (by rw[NZ,Z];exact congrArg some z));exact((t2.upI hp b4).upL J b5).keep s
 ·have F:S∈r.tk.set k e':=F;rcases Ry F with z|z
  ·exact x.tko S z
  ·rw[z];exact hok
 ·show([r.c,r.t,r.l,r.lc,r.lt,r.lp]++(r.tk.set k e').map (·.vl)).Nodup;rw[TU];rcases hv with z|z
  ·rw[z,uc (by rw[NZ,he];rfl)];exact x.nd
  ·have b6:e'.vl∉r.ls:=fun q=>by
    obtain⟨xs,hx⟩:=x.ls_at _ q;rw[hx] at z;cases z
   have e6:[r.c,r.t,r.l,r.lc,r.lt,r.lp]++(r.tk.map (·.vl)).set k e'.vl=([r.c,r.t,r.l,r.lc,r.lt,r.lp]++r.tk.map (·.vl)).set (6+k) e'.vl:=by
    rw[set_append_right _ _ (by simp)];congr 2;simp
   rw[e6];exact wb x.nd b6
 ·show((r.tk.set k e').map (·.p)).Nodup;rw[TU,M,uc (by rw[NZ,he];rfl)];exact x.ndp
theorem iV.put_coins{fs:List (N_×V)}{tv L z I J pv v:V}(F:iV fs tv L z I J pv):iV (bf "coins" v fs) tv v z I J pv:=
 ⟨by rw[dU F.coins];exact F.len,Fd.ne F.tariff (by decide+kernel),Fd.same,Fd.ne F.now (by decide+kernel),Fd.ne F.cards (by decide+kernel),Fd.ne F.tickets (by decide+kernel),Fd.ne F.payments (by decide+kernel)⟩
theorem iV.put_now{fs:List (N_×V)}{tv z L I J pv v:V}(F:iV fs tv z L I J pv):iV (bf "now" v fs) tv z v I J pv:=
 ⟨by rw[dU F.now];exact F.len,Fd.ne F.tariff (by decide+kernel),Fd.ne F.coins (by decide+kernel),Fd.same,Fd.ne F.cards (by decide+kernel),Fd.ne F.tickets (by decide+kernel),Fd.ne F.payments (by decide+kernel)⟩
section
variable{fs:List (N_×V)}{t:OF}{vl:Addr}{gone:Bool}
theorem gH.put_paid{x:Nat}(F:gH fs t vl gone):gH (bf "paid" (nv x) fs) {t with paid:=x} vl gone:=
 ⟨by rw[dU F.paid];exact F.len,Fd.ne F.cls (by decide+kernel),Fd.ne F.card (by decide+kernel),Fd.ne F.by_ (by decide+kernel),Fd.ne F.min (by decide+kernel),Fd.ne F.vou (by decide+kernel),Fd.same,Fd.ne F.last (by decide+kernel),Fd.ne F.lost (by decide+kernel),Fd.ne F.gone (by decide+kernel)⟩
theorem gH.put_last{o:Option Nat}(F:gH fs t vl gone):gH (bf "paid_at" (uJ o) fs) {t with last:=o} vl gone:=
 ⟨by rw[dU F.last];exact F.len,Fd.ne F.cls (by decide+kernel),Fd.ne F.card (by decide+kernel),Fd.ne F.by_ (by decide+kernel),Fd.ne F.min (by decide+kernel),Fd.ne F.vou (by decide+kernel),Fd.ne F.paid (by decide+kernel),Fd.same,Fd.ne F.lost (by decide+kernel),Fd.ne F.gone (by decide+kernel)⟩
theorem gH.put_lost(F:gH fs t vl gone):gH (bf "is_lost" (.bl true) fs) {t with lost:=true} vl gone:=
 ⟨by rw[dU F.lost];exact F.len,Fd.ne F.cls (by decide+kernel),Fd.ne F.card (by decide+kernel),Fd.ne F.by_ (by decide+kernel),Fd.ne F.min (by decide+kernel),Fd.ne F.vou (by decide+kernel),Fd.ne F.paid (by decide+kernel),Fd.ne F.last (by decide+kernel),Fd.same,Fd.ne F.gone (by decide+kernel)⟩
theorem gH.put_gone(F:gH fs t vl gone):gH (bf "is_gone" (.bl true) fs) t vl true:=
 ⟨by rw[dU F.gone];exact F.len,Fd.ne F.cls (by decide+kernel),Fd.ne F.card (by decide+kernel),Fd.ne F.by_ (by decide+kernel),Fd.ne F.min (by decide+kernel),Fd.ne F.vou (by decide+kernel),Fd.ne F.paid (by decide+kernel),Fd.ne F.last (by decide+kernel),Fd.ne F.lost (by decide+kernel),Fd.same⟩
theorem gH.put_vou{vl':Addr}{vs:List Voucher}(F:gH fs t vl gone):gH (bf "vouchers" (.ref vl') fs) {t with vouchers:=vs} vl' gone:=
 ⟨by rw[dU F.vou];exact F.len,Fd.ne F.cls (by decide+kernel),Fd.ne F.card (by decide+kernel),Fd.ne F.by_ (by decide+kernel),Fd.ne F.min (by decide+kernel),Fd.same,Fd.ne F.paid (by decide+kernel),Fd.ne F.last (by decide+kernel),Fd.ne F.lost (by decide+kernel),Fd.ne F.gone (by decide+kernel)⟩
theorem gH.of_vou{vs:List Voucher}(F:gH fs t vl gone):gH fs {t with vouchers:=vs} vl gone:=⟨F.len,F.cls,F.card,F.by_,F.min,F.vou,F.paid,F.last,F.lost,F.gone⟩
end
def LF(H H':Hp)(ls:List Addr):Prop:=∀u,((∃xs,H u=some (.lst xs))\/∃o x,H u=some (.frz o x))->u∉ls->H' u=H u
theorem LF.same{H H':Hp}{ls:List Addr}(s:Same H H'):LF H H' ls:=fun u h _=>by
 rcases h with⟨xs,h⟩|⟨o,x,h⟩
 ·rw[h,s _ _ h]
 ·rw[h,s _ _ h]
theorem LF.trans{H H1 H2:Hp}{ls F:List Addr}(a:LF H H1 ls)(b:LF H1 H2 F)(sub:∀u,u∈F->u∈ls\/H u=none):LF H H2 ls:=fun u h n=>by
 have I:=a u h n;have h1:(∃xs,H1 u=some (.lst xs))\/∃o x,H1 u=some (.frz o x):=by rw[I];exact h
 have J:u∉F:=fun q=>by
  rcases sub u q with z|z
  ·exact n z
  ·rcases h with⟨xs,h⟩|⟨o,x,h⟩<;>rw[h] at z<;>cases z
 rw[b u h1 J,I]
theorem LF.upd_in{H:Hp}{l:Addr}{o:HO}{ls:List Addr}(h:l∈ls):LF H (upd H l o) ls:=fun u _ n=>aj fun q=>n (q ▸ h)
theorem LF.upd_ins{H:Hp}{l C dx:Addr}{fs:List (N_×V)}{o:HO}{ls:List Addr}(h:H l=some (.ins C dx fs)):LF H (upd H l o) ls:=fun u F _=>aj fun q=>by
 rw[q,h] at F;rcases F with⟨xs,z⟩|⟨o,x,z⟩<;>cases z
section
variable{H:Hp}{h:House}{r:Rf}{N:Nat}
theorem a_.addP(x:a_ A H h r N){xs:List V}{t1:Addr}{en:FareSpec.Entry}(F:H r.lp=some (.lst xs))(S:H t1=some (.tup [nv en.minute,nv en.cents])):a_ A (upd H r.lp (.lst (xs++[.ref t1]))) {h with journal:=h.journal++[en]} r (N+1):=by
 have nd:=x.nd;simp only[Rf.ls,QG,Pd,Pq,Og,not_or] at nd;obtain⟨⟨n1,n2,n3,n4,n5,n6⟩,⟨n7,n8,n9,I,al⟩,⟨an,ar,J,as⟩,⟨av,L,b1⟩,⟨M,b2⟩,O,_⟩:=nd;have nv:∀e∈r.tk,e.vl≠r.lp:=fun e he q=>O (Oq.mpr ⟨e,he,q⟩);refine {x with tar:=x.tar.upL F I J,coins:=by rw[aj n5];exact x.coins,cards:=by rw[aj L];exact x.cards,cat:=fun e he=>(x.cat e he).upL F,tks:=by rw[aj M];exact x.tks,tat:=fun e he=>(x.tat e he).upL F (nv e he),pay:=?_,plen:=by show(h.journal++[en]).length<=N+1;rw[Of];have:=x.plen;simp;lia};show aT _ r.lp ((h.journal++[en]).map _);rw[Oj];obtain⟨ys,y1,Y,Z⟩:=x.pay.zip;rw[F] at Y;have e1:=HO.lst.inj (N6.inj Y)
 have:=aT.of_zip (H:=upd H r.lp (.lst (xs++[.ref t1]))) (q:=r.lp) (zs:=ys++[((en.minute,en.cents),t1)]) (by rw[ac,e1,Oj];rfl) (fun z hz=>by
  rcases OK.mp hz with q|q
  ·rw[aj (b8 (Z z q) F (by intro z;cases z))];exact Z z q
  ·cases OT.mp q;rw[aj (b8 S F (by intro z;cases z))];exact S)
 rw[Oj,y1] at this;exact this
theorem a_.setC(x:a_ A H h r N){c:Addr}{m:List Nat}(J:H c=some (.lst (m.map nv)))(L:m.length=8)(F:∀n∈m,n<=40)(I:c∉r.ls):a_ A H {h with coins:=m} {r with c:=c} N:=by
 have nd:=x.nd;refine {x with coins:=J,c8:=L,c40:=F,nd:=?_};show(c::([r.t,r.l,r.lc,r.lt,r.lp]++r.tk.map (·.vl))).Nodup;have z:(r.c::([r.t,r.l,r.lc,r.lt,r.lp]++r.tk.map (·.vl))).Nodup:=nd;rw[Pq] at z ⊢;exact⟨fun q=>I (N5 _ q),z.2⟩
end
theorem Im{i j:Int}{H:Hp}{Q:VK}(q:Q (.int (i+j)) H):IM (.int i) (.int j) H Q:=⟨i,j,rfl,rfl,q⟩
inductive rg(A:cX)(vs:List V)(H:Hp)(Q:VK)(E:XK):Prop|mk(p c:Addr)(h:House)(r:Rf)(N k x:Nat)(e:m_)(m:List Nat)(_:vs=[.ref p,.ref e.p,nv x,.ref c])(_:aC A H p h r N)(_:r.tk[k]?=some e)(_:e.gone=false)(_:H c=some (.lst (m.map nv)))(_:m.length=8)(_:(∀n∈m,n<=40))(_:c∉r.ls)(_:N<=1000000)(_:Gz A)(_:∀(H':Hp)(e':m_),e'.vl=e.vl->aC A H' p ⟨h.tariff,h.now,h.seasons,h.tickets.set k (some ⟨e.t.who,e.t.season,e.t.from_,e.t.vouchers,e.t.paid+x,some h.now,e.t.lost⟩),m,h.float_,h.journal++[⟨h.now,k,x⟩]⟩ {r with c:=c,tk:=r.tk.set k e'} (N+1)->LF H H' r.ls->(∀b o,H b=some o->(∃xs,o=.lst xs)->b∉r.ls->H' b=some o)->Q .non H')
end
section
variable{P:N3}{w:Oh}{K:PySem.W.Frag}{mg:N_->Option NU}{base:Heap}{A:cX}
theorem lT(T:Txt K mg A):MethP P w K mg base 1 A.Park "take_payment" ["self","ticket","cents","coins"] (rg A):=by
 have S:ax ["self","ticket","cents","coins"] ["self","ticket","cents","coins"] (ap g9):=axo
 have nd:=S.nd;refine Bf T.MG S (fun f c1 Ar outer s H vs Q E hr h=>?_)
 ·obtain⟨p,c,J,r,N,k,x,e,m,rfl,hp,he,hg,hc,h8,bk,bo,hN,dst,kk⟩:=h
  refine⟨_,(ae (fo (pv 0) (pv 3))
   (ae (dr (gh PySem.F.plainAttrs_list PySem.F.slot_list_append PySem.F.type_list_append eX (aA (pv 0)) (ab (gW (ab (aA (pv 0)) (ab (pv 2) ag))) ag)))
   (ae (BC (pv 1) (pv 2) GN)
   (ak (fo (pv 1) (aA (pv 0))))))),?_⟩
  exists 0,4,0;obtain⟨⟨dx,fs,Y,F⟩,hh⟩:=id hp;have av:=Oe he;left;refine e_ T.Kv T.Lf Y F.len (by decide) fun l1=>?_;have F1:=F.put_coins (v:=.ref c);have h1:=hh.upP (o:=.ins A.Park dx (bf "coins" (.ref c) fs)) dst Y;have ar:=ac (H:=H) (a:=p) (o:=.ins A.Park dx (bf "coins" (.ref c) fs));have b1:(upd H p (.ins A.Park dx (bf "coins" (.ref c) fs))) c=some (.lst (m.map nv)):=by rw[aj (b8 hc Y (by intro z;cases z))];exact hc
  have f1:LF H (upd H p (.ins A.Park dx (bf "coins" (.ref c) fs))) r.ls:=LF.upd_ins Y;generalize upd H p (.ins A.Park dx (bf "coins" (.ref c) fs))=H1 at h1 ar b1 f1 ⊢;have h2:=h1.setC b1 h8 bk bo;have c2:aC A H1 p {J with coins:=m} {r with c:=c} N:=⟨⟨dx,_,ar,F1⟩,h2⟩;left;obtain⟨xs,Z⟩:=h2.pay.lst;have Z:H1 r.lp=some (.lst xs):=Z;refine gi (aI.of Z) ?_;left;refine⟨gJ,fun t1 bq=>?_⟩;have al:=Same.new (o:=.tup [nv J.now,nv x]) bq;have h3:=h2.keep al;have as:=al _ _ ar;have O:=al _ _ Z;have b2:=ac (H:=H1) (a:=t1) (o:=.tup [nv J.now,nv x]);have f3:LF H (upd H1 t1 (.tup [nv J.now,nv x])) r.ls:=f1.trans (LF.same (ls:=r.ls) al) fun u q=>.inl q;generalize upd H1 t1 (.tup [nv J.now,nv x])=H3 at h3 as O b2 f3 ⊢;left
  have xl:xs.length<=N:=by
   obtain⟨ys,y1,y2,_⟩:=h3.pay.zip;have y2:H3 r.lp=_:=y2;rw[O] at y2;have e1:=HO.lst.inj (N6.inj y2);have:=congrArg Os y1;have pl:=h3.plen;rw[e1];simp at this ⊢;have pl:J.journal.length<=N:=pl;lia
  refine fG O (fj ()) ?_;have h4:=a_.addP h3 (en:=⟨J.now,k,x⟩) O b2;have b3:r.lp∈r.ls:=by simp[Rf.ls]
  have an:(upd H3 r.lp (.lst (xs++[.ref t1]))) p=some (.ins A.Park dx (bf "coins" (.ref c) fs)):=by rw[aj (b8 as O (by intro z;cases z))];exact as
  have f4:LF H (upd H3 r.lp (.lst (xs++[.ref t1]))) r.ls:=f3.trans (LF.upd_in (ls:=r.ls) b3) fun u q=>.inl q;have h4:a_ A (upd H3 r.lp (.lst (xs++[.ref t1]))) {J with coins:=m,journal:=J.journal++[⟨J.now,k,x⟩]} {r with c:=c} (N+1):=h4;generalize upd H3 r.lp (.lst (xs++[.ref t1]))=H4 at h4 an f4 ⊢;have te:=h4.tat e av;obtain⟨⟨I,L,M,Fe⟩,b4⟩:=id te;left;refine⟨e.p,A.Ticket,I,L,nv e.t.paid,rfl,M,T.Kt,T.Lc,Fe.paid,?_⟩;left;refine Im ?_;refine⟨I,L,M,by have:=Fe.len;lia,?_⟩;rw[show(e.t.paid:Int)+(x:Int)=((e.t.paid+x:Nat):Int) by lia];have F5:=Fe.put_paid (x:=e.t.paid+x);have b5:p≠e.p:=(p6 M an dst.tk_pa).symm;have bs:(upd H4 e.p (.ins A.Ticket I (bf "paid" (nv (e.t.paid+x)) L))) p=some (.ins A.Park dx (bf "coins" (.ref c) fs)):=by rw[aj b5];exact an
  left;refine Tu bs T.Kv T.KU F1.now ?_;left;refine e_ T.Kt T.KR ac F5.len (by decide) fun l6=>?_;have F6:=F5.put_last (o:=some J.now);obtain⟨vs,b6⟩:=b4.lst;have c0:e.vl≠e.p:=b8 b6 M (by intro z;cases z);left;have bd:upd (upd H4 e.p (.ins A.Ticket I (bf "paid" (nv (e.t.paid+x)) L))) e.p (.ins A.Ticket I (bf "paid_at" (nv J.now) (bf "paid" (nv (e.t.paid+x)) L)))=upd H4 e.p (.ins A.Ticket I (bf "paid_at" (nv J.now) (bf "paid" (nv (e.t.paid+x)) L))):=EI;rw[bd];have tko:=h4.tko e av;have h6:=h4.setT (H':=upd H4 e.p (.ins A.Ticket I (bf "paid_at" (nv J.now) (bf "paid" (nv (e.t.paid+x)) L)))) dst (k:=k) (e':=⟨⟨e.t.who,e.t.season,e.t.from_,e.t.vouchers,e.t.paid+x,some J.now,e.t.lost⟩,false,e.p,e.vl⟩) he rfl (fun b o hb n1 n2=>by rw[aj n1];exact hb) ⟨_,by rw[aj c0];exact b6⟩ ⟨⟨I,_,ac,by rw[hg] at F6;exact F6⟩,b4.upI M⟩ (.inl rfl) ⟨⟨tko.1.who,tko.1.vou,tko.1.few⟩,tko.2⟩;have f6:LF H (upd H4 e.p (.ins A.Ticket I (bf "paid_at" (nv J.now) (bf "paid" (nv (e.t.paid+x)) L)))) r.ls:=f4.trans (LF.upd_ins (ls:=r.ls) M) fun u q=>.inl q;refine kk _ ⟨⟨e.t.who,e.t.season,e.t.from_,e.t.vouchers,e.t.paid+x,some J.now,e.t.lost⟩,false,e.p,e.vl⟩ rfl ⟨⟨dx,_,by rw[aj b5];exact an,F1⟩,h6⟩ f6 ?_;rintro b o hb ⟨ys,rfl⟩ n;rw[f6 b (.inl ⟨ys,hb⟩) n];exact hb
end
abbrev jj(a:Answer):List V:=(rowOf a).map V.int
structure Uw (A:cX) (H:Hp) (p:Addr) (U:Addr->Prop) (h:House) (N:Nat) (nu ro:Addr) (rs:List Addr) (nums:List Nat) (ls:List (List Nat)):Prop where
 park:dB A H p U (some h) N
 nums:H nu=some (.lst (nums.map nv))
 rows:fR H ro rs ls
 rU:∀a∈rs,¬U a
 uo:∀u,U u->(∃xs,H u=some (.lst xs))\/∃o x,H u=some (.frz o x)
 dst:Gz A
 few:N<=1000
def y9(A:cX)(H:Hp)(p:Addr)(U:Addr->Prop)(h:House)(N:Nat)(c:OY)(Q:VK):Prop:=
 ∀(H':Hp)(r:Addr),¬U r->dB A H' p U (some (does h c).1) (N+1)->(∀u,U u->H' u=H u)->H' r=some (.lst (jj (does h c).2))->Q (.ref r) H'
inductive C2(A:cX)(c:OY)(nums:List Nat)(ls:List (List Nat))(vs:List V)(H:Hp)(Q:VK)(E:XK):Prop|mk(p nu ro rs U h N:_)(_:vs=[.ref p,.ref nu,.ref ro])(_:Uw A H p U h N nu ro rs nums ls)(_:y9 A H p U h N c Q)
section
variable{A:cX}{H H1:Hp}{p:Addr}{U:Addr->Prop}{h:House}{N:Nat}{nu ro:Addr}{rs:List Addr}{nums:List Nat}{ls:List (List Nat)}{c:OY}{Q:VK}{r:Addr}{a:Answer}
theorem Uw.u_same(x:Uw A H p U h N nu ro rs nums ls)(s:Same H H1):∀u,U u->H1 u=H u:=fun u z=>LF.same (ls:=[]) s u (x.uo u z) (by simp)
theorem Uw.fresh(x:Uw A H p U h N nu ro rs nums ls){a:Addr}(f:H a=none):¬U a:=fun q=>by
 rcases x.uo a q with⟨xs,z⟩|⟨o,y,z⟩<;>rw[f] at z<;>cases z
theorem kf{l:Addr}{F:Hp}(J:∀u,U u->H1 u=F u)(uo:∀u,U u->(∃xs,F u=some (.lst xs))\/∃o x,F u=some (.frz o x))(f:H1 l=none):¬U l:=fun I=>by
 have e:=J l I;rw[f] at e;rcases uo l I with⟨xs,z⟩|⟨o,y,z⟩<;>rw[<-e] at z<;>cases z
theorem y9.same(k:y9 A H p U h N c Q)(x:Uw A H p U h N nu ro rs nums ls)(e:does h c=(h,a))(f:H r=none)(s:Same H H1)(z:H1 r=some (.lst (jj a))):Q (.ref r) H1:=by
 refine k H1 r (x.fresh f) ?_ (x.u_same s) ?_
 ·rw[e];exact(x.park.keep s).more (PY N)
 ·rw[e];exact z
theorem bX(n:Nat):jj (Ov n)=[V.int (-(n:Int))]:=rfl
theorem dF(l:List Nat):jj (says l)=V.int 0::l.map nv:=by
 unfold jj rowOf says;simp only[Oo,QC,OC,On];rfl
theorem lU(n:Nat)(l:List Nat):jj (noWith n l)=V.int (-(n:Int))::l.map nv:=by
 unfold jj rowOf noWith;simp only[Oo,QC,OC,On];rfl
abbrev rh(A:cX):Sp:=C2 A .print [] []
end
section
variable{P:N3}{w:Oh}{K:PySem.W.Frag}{mg:N_->Option NU}{base:Heap}{A:cX}
theorem rj(T:Txt K mg A):fK P w K mg base 1 "answer_print" ["park","numbers","rows"] (rh A):=by
 have S:ax ["park","numbers","rows"] ["park","numbers","rows"] (ap k_):=axo
 have nd:=S.nd;refine aN T.Nv S (fun f O Ar outer s H vs Q E hr h=>?_)
 ·obtain⟨p,nu,ro,rs,U,z,N,rfl,x,Y⟩:=h;refine⟨_,(ak (au (aD iD (aH (ab (az aB (by rfl) T.Ks bU (ab (aA (aA (pv 0))) ag)) ag)) (aA (aA (pv 0)))))),?_⟩;exists 0,3,0;obtain⟨r,pk,hU⟩:=x.park.pk;have tar:=pk.hs.tar;left;refine dI (aI.of tar.text) ?_;left;refine⟨c_,fun M h1=>?_⟩;have I:=Same.new (o:=.lst [V.int ((z.tariff.text.map fun c=>nv c.toNat).length:Int)]) h1;have F:=ac (H:=H) (a:=M) (o:=.lst [V.int ((z.tariff.text.map fun c=>nv c.toNat).length:Int)]);generalize upd H M (.lst [V.int ((z.tariff.text.map fun c=>nv c.toNat).length:Int)])=H1 at I F ⊢;have J:=pk.keep I;have L:=J.hs.tar.text;left;refine lM F L (eP ?_) fun r2 Z=>?_
  ·have:=pk.hs.tlen;simp;lia
  refine Y.same x (a:=⟨(z.tariff.text.length:Int),[],z.tariff.text⟩) rfl (by walk_at "fresh") (I.updN Z) ?_;rw[ac,NV];unfold jj rowOf;simp only[Oo,QC,Pd,On];rfl
abbrev rk(A:cX):Sp:=C2 A .coins [] []
theorem rm(T:Txt K mg A):fK P w K mg base 1 "answer_coins" ["park","numbers","rows"] (rk A):=by
 have S:ax ["park","numbers","rows"] ["park","numbers","rows"] (ap lq):=axo
 have nd:=S.nd;refine aN T.NN S (fun f L Z outer s H vs Q E hr h=>?_)
 ·obtain⟨p,nu,ro,rs,U,M,N,rfl,x,O⟩:=h;refine⟨_,(ak (au (aD iD (aH (ab ao ag)) (aA (pv 0))))),?_⟩;exists 0,3,0;obtain⟨r,pk,hU⟩:=x.park.pk;left;refine⟨c_,fun J h1=>?_⟩;have F:=Same.new (o:=.lst [V.int 0]) h1;have z:=ac (H:=H) (a:=J) (o:=.lst [V.int 0]);generalize upd H J (.lst [V.int 0])=H1 at F z ⊢;have I:=pk.keep F;have c8:=pk.hs.c8;left;refine lM z I.hs.coins (eP (by simp;lia)) fun r2 Y=>?_;refine O.same x (a:=says M.coins) rfl (by walk_at "fresh") (F.updN Y) ?_;rw[ac,dF];rfl
inductive rp(A:cX)(vs:List V)(H:Hp)(Q:VK)(E:XK):Prop|mk(t:_)(_:C2 A (.clock t) [t] [] vs H Q E)
theorem rq(T:Txt K mg A):fK P w K mg base 1 "answer_clock" ["park","numbers","rows"] (rp A):=by
 have S:ax ["park","numbers","rows"] ["park","numbers","rows"] (ap lf):=axo
 have nd:=S.nd;refine aN T.Nw S (fun f an Ar outer s H vs Q E hr h=>?_)
 ·obtain⟨t,p,nu,ro,rs,U,I,N,rfl,x,kk⟩:=h
  refine⟨_,(ae (bc (fI (kQ fi fi (aA (pv 0)) (ba ay (pv 1) ao) (aE T.Lg))) (ak (au (aH (ab (aE T.Ky) ag)))) aG)
   (ae (fo (pv 0) (ba ay (pv 1) ao))
   (ak (au (aH (ab ao ag)))))),?_⟩
  exists 0,3,0;obtain⟨r,pk,hU⟩:=x.park.pk;have hh:=pk.hs;have L:=x.nums;left;refine gB (j:=0) (v:=nv t) (aI.of L) rfl rfl ?_;left;have M:does I (.clock t)=if t<I.now\/5000000<t then(I,Ov 1) else({I with now:=t},says []):=rfl
  refine jq (fun h1=>?_) (fun h1=>?_)
  ·have h2:t<I.now\/5000000<t:=by
    by_cases q:I.now<=t/\t<=5000000
    ·rw[decide_eq_true (),decide_eq_true ()] at h1;cases h1
    ·lia
   rw[if_pos h2] at M;left;refine⟨c_,fun l1 f1=>?_⟩;exact kk.same x M (by walk_at "fresh") (Same.new f1) (by rw[ac,bX];rfl)
  ·rw[NW,decide_eq_true_eq,decide_eq_true_eq] at h1;have h2:¬(t<I.now\/5000000<t):=by lia
   rw[if_neg h2] at M;obtain⟨⟨dx,fs,J,F⟩,_⟩:=id pk;left;refine gB (j:=0) (v:=nv t) (aI.of L) rfl rfl ?_;left;refine e_ T.Kv T.KU J F.len (by decide) fun l1=>?_;have Z:=hh.upP (o:=.ins A.Park dx (bf "now" (nv t) fs)) x.dst J;have O:=ac (H:=H) (a:=p) (o:=.ins A.Park dx (bf "now" (nv t) fs));have f3:LF H (upd H p (.ins A.Park dx (bf "now" (nv t) fs))) []:=LF.upd_ins J;generalize upd H p (.ins A.Park dx (bf "now" (nv t) fs))=H3 at Z O f3 ⊢;have al:aC A H3 p {I with now:=t} r N:=⟨⟨dx,_,O,F.put_now⟩,{Z with now:=by show t<=5000000;lia,tko:=fun e he=>⟨(Z.tko e he).1,by have:=(Z.tko e he).2;show e.t.from_<=t;lia⟩}⟩;left;refine⟨c_,fun l2 f2=>?_⟩;refine kk _ l2 (kf (fun u hu=>f3 u (x.uo u hu) (by simp)) x.uo f2) ?_ ?_ ?_
   ·rw[M];exact dB.of ((al.keep (Same.new f2)).more (PY N)) hU
   ·intro u hu;have Y:=f3 u (x.uo u hu) (by simp);rw[aj,Y];intro q;rw[q] at Y;rw[f2] at Y;rcases x.uo u hu with⟨xs,z⟩|⟨o,y,z⟩<;>rw[q] at z<;>rw[z] at Y<;>cases Y
   ·rw[M,ac,dF];rfl
inductive p9(A:cX)(vs:List V)(H:Hp)(Q:VK)(E:XK):Prop|mk(t:_)(_:C2 A (.change t) [t] [] vs H Q E)
theorem p_(T:Txt K mg A):fK P w K mg base 12 "answer_change" ["park","numbers","rows"] (p9 A):=by
 have S:ax ["park","numbers","rows","change"] ["park","numbers","rows"] (ap kt):=axo
 have nd:=S.nd;refine aN T.NQ S (fun f an Ar outer s H vs Q E hr h=>?_)
 ·obtain⟨t,p,nu,ro,rs,U,J,N,rfl,x,Y⟩:=h
  refine⟨_,(ae (bc (dA gP (ba ay (pv 1) ao) (aE T.Lk)) (ak (au (aH (ab (aE T.Ky) ag)))) aG)
   (ae (aM nd 3 (aF (oT T) hr (ab (aA (pv 0)) (ab (ba ay (pv 1) ao) ag))))
   (ae (bc (dA ph (pv 3) fk) (ak (au (aH (ab (aE T.Ln) ag)))) aG)
   (ak (au (aD iD (aH (ab ao ag)) (pv 3))))))),?_⟩
  exists 0,3,1;obtain⟨r,pk,hU⟩:=x.park.pk;have L:=pk.hs;have F:=x.nums;left;refine gB (j:=0) (v:=nv t) (aI.of F) rfl rfl ?_;left
  have z:does J (.change t)=(J,if 1000<t then Ov 1 else match Qq J.coins t with
   |none=>Ov 8
   |some d=>says d):=rfl
  refine gz (fun h1=>?_) (fun h1=>?_)
  ·rw[if_pos ()] at z;left;refine⟨c_,fun M O=>?_⟩;exact Y.same x z (by walk_at "fresh") (Same.new O) (by rw[ac,bX];rfl)
  ·rw[if_neg ()] at z;left;refine gB (j:=0) (v:=nv t) (aI.of F) rfl rfl ?_;left;refine⟨r.c,t,J.coins,rfl,aI.of L.coins,L.c8,fun n hn=>Od (L.c40 n hn) (by decide),by lia,fun en H1 Z=>?_,fun dd en H1 r1 O Z al=>?_⟩
   ·rw[en] at z;left;refine⟨c_,fun M O=>?_⟩;exact Y.same x z (by walk_at "fresh") (Z.trans (Same.new O)) (by rw[ac,bX];rfl)
   ·rw[en] at z;left;refine⟨c_,fun M f2=>?_⟩;have s2:=Same.new (o:=.lst [V.int 0]) f2;have I:=ac (H:=H1) (a:=M) (o:=.lst [V.int 0]);generalize upd H1 M (.lst [V.int 0])=H2 at s2 I ⊢;left;refine lM I (s2 _ _ al) (eP (by have:=(sZ en L.c8).1;simp;lia)) fun r2 f3=>?_;refine Y.same x z (by walk_at "fresh") (Z.trans (s2.updN f3)) ?_;rw[ac,dF];rfl
inductive oW(A:cX)(vs:List V)(H:Hp)(Q:VK)(E:XK):Prop|mk(a b:_)(_:C2 A (.takings a b) [a,b] [] vs H Q E)
theorem oX(T:Txt K mg A):fK P w K mg base 1 "answer_takings" ["park","numbers","rows"] (oW A):=by
 have S:ax ["park","numbers","rows","found","minute","cents"] ["park","numbers","rows"] (ap jC):=axo
 have nd:=S.nd;refine aN T.NO S (fun f Z Ar outer s H vs Q E hr h=>?_)
 ·obtain⟨a,b,p,nu,ro,rs,U,F,N,rfl,x,kk⟩:=h
  refine⟨_,(ae (ju (i:=3) rfl nd rfl rfl (lY rfl rfl rfl (by decide+kernel)) (dj (aA (pv 0))) (dn (own:=[("minute",4),("cents",5)]) rfl) (fun _ _ _ _ _=>(by exact(jc (K:=K) (n:=2) rfl rfl (cg (eU nd 4) (cg (eU nd 5) gm))))) (fun _ _ _ _ _=>(by exact(nY (kQ fi fi (ba (lu (K:=K) rfl) (pv 1) ao) (pv 4) (ba (lu (K:=K) rfl) (pv 1) ao))))) (fun _ _ _ _ _=>(by exact(pv 5))))
   (ak (au (aH (ab ao (ab (az (wt rfl) (by rfl) T.KP wA (ab (pv 3) ag)) (ab (az aB (by rfl) T.Ks bU (ab (pv 3) ag)) ag))))))),?_⟩
  exists 0,3,3;obtain⟨r,pk,hU⟩:=x.park.pk;have M:=pk.hs;have I:=x.nums;obtain⟨ys,O,y2,y3⟩:=M.pay.zip
  have yl:ys.length=F.journal.length:=by
   have:=congrArg Os O;simpa using this
  left;refine D8 (l:=ys) (c:=fun z=>V.ref z.2) (aI.of y2) (by have:=M.plen;have:=x.few;lia) (fun z=>decide (a<=z.1.1)&&decide (z.1.1<=b)) (fun z=>nv z.1.2) (fun z H1 hz J R R' k1 k2=>?_) (fun D H1 f1 J h1=>?_)
  ·have ht:=J _ _ (y3 z hz);dsimp only[bV,OX,Pl];refine qV (gI.of ht) rfl ?_;left;refine⟨rfl,?_⟩;left;refine gB (j:=0) (v:=nv a) (aI.of (J _ _ I)) rfl rfl ?_;left;refine bJ (k:=(b:Int)) (fun R hR=>?_) ?_
   ·left;refine gB (j:=1) (v:=nv b) (aI.of (J _ _ I)) rfl rfl ?_;exact hR
   ·have ek:(decide ((a:Int)<=(z.1.1:Int))&&decide ((z.1.1:Int)<=(b:Int)))=(decide (a<=z.1.1)&&decide (z.1.1<=b)):=by
     congr 1<;>exact decide_eq_decide.mpr ()
    refine⟨_,rfl,?_⟩;rw[ek];refine zb (fun h2=>?_) (fun h2=>?_)
    ·left;exact k1 H1 h2 (Same.refl _)
    ·exact k2 H1 h2 (Same.refl _)
  ·have e1:(ys.filter (fun z=>decide (a<=z.1.1)&&decide (z.1.1<=b))).map (fun z=>z.1.2)=(F.journal.filter fun e=>decide (a<=e.minute)&&decide (e.minute<=b)).map fun e=>e.cents:=by
    have Y:((ys.map (·.1)).filter fun z=>decide (a<=z.1)&&decide (z.1<=b)).map (·.2)=((F.journal.map fun e=>(e.minute,e.cents)).filter fun z=>decide (a<=z.1)&&decide (z.1<=b)).map (·.2):=by rw[O]
    rw[RT,On,RT,On] at Y;exact Y
   have e2:(ys.filter (fun z=>decide (a<=z.1.1)&&decide (z.1.1<=b))).map (fun z=>nv z.1.2)=((F.journal.filter fun e=>decide (a<=e.minute)&&decide (e.minute<=b)).map fun e=>e.cents).map nv:=by
    rw[<-e1,On];rfl
   rw[e2] at h1;have L:does F (.takings a b)=(F,says [((F.journal.filter fun e=>decide (a<=e.minute)&&decide (e.minute<=b)).map fun e=>e.cents).foldl (fun(x y:Nat)=>x+y) 0,(F.journal.filter fun e=>decide (a<=e.minute)&&decide (e.minute<=b)).length]):=rfl;rw[mf,<-NV (as:=F.journal.filter fun e=>decide (a<=e.minute)&&decide (e.minute<=b)) (fun e=>e.cents)] at L;generalize (F.journal.filter fun e=>decide (a<=e.minute)&&decide (e.minute<=b)).map (fun e=>e.cents)=cs at h1 L;left;refine Bl (ns:=cs.map OW) (aI.of (by rw[h1,On];rfl)) ?_;rw[oR];left;refine dI (aI.of h1) ?_;rw[NV];left;refine⟨uF,fun l2 f2=>?_⟩;refine kk.same x L (by walk_at "fresh") (J.trans (Same.new f2)) ?_;rw[ac,dF];rfl
theorem a_.open_eq{H:Hp}{h:House}{r:Rf}{N:Nat}(x:a_ A H h r N):((r.tk.zipIdx).filter fun z=>!z.1.gone).map (·.2)=h.open_:=by
 unfold House.open_
 have I:r.tk.zipIdx.filter (fun z=>!z.1.gone)=r.tk.zipIdx.filter ((fun k=>(h.ticket k).isSome) ∘ (·.2)):=by
  refine filter_congr fun z J=>?_;have F:=R9.mp J;show(!z.1.gone)=(h.ticket z.2).isSome;cases hg:z.1.gone with
  |false=>rw[x.ticket_some F hg];rfl
  |true=>rw[x.ticket_none (.inr ⟨_,F,hg⟩)];rfl
 rw[I,<-RT,zipIdx_map_snd,x.tkl,NV,range_eq_range']
abbrev rA(A:cX):Sp:=C2 A .stays [] []
theorem rB(T:Txt K mg A):fK P w K mg base 1 "answer_stays" ["park","numbers","rows"] (rA A):=by
 have S:ax ["park","numbers","rows","found","number","ticket"] ["park","numbers","rows"] (ap lr):=axo
 have nd:=S.nd;refine aN T.NP S (fun f an Ar outer s H vs Q E hr h=>?_)
 ·obtain⟨p,nu,ro,rs,U,F,N,rfl,x,kk⟩:=h
  refine⟨_,(ae (ju (i:=3) rfl nd rfl rfl (lY rfl rfl rfl (by decide+kernel)) (AR (by rfl) T.Ls (ab (aA (pv 0)) ag)) (dn (own:=[("number",4),("ticket",5)]) rfl) (fun _ _ _ _ _=>(by exact(jc (K:=K) (n:=2) rfl rfl (cg (eU nd 4) (cg (eU nd 5) gm))))) (fun _ _ _ _ _=>(by exact(nY (fI (dD (lO (K:=K) (pv 5))))))) (fun _ _ _ _ _=>(by exact(pv 4))))
   (ak (au (aD iD (aH (ab ao (ab (az aB (by rfl) T.Ks bU (ab (pv 3) ag)) ag))) (pv 3))))),?_⟩
  exists 0,3,3;obtain⟨r,pk,hU⟩:=x.park.pk;have I:=pk.hs;have t200:=I.t200;left;refine⟨r.lt,_,rfl,aI.of I.tks,?_⟩;have rn:=vU (K:=K) (aI.of I.tks);rw[NV,<-QT (i:=0)] at rn;refine Gs (l:=r.tk.zipIdx) rn (by rw[QT];lia) (fun z=>!z.1.gone) (fun _ z v H'=>v=nv z.2) ?_ ?_ ?_ ?_
  ·rintro P z v L H7 _ rfl s;rfl
  ·rintro P z v L acc al _ rfl hP;rfl
  ·intro P i z X L acc hx s6 hP ar hX R R' k1 k2;obtain⟨tt,u,rfl,M,hu⟩:=hX;rw[Su] at hx;obtain⟨e,he,rfl⟩:=Oc.mp hx;rw[NZ,he] at hu;cases hu;have ht:=(I.tat e (Oe he)).keep s6;dsimp only[bV,OX,Pl];refine qV (gI.of M) rfl ?_;left;refine⟨rfl,?_⟩;left;refine jq (fun h2=>?_) (fun h2=>?_)
   ·left;exact k1 _ L (by show(!e.gone)=true;rw[h2];rfl) (Same.refl _) (by show V.int _=V.int _;rw[RE])
   ·exact k2 L (by show(!e.gone)=false;rw[h2];rfl) (Same.refl _)
  ·intro D H1 zs f1 s1 h1 O Y
   have e1:zs.map (·.2)=F.open_.map nv:=by
    rw[<-I.open_eq,<-O,On,On];exact Om fun z O=>Y z O
   have ol:F.open_.length<=200:=by
    rw[<-I.open_eq,NV];refine Od (QL ..) ?_;rw[QT];exact t200
   rw[e1] at h1;left;refine dI (aI.of h1) ?_;left;refine⟨gJ,fun l2 f2=>?_⟩;have Z:=Same.new (o:=.lst [V.int 0,V.int ((F.open_.map nv).length:Int)]) f2;have J:=ac (H:=H1) (a:=l2) (o:=.lst [V.int 0,V.int ((F.open_.map nv).length:Int)]);generalize upd H1 l2 (.lst [V.int 0,V.int ((F.open_.map nv).length:Int)])=H2 at Z J ⊢;left;refine lM J (Z _ _ h1) (eP (by simp;lia)) fun r2 f3=>?_;refine kk.same x (a:=says (F.open_.length::F.open_)) rfl (by walk_at "fresh") (s1.trans (Z.updN f3)) ?_;rw[ac,dF,NV];rfl
end
theorem ud(bs:OB):zd (bs.map UInt8.toNat)=FM.sg bs:=by
 unfold zd FM.sg;rw[On];rfl
theorem oY{a b cls:Nat}{bs:OB}(h:wa a b cls (zd (bs.map UInt8.toNat))=true):∃w:Ob,whoOf cls bs=some w/\w.cls=cls/\dC w.card=zd (bs.map UInt8.toNat)/\Bi w/\a<=b/\b<=5000000:=by
 unfold wa xo at h;rw[ud] at h ⊢;simp only[NW,Pa,decide_eq_true_eq] at h;obtain⟨⟨h1,h2⟩,⟨O,I⟩,F⟩:=h;rw[tf,fN] at F;unfold whoOf;have S:Sc=4:=rfl
 have L:¬(cls=0\/Sc<cls\/(bs≠[]/\SS bs=false)):=by
  rintro(q|q|⟨M,J⟩)
  ·lia
  ·lia
  ·rcases F with z|z
   ·exact M z
   ·rw[z] at J;cases J
 rw[if_neg L];by_cases hb:bs=[]
 ·subst hb;exact⟨⟨cls,none⟩,rfl,rfl,rfl,⟨I,by intro z;cases z⟩,h1,h2⟩
 ·refine⟨⟨cls,some bs⟩,by rw[if_neg hb],rfl,?_,⟨I,fun z=>hb (N6.inj z)⟩,h1,h2⟩;show bs.map UInt8.toNat=FM.sg bs;exact(oH (ny (F.resolve_left hb))).symm
theorem r6{a b cls most:Nat}{bs:OB}{f:Ob->Answer}(h:wa a b cls (zd (bs.map UInt8.toNat))=false):ofStay a b most cls bs f=Ov 1:=by
 unfold ofStay;have hl:LAST=5000000:=rfl;by_cases q:b<a\/LAST<b\/most<b-a
 ·rw[if_pos q]
 ·rw[if_neg q]
  have e:whoOf cls bs=none:=by
   unfold whoOf;rw[if_pos];unfold wa xo at h;rw[ud] at h;rw[decide_eq_true (show a<=b/\b<=5000000 by lia),Op] at h;have F:Sc=4:=rfl;by_cases z:1<=cls/\cls<=4
   ·rw[decide_eq_true z.1,decide_eq_true z.2,Op,Op,SM,decide_eq_false_iff_not,tf,fN] at h;exact .inr (.inr h)
   ·lia
  rw[e]
theorem r9{a b cls most:Nat}{bs:OB}{w:Ob}{f:Ob->Answer}(z:whoOf cls bs=some w)(h1:a<=b)(h2:b<=5000000)(F:b-a<=most):ofStay a b most cls bs f=f w:=by
 unfold ofStay;have hl:LAST=5000000:=rfl;rw[if_neg (),z]
theorem wc{a b cls most:Nat}{bs:OB}{f:Ob->Answer}(z:most<b-a):ofStay a b most cls bs f=Ov 1:=by
 unfold ofStay;rw[if_pos (.inr (.inr z))]
theorem jL{l:List (List Nat)}{i:Nat}{x:List Nat}(h:l[i]?=some x):(l.take (i+1)).flatten=(l.take i).flatten++x:=by
 rw[Pg,h,flatten_append];simp
theorem Bm{c:Nat}:∀{l:List (List Nat)},(∀x∈l,x.length<=c)->l.flatten.length<=c*l.length
 |[],_=>by simp
 |x::l,h=>by
  have F:=Bm (l:=l) fun y z=>h y (N5 _ z);have I:=h x (Oi ..);rw[QJ,Of,Ol,Nat.mul_add];lia
theorem kh{c i:Nat}{l:List (List Nat)}(h:∀x∈l,x.length<=c):(l.take i).flatten.length<=c*l.length:=by
 refine Od (Bm fun x z=>h x (Ss z)) (PR c ?_);rw[QE];exact QI _ _
theorem qM(x:FrCover.Shelf)(g:Array (Option Nat))(a n:Nat):∀(f i:Nat),(Sv x g a n f i).length<=f
 |0,_=>NX 0
 |f+1,i=>by
  unfold Sv;split
  ·exact OA _
  ·split
   ·rw[Ol];exact Uj (qM x g a n f _)
   ·exact OA _
theorem Io{T:N9}{w:Ob}{a n:Nat}:SU T w a (a+n)=nH T w a n 0:=by
 unfold SU nH;rw[show a+n-a=n by lia]
theorem Ew{T:N9}{w:Ob}{a n:Nat}:(nH T w a n 0).length<=n:=qM ..
theorem qN{α β:Type}{f:α->Option β}{v:β}:∀{l:List α}{i:Nat}{x:α},l[i]?=some x->(∀y∈l.take i,f y=none)->f x=some v->l.findSome? f=some v
 |[],i,x,h,_,_=>by simp at h
 |y::l,0,x,h,_,hv=>by
  cases h;rw[PM,hv]
 |y::l,i+1,x,h,F,hv=>by
  rw[PM,F y (by rw[RQ];exact Oi ..)];exact qN (l:=l) (i:=i) h (fun z I=>F z (by rw[RQ];exact N5 _ I)) hv
theorem qO{α β:Type}{f:α->Option β}:∀{l:List α},(∀y∈l,f y=none)->l.findSome? f=none
 |[],_=>rfl
 |y::l,h=>by
  rw[PM,h y (Oi ..)];exact qO fun z F=>h z (N5 _ F)
theorem Ex(l:List Nat):jj ⟨1,l,[]⟩=V.int 1::l.map nv:=by
 unfold jj rowOf;simp only[Oo,QC,OC,On];rfl
theorem gA{h:House}{k:Nat}{t:OF}{f:OF->House×Answer}(e:h.ticket k=some t):ofTicket h k f=f t:=by
 unfold ofTicket;rw[e]
structure gM (A:cX) (H:Hp) (p:Addr) (U:Addr->Prop) (h:House) (N:Nat) (r:Rf) (k:Nat) (e:m_):Prop where
 pk:aC A H p h r N
 hU:∀b∈r.ls,¬U b
 he:r.tk[k]?=some e
 hg:e.gone=false
inductive spT(A:cX)(c:OY)(k:Nat)(nums:List Nat)(ls:List (List Nat))(vs:List V)(H:Hp)(Q:VK)(E:XK):Prop|mk(p nu ro rs U h N r e:_)(_:vs=[.ref p,.ref e.p,.ref nu,.ref ro])(_:Uw A H p U h N nu ro rs (k::nums) ls)(_:gM A H p U h N r k e)(_:y9 A H p U h N c Q)
section
variable{A:cX}{H H1:Hp}{p:Addr}{U:Addr->Prop}{h:House}{N:Nat}{nu ro:Addr}{rs:List Addr}{nums:List Nat}{ls:List (List Nat)}{c:OY}{Q:VK}{r:Rf}{k:Nat}{e:m_}
theorem gM.mem(x:gM A H p U h N r k e):e∈r.tk:=Oe x.he
theorem gM.told(x:gM A H p U h N r k e):h.ticket k=some e.t:=x.pk.hs.ticket_some x.he x.hg
theorem gM.tat(x:gM A H p U h N r k e):af A H e.p e.t e.vl e.gone:=x.pk.hs.tat e x.mem
theorem gM.tko(x:gM A H p U h N r k e):xf e.t/\e.t.from_<=h.now:=x.pk.hs.tko e x.mem
theorem Uw.u_lf(x:Uw A H p U h N nu ro rs nums ls){l:List Addr}(f:LF H H1 l)(hU:∀b∈l,¬U b):∀u,U u->H1 u=H u:=fun u z=>f u (x.uo u z) fun q=>hU u q z
theorem ue{l:Addr}{o:HO}{F:Hp}(J:∀u,U u->H1 u=F u)(uo:∀u,U u->(∃xs,F u=some (.lst xs))\/∃o x,F u=some (.frz o x))(f:H1 l=none):∀u,U u->upd H1 l o u=F u:=fun u I=>by
 rw[aj,J u I];intro q;have e:=J u I;rw[q,f] at e;rcases uo u I with⟨xs,z⟩|⟨o,y,z⟩<;>rw[q,<-e] at z<;>cases z
end
section
variable{A:cX}{H:Hp}{h:House}{r:Rf}{N:Nat}
theorem a_.addC(x:a_ A H h r N){c:Addr}{s:Season}(M:aq A H c s)(O:s.kind≠[])(hl:r.cds.length<32):a_ A (upd H r.lc (.lst ((r.cds.map fun e=>V.ref e.2)++[.ref c]))) {h with seasons:=h.seasons++[s]} {r with cds:=r.cds++[(s,c)]} N:=by
 have nd:=x.nd;simp only[Rf.ls,QG,Pd,Pq,Og,not_or] at nd;obtain⟨⟨n1,n2,S,n4,n5,n6⟩,⟨n7,Y,n9,Z,al⟩,⟨F,an,ar,as⟩,⟨I,J,L⟩,⟨av,b1⟩,b2,_⟩:=nd;have z:=x.cards;have nv:∀e∈r.tk,e.vl≠r.lc:=fun e he q=>L (Oq.mpr ⟨e,he,q⟩);refine {x with tar:=x.tar.upL z Y F,coins:=by rw[aj S];exact x.coins,cards:=?_,cds:=?_,cat:=fun e he=>?_,cok:=fun e he=>?_,c32:=?_,tks:=by rw[aj (fun q=>I q.symm)];exact x.tks,tat:=fun e he=>(x.tat e he).upL z (nv e he),pay:=x.pay.upL z (fun q=>J q.symm)}
 ·show upd H r.lc _ r.lc=some (.lst ((r.cds++[(s,c)]).map _));rw[ac,Oj];rfl
 ·show(r.cds++[(s,c)]).map (·.1)=h.seasons++[s];rw[Oj,x.cds];rfl
 ·rcases OK.mp he with q|q
  ·exact(x.cat e q).upL z
  ·cases OT.mp q;exact M.upL z
 ·rcases OK.mp he with q|q
  ·exact x.cok e q
  ·cases OT.mp q;exact O
 ·show(r.cds++[(s,c)]).length<=32;rw[Of];exact hl
theorem a_.addT(x:a_ A H h r N){e:m_}(S:af A H e.p e.t e.vl e.gone)(hg:e.gone=false)(hok:xf e.t/\e.t.from_<=h.now)(hl:r.tk.length<200)(F:e.vl∉r.ls)(Y:∀z∈r.tk,z.p≠e.p):a_ A (upd H r.lt (.lst ((r.tk.map fun e=>V.ref e.p)++[.ref e.p]))) {h with tickets:=h.tickets++[some e.t]} {r with tk:=r.tk++[e]} N:=by
 have nd:=x.nd;simp only[Rf.ls,QG,Pd,Pq,Og,not_or] at nd;obtain⟨⟨n1,n2,n3,Z,n5,n6⟩,⟨n7,n8,n9,al,an⟩,⟨ar,J,as,av⟩,⟨L,b1,b2⟩,⟨M,O⟩,b3,_⟩:=nd;have I:=x.tks;have nv:∀e∈r.tk,e.vl≠r.lt:=fun e he q=>O (Oq.mpr ⟨e,he,q⟩);have ne:e.vl≠r.lt:=fun q=>F (by rw[q];simp[Rf.ls]);refine {x with tar:=x.tar.upL I n9 J,coins:=by rw[aj Z];exact x.coins,cards:=by rw[aj L];exact x.cards,cat:=fun e he=>(x.cat e he).upL I,tks:=?_,tkl:=?_,tat:=fun z he=>?_,tko:=fun z he=>?_,t200:=?_,pay:=x.pay.upL I (fun q=>M q.symm),nd:=?_,ndp:=?_}
 ·show upd H r.lt _ r.lt=some (.lst ((r.tk++[e]).map _));rw[ac,Oj];rfl
 ·show h.tickets++[some e.t]=(r.tk++[e]).map m_.told;rw[Oj,x.tkl];congr 1;show[some e.t]=[m_.told e];unfold m_.told;rw[hg];rfl
 ·rcases OK.mp he with q|q
  ·exact(x.tat z q).upL I (nv z q)
  ·cases OT.mp q;exact S.upL I ne
 ·rcases OK.mp he with q|q
  ·exact x.tko z q
  ·cases OT.mp q;exact hok
 ·show(r.tk++[e]).length<=200;rw[Of];exact hl
 ·show([r.c,r.t,r.l,r.lc,r.lt,r.lp]++(r.tk++[e]).map (·.vl)).Nodup;rw[Oj,<-Oz];rw[RI];refine⟨x.nd,by simp,fun a ha b hb q=>?_⟩;have:b=e.vl:=by simpa using hb
  exact F (by rw[<-this,<-q];exact ha)
 ·show((r.tk++[e]).map (·.p)).Nodup;rw[Oj,RI];refine⟨x.ndp,by simp,fun a ha b hb q=>?_⟩;have:b=e.p:=by simpa using hb
  obtain⟨z,m2,rfl⟩:=Oq.mp ha;exact Y z m2 (q.trans this)
inductive rC(A:cX)(vs:List V)(H:Hp)(Q:VK)(E:XK):Prop|mk(a b c bs:_)(_:bs.length<=40)(_:C2 A (.price a b c bs) [a,b,c] [bs.map UInt8.toNat] vs H Q E)
end
section
variable{P:N3}{w:Oh}{K:PySem.W.Frag}{mg:N_->Option NU}{base:Heap}{A:cX}
theorem rD(T:Txt K mg A):fK P w K mg base 7 "answer_price" ["park","numbers","rows"] (rC A):=by
 have S:ax ["park","numbers","rows","stay"] ["park","numbers","rows"] (ap lh):=axo
 have nd:=S.nd;refine aN T.Ny S (fun f al Ar outer s H vs Q E J h=>?_)
 ·obtain⟨a,b,c,bs,hb,p,nu,ro,rs,U,F,N,rfl,x,Y⟩:=h
  refine⟨_,(ae (aM nd 3 (aF (ke T) J (ab (pv 1) (ab (pv 2) ag))))
   (ae (bc (fI (dD (aF (kb T) J (ab (pv 3) ag)))) (ak (au (aH (ab (aE T.Ky) ag)))) aG)
   (ak (au (aH (ab ao (ab (aF (qI T) J (ab (aA (pv 0)) (ab (pv 3) ag))) ag))))))),?_⟩
  exists 0,3,1;obtain⟨r,pk,hU⟩:=x.park.pk;have hh:=pk.hs;have z:=t_ (l:=bs.map UInt8.toNat) (by rw[NV];lia);left;refine⟨nu,ro,rs,a,b,c,bs.map UInt8.toNat,rfl,x.nums,x.rows,jE bs,by rw[NV];lia,fun H1 st L hs=>?_⟩;left;refine⟨st,a,b,c,zd (bs.map UInt8.toNat),rfl,hs,z.1,z.2,?_⟩;left;have I:does F (.price a b c bs)=(F,ofStay a b 5000000 c bs fun w=>says [Rj F.tariff w a b]):=rfl;refine jq (fun h1=>?_) (fun h1=>?_)
  ·rw[r6 h1] at I;left;refine⟨c_,fun l1 M=>?_⟩;exact Y.same x I (by walk_at "fresh") (L.trans (Same.new M)) (by rw[ac,bX];rfl)
  ·obtain⟨w,e1,e2,e3,e4,Z,e6⟩:=oY h1;rw[r9 e1 Z e6 ()] at I;have O:=pk.keep L;have tar:=O.hs.tar;left;refine⟨r.q,st,r.t,r.l,F.tariff,r.zs,w,a,b,rfl,tar,hh.tok,by rw[e2,e3];exact hs,e4,Z,e6,fun H2 s2=>?_⟩;left;refine⟨gJ,fun l1 M=>?_⟩;exact Y.same x I (by walk_at "fresh") ((L.trans s2).trans (Same.new M)) (by rw[ac,dF];rfl)
inductive uS(A:cX)(vs:List V)(H:Hp)(Q:VK)(E:XK):Prop|mk(a b c bs:_)(_:bs.length<=40)(_:C2 A (.row a b c bs) [a,b,c] [bs.map UInt8.toNat] vs H Q E)
theorem uT(T:Txt K mg A):fK P w K mg base 6 "answer_row" ["park","numbers","rows"] (uS A):=by
 have S:ax ["park","numbers","rows","stay","offers","rests","bought","answer","product"] ["park","numbers","rows"] (ap oo):=axo
 have nd:=S.nd;refine aN T.Nz S (fun f b4 Ar outer s H vs Q E O h=>?_)
 ·obtain⟨a,b,c,bs,hb,p,nu,ro,rs,U,I,N,rfl,x,kk⟩:=h
  refine⟨_,(ae (aM nd 3 (aF (ke T) O (ab (pv 1) (ab (pv 2) ag))))
   (ae (bc ((mE (fI (dD (aF (kb T) O (ab (pv 3) ag)))) (jM (dA gP (aD bO (aA (pv 3)) (aA (pv 3))) (aE T.KO))))).pt (ak (au (aH (ab (aE T.Ky) ag)))) aG)
   (ae (aM nd 4 (aF (j8 T) O (ab (aA (pv 0)) (ab (pv 3) ag))))
   (ae (aM nd 5 (aF (lQ T) O (ab (pv 4) (ab (pv 3) ag))))
   (ae (aM nd 6 (aF (CF T) O (ab (pv 4) (ab (pv 5) (ab (pv 3) ag)))))
   (ae (aM nd 7 (aH (ab ao (ab (ba ay (pv 5) ao) (ab (az aB (by rfl) T.Ks bU (ab (pv 6) ag)) ag)))))
   (ae (fW OU.never rfl (dj (pv 6)) (eU nd 8) (ak (dr (gh PySem.F.plainAttrs_list PySem.F.slot_list_extend PySem.F.type_list_extend gv (pv 7) (ab (c9 jQ (by rfl) T.KL (by rfl) (ab (pv 8) ag)) ag)))))
   (ak (au (pv 7)))))))))),?_⟩
  exists 0,3,6;obtain⟨r,pk,hU⟩:=x.park.pk;have hh:=pk.hs;have Y:=t_ (l:=bs.map UInt8.toNat) (by rw[NV];lia);left;refine⟨nu,ro,rs,a,b,c,bs.map UInt8.toNat,rfl,x.nums,x.rows,jE bs,by rw[NV];lia,fun H1 st s1 hs=>?_⟩;left;refine⟨st,a,b,c,zd (bs.map UInt8.toNat),rfl,hs,Y.1,Y.2,?_⟩;left;have L:does I (.row a b c bs)=(I,ofStay a b 10080 c bs fun w=>says ((Sx I.tariff w a b).getD 0::(SU I.tariff w a b).length::(SU I.tariff w a b).flatMap boughtNums)):=rfl;refine jq (fun h1=>?_) (fun h1=>?_)
  ·rw[r6 h1] at L;left;refine⟨c_,fun l1 f1=>?_⟩;exact kk.same x L (by walk_at "fresh") (s1.trans (Same.new f1)) (by rw[ac,bX];rfl)
  ·obtain⟨w,e1,e2,e3,e4,e5,e6⟩:=oY h1;left;refine gz (fun h2=>?_) (fun h2=>?_)
   ·rw[wc ()] at L;left;refine⟨c_,fun l1 f1=>?_⟩;exact kk.same x L (by walk_at "fresh") (s1.trans (Same.new f1)) (by rw[ac,bX];rfl)
   ·rw[r9 e1 e5 e6 ()] at L;obtain⟨n,rfl⟩:∃n,b=a+n:=⟨b-a,by lia⟩;have hn:n<=10080:=by lia
    have tok:=hh.tok;have av:∀p∈I.tariff.products,p.days.length=7:=fun p hp=>(tok.pr p hp).d7;rw[yz tok.ok av e4.cls,Io,Uu] at L;have b1:=pk.keep s1;have tar:=b1.hs.tar;have M:ah A H1 st a (a+n) w.cls (dC w.card):=by rw[e2,e3];exact hs
    left;refine⟨r.q,st,r.t,r.l,I.tariff,r.zs,w,a,a+n,rfl,tar,tok,M,e4.card,e5,by lia,by lia,fun H2 of os f2 s2 Z al=>?_⟩;left;refine⟨of,st,I.tariff,os,w,a,n,rfl,Z,al,tok,M.keep s2,e4.cls,by lia,hn,fun H3 rr f3 s3 ar=>?_⟩;left;refine⟨of,rr,st,I.tariff,os,w,a,n,rfl,Z.keep s3,al,tok,e4.cls,aI.of ar,(M.keep s2).keep s3,hn,fun H4 bq f4 s4 b2=>?_⟩;left;refine gB (j:=0) (v:=nv (bK I.tariff w a n 0)) (aI.of (s4 _ _ ar)) rfl (by rw[NZ,gL ()];rfl) ?_;left;obtain⟨zs,z1,z2,z3⟩:=b2;refine dI (aI.of z2) ?_;left;refine⟨uF,fun an f5=>?_⟩
    have zl:zs.length=(nH I.tariff w a n 0).length:=by
     have:=congrArg Os z1;simpa using this
    have rl:=Ew (T:=I.tariff) (w:=w) (a:=a) (n:=n)
    have fl:∀i,(((nH I.tariff w a n 0).map bl).take i).flatten.length<=4*n:=fun i=>by
     refine Od (kh (c:=4) fun y hy=>?_) (PR 4 (by rw[NV];exact rl));obtain⟨z,_,rfl⟩:=Oq.mp hy;exact NX 4
    rw[NV,zl];left;refine kE (Hb:=H4) (xs:=zs.map fun z=>V.ref z.2) (Same.new f5) (aI.of z2) (fun i σ H'=>∃v8,σ=[some (.ref p),some (.ref nu),some (.ref ro),some (.ref st),some (.ref of),some (.ref rr),some (.ref bq),some (.ref an),v8]/\Same H4 H'/\H' an=some (.lst ([V.int 0,nv (bK I.tariff w a n 0),nv (nH I.tariff w a n 0).length]++(((nH I.tariff w a n 0).map bl).take i).flatten.map nv))) ⟨_,rfl,Same.new f5,ac⟩ (fun i σ H' h=>by obtain⟨_,_,h,_⟩:=h;exact h) ?_ ?_
    ·rintro i xv σ H' hx ⟨v8,rfl,s5,J⟩;rw[NZ] at hx;obtain⟨z,hz,rfl⟩:=Oc.mp hx;have as:((nH I.tariff w a n 0).map bl)[i]?=some z.1:=by rw[<-z1,NZ,hz];rfl
     have ht:=s5 _ _ (z3 z (Oe hz));have b3:=fl (i+1);rw[jL as,Of] at b3;left;refine gi (aI.of J) ?_;left;refine⟨z.2,z.1.map nv,rfl,.inr (gI.of ht),fun l6 f6=>?_⟩;have n6:an≠l6:=aw J f6;left;refine gS (by rw[aj n6];exact J) ac (eP (by simp only[Of,NV,Ol,P6];lia)) ?_;left;refine⟨_,rfl,(s5.updN f6).upd f5,?_⟩;rw[ac,jL as,Oj,Oz]
    ·rintro σ H' ⟨v8,rfl,s5,J⟩;rw[NV,OD (by rw[NV];lia)] at J;left;refine kk.same x L (by walk_at "fresh") ((((s1.trans s2).trans s3).trans s4).trans s5) ?_;rw[J,dF];rfl
theorem Av{T:N9}{w:Ob}{a n:Nat}(ok:lP T)(F:w.cls<=4):says ((Sx T w a (a+n)).getD 0::((QX T w a (a+n)).zipIdx.filter fun(x:Nat×Nat)=>x.1 != 0).length::((QX T w a (a+n)).zipIdx.filter fun(x:Nat×Nat)=>x.1 != 0).flatMap fun(x:Nat×Nat)=>[a+x.2,x.1])=says (bK T w a n 0::(zc T w a n n).length::(zc T w a n n).flatten):=by
 have z:∀p∈T.products,p.days.length=7:=fun p I=>(ok.pr p I).d7;have e:=zT (a:=a) (n:=n) ok.ok z F;have e':(((QX T w a (a+n)).zipIdx.filter fun(x:Nat×Nat)=>x.1 != 0).map fun x=>[a+x.2,x.1])=zc T w a n n:=e;rw[yz ok.ok z F,Uu,e',<-e',NV]
inductive rE(A:cX)(vs:List V)(H:Hp)(Q:VK)(E:XK):Prop|mk(a b c bs:_)(_:bs.length<=40)(_:C2 A (.proof a b c bs) [a,b,c] [bs.map UInt8.toNat] vs H Q E)
theorem rF(T:Txt K mg A):fK P w K mg base 6 "answer_proof" ["park","numbers","rows"] (rE A):=by
 have S:ax ["park","numbers","rows","stay","rests","weights","answer","weight"] ["park","numbers","rows"] (ap li):=axo
 have nd:=S.nd;refine aN T.NA S (fun f b3 Ar outer s H vs Q E O h=>?_)
 ·obtain⟨a,b,c,bs,hb,p,nu,ro,rs,U,I,N,rfl,x,kk⟩:=h
  refine⟨_,(ae (aM nd 3 (aF (ke T) O (ab (pv 1) (ab (pv 2) ag))))
   (ae (bc ((mE (fI (dD (aF (kb T) O (ab (pv 3) ag)))) (jM (dA gP (aD bO (aA (pv 3)) (aA (pv 3))) (aE T.Ll))))).pt (ak (au (aH (ab (aE T.Ky) ag)))) aG)
   (ae (aM nd 4 (aF (lQ T) O (ab (aF (j8 T) O (ab (aA (pv 0)) (ab (pv 3) ag))) (ab (pv 3) ag))))
   (ae (aM nd 5 (aF (uH T) O (ab (pv 4) (ab (pv 3) ag))))
   (ae (aM nd 6 (aH (ab ao (ab (ba ay (pv 4) ao) (ab (az aB (by rfl) T.Ks bU (ab (pv 5) ag)) ag)))))
   (ae (fW OU.never rfl (dj (pv 5)) (eU nd 7) (ak (dr (gh PySem.F.plainAttrs_list PySem.F.slot_list_extend PySem.F.type_list_extend gv (pv 6) (ab (c9 jQ (by rfl) T.KL (by rfl) (ab (pv 7) ag)) ag)))))
   (ak (au (pv 6))))))))),?_⟩
  exists 0,3,5;obtain⟨r,pk,hU⟩:=x.park.pk;have hh:=pk.hs;have Y:=t_ (l:=bs.map UInt8.toNat) (by rw[NV];lia);left;refine⟨nu,ro,rs,a,b,c,bs.map UInt8.toNat,rfl,x.nums,x.rows,jE bs,by rw[NV];lia,fun H1 st s1 hs=>?_⟩;left;refine⟨st,a,b,c,zd (bs.map UInt8.toNat),rfl,hs,Y.1,Y.2,?_⟩;left;have L:does I (.proof a b c bs)=(I,ofStay a b 1440 c bs fun w=>says ((Sx I.tariff w a b).getD 0::((QX I.tariff w a b).zipIdx.filter fun(x:Nat×Nat)=>x.1 != 0).length::((QX I.tariff w a b).zipIdx.filter fun(x:Nat×Nat)=>x.1 != 0).flatMap fun(x:Nat×Nat)=>[a+x.2,x.1])):=rfl;refine jq (fun h1=>?_) (fun h1=>?_)
  ·rw[r6 h1] at L;left;refine⟨c_,fun l1 f1=>?_⟩;exact kk.same x L (by walk_at "fresh") (s1.trans (Same.new f1)) (by rw[ac,bX];rfl)
  ·obtain⟨w,e1,e2,e3,e4,e5,e6⟩:=oY h1;left;refine gz (fun h2=>?_) (fun h2=>?_)
   ·rw[wc ()] at L;left;refine⟨c_,fun l1 f1=>?_⟩;exact kk.same x L (by walk_at "fresh") (s1.trans (Same.new f1)) (by rw[ac,bX];rfl)
   ·rw[r9 e1 e5 e6 ()] at L;obtain⟨n,rfl⟩:∃n,b=a+n:=⟨b-a,by lia⟩;have hn:n<=1440:=by lia
    have tok:=hh.tok;rw[Av tok e4.cls] at L;have ar:=pk.keep s1;have tar:=ar.hs.tar;have M:ah A H1 st a (a+n) w.cls (dC w.card):=by rw[e2,e3];exact hs
    left;refine⟨r.q,st,r.t,r.l,I.tariff,r.zs,w,a,a+n,rfl,tar,tok,M,e4.card,e5,by lia,by lia,fun H2 of os f2 s2 as av=>?_⟩;left;refine⟨of,st,I.tariff,os,w,a,n,rfl,as,av,tok,M.keep s2,e4.cls,by lia,by lia,fun H3 rr f3 s3 Z=>?_⟩;left;refine⟨rr,st,I.tariff,w,a,n,w.cls,dC w.card,rfl,aI.of Z,(M.keep s2).keep s3,by lia,by lia,fun H4 bq f4 s4 b1=>?_⟩;left;refine gB (j:=0) (v:=nv (bK I.tariff w a n 0)) (aI.of (s4 _ _ Z)) rfl (by rw[NZ,gL ()];rfl) ?_;left;obtain⟨zs,z1,z2,z3⟩:=b1;refine dI (aI.of z2) ?_;left;refine⟨uF,fun an f5=>?_⟩
    have zl:zs.length=(zc I.tariff w a n n).length:=by
     have:=congrArg Os z1;simpa using this
    have rl:=Bj I.tariff w a n n
    have fl:∀i,((zc I.tariff w a n n).take i).flatten.length<=2*n:=fun i=>by
     refine Od (kh (c:=2) fun y hy=>?_) (PR 2 rl);unfold zc at hy;obtain⟨j,_,hj⟩:=Rq.mp hy;split at hj
     ·cases hj
     ·cases hj;exact NX 2
    rw[NV,zl];left;refine kE (Hb:=H4) (xs:=zs.map fun z=>V.ref z.2) (Same.new f5) (aI.of z2) (fun i σ H'=>∃v7,σ=[some (.ref p),some (.ref nu),some (.ref ro),some (.ref st),some (.ref rr),some (.ref bq),some (.ref an),v7]/\Same H4 H'/\H' an=some (.lst ([V.int 0,nv (bK I.tariff w a n 0),nv (zc I.tariff w a n n).length]++((zc I.tariff w a n n).take i).flatten.map nv))) ⟨_,rfl,Same.new f5,ac⟩ (fun i σ H' h=>by obtain⟨_,_,h,_⟩:=h;exact h) ?_ ?_
    ·rintro i xv σ H' hx ⟨v8,rfl,s5,J⟩;rw[NZ] at hx;obtain⟨z,hz,rfl⟩:=Oc.mp hx;have al:(zc I.tariff w a n n)[i]?=some z.1:=by rw[<-z1,NZ,hz];rfl
     have ht:=s5 _ _ (z3 z (Oe hz));have b2:=fl (i+1);rw[jL al,Of] at b2;left;refine gi (aI.of J) ?_;left;refine⟨z.2,z.1.map nv,rfl,.inr (gI.of ht),fun l6 f6=>?_⟩;have n6:an≠l6:=aw J f6;left;refine gS (by rw[aj n6];exact J) ac (eP (by simp only[Of,NV,Ol,P6];lia)) ?_;left;refine⟨_,rfl,(s5.updN f6).upd f5,?_⟩;rw[ac,jL al,Oj,Oz]
    ·rintro σ H' ⟨v8,rfl,s5,J⟩;rw[NV,OD ()] at J;left;refine kk.same x L (by walk_at "fresh") ((((s1.trans s2).trans s3).trans s4).trans s5) ?_;rw[J,dF];rfl
inductive uf(A:cX)(vs:List V)(H:Hp)(Q:VK)(E:XK):Prop|mk(a c bs l:_)(_:bs.length<=40)(_:l.length<=1500)(_:C2 A (.fair a c bs l) [a,c] [bs.map UInt8.toNat,l] vs H Q E)
theorem ug(T:Txt K mg A):fK P w K mg base 4 "answer_fair" ["park","numbers","rows"] (uf A):=by
 have S:ax ["park","numbers","rows","weights","stay","weight","sums","product","minute"] ["park","numbers","rows"] (ap mK):=axo
 have nd:=S.nd;refine aN T.NB S (fun f b2 Ar outer s H vs Q E hr h=>?_)
 ·obtain⟨a,c,bs,l,hb,hl,p,nu,ro,rs,U,ho,N,rfl,x,kk⟩:=h
  refine⟨_,(ae (aM nd 3 (ba ay (pv 2) ao))
   (ae (aM nd 4 (j7 (rW T) T.KQ hr (ab (ba ay (pv 1) ao) (ab (aD b0 (ba ay (pv 1) ao) (az aB (by rfl) T.Ks bU (ab (pv 3) ag))) (ab (ba ay (pv 1) ao) (ab (aF (j3 T) hr (ab (ba ay (pv 2) ao) ag)) ag))))))
   (ae (bc ((mE (dA gP (az aB (by rfl) T.Ks bU (ab (pv 3) ag)) (aE T.Ll)) (jM (fI (dD (aF (kb T) hr (ab (pv 4) ag))))))).pt (ak (au (aH (ab (aE T.Ky) ag)))) aG)
   (ae (bc (dD (az (zu rfl) (by rfl) T.KZ zC (ab (iE rfl nd (dj (pv 3)) (dn (own:=[("weight",5)]) rfl) (fun _ _ _ _ _=>(by exact(eU nd 5))) (fun _ _ _ _ _=>(by exact fA)) (fun _ _ _ _ _=>(by exact(jH gP (pv 5) (aE T.Lh))))) ag))) (ak (au (aH (ab (aE T.Ky) ag)))) aG)
   (ae (aM nd 6 (aF (Ak T) hr (ab (pv 3) ag)))
   (ae (fW OU.never rfl (dj (aA (aA (pv 0)))) (eU nd 7) (ae (aM nd 8 (aF (my T) hr (ab (pv 7) (ab (pv 4) (ab (pv 6) ag)))))
   (ak (bc (dA nP (pv 8) fk) (ak (au (aH (ab ao (ab (aA (pv 7)) (ab (pv 8) ag)))))) aG))))
   (ak (au (aH (ab ao (ab (ba ay (pv 6) (kj gU ao)) ag))))))))))),?_⟩
  exists 0,3,6;obtain⟨r,pk,hU⟩:=x.park.pk;have hh:=pk.hs;have M:=x.nums;have al:=t_ (l:=bs.map UInt8.toNat) (by rw[NV];lia);obtain⟨r0,q0,e0,h0⟩:=x.rows.ex (i:=0) rfl;obtain⟨r1,q1,e1,h1⟩:=x.rows.ex (i:=1) rfl;left;refine gB (j:=1) (v:=.ref r1) (aI.of x.rows.lst) rfl e1 ?_;left;refine gB (j:=0) (v:=nv a) (aI.of M) rfl rfl ?_;left;refine gB (j:=0) (v:=nv a) (aI.of M) rfl rfl ?_;left;refine dI (aI.of h1) ?_;rw[NV];left;refine gB (j:=1) (v:=nv c) (aI.of M) rfl rfl ?_;left;refine gB (j:=0) (v:=.ref r0) (aI.of x.rows.lst) rfl e0 ?_;left;refine⟨r0,bs.map UInt8.toNat,rfl,aI.of h0,jE bs,by rw[NV];lia,fun H1 s1=>?_⟩;left;intro st dx nx as b3;refine⟨st,dx,a,a+l.length,c,zd (bs.map UInt8.toNat),rfl,ac,fun H2 hs fm=>⟨rfl,?_⟩⟩;have s2:=s1.trans (Same.made nx as fm)
  have F:does ho (.fair a c bs l)=(ho,if 1440<l.length\/(l.any fun(n:Nat)=>decide (99999<n))=true then Ov 1 else ofStay a (a+l.length) 1440 c bs fun w=>match FrCover.unfair ho.tariff w a l with
   |some x=>⟨1,[x.1,x.2],[]⟩
   |none=>says [l.foldl (fun(x y:Nat)=>x+y) 0]):=rfl
  left;refine dI (aI.of (s2 _ _ h1)) ?_;rw[NV];left;refine gz (fun h2=>?_) (fun h2=>?_)
  ·rw[if_pos (.inl ())] at F;left;refine⟨c_,fun l1 f1=>?_⟩;exact kk.same x F (by walk_at "fresh") (s2.trans (Same.new f1)) (by rw[ac,bX];rfl)
  left;refine⟨st,a,a+l.length,c,zd (bs.map UInt8.toNat),rfl,hs,al.1,al.2,?_⟩;left;refine jq (fun h3=>?_) (fun h3=>?_)
  ·rw[r6 h3,ite_self] at F;left;refine⟨c_,fun l1 f1=>?_⟩;exact kk.same x F (by walk_at "fresh") (s2.trans (Same.new f1)) (by rw[ac,bX];rfl)
  left;refine D8 (l:=l) (c:=nv) (aI.of (s2 _ _ h1)) () (fun _=>true) (fun n=>V.bl (decide (99999<n))) (fun n H3 hn s3 R R' k1 k2=>?_) (fun D H3 f3 s3 h4=>?_)
  ·dsimp only[bV,OX,Pl];left;refine⟨rfl,?_⟩;left;exact qq (Q:=R) (k1 H3 rfl (Same.refl _)) (congrArg V.bl (decide_eq_decide.mpr ()))
  rw[OR.mpr (fun _ _=>rfl)] at h4;left;refine Ek (bs:=l.map fun n=>decide (99999<n)) (aI.of (by rw[h4,On];rfl)) ?_
  have e2:(l.map fun n=>decide (99999<n)).any id=l.any fun n=>decide (99999<n):=by
   rw[RY];rfl
  rw[e2];have O:=s2.trans s3;refine⟨_,rfl,?_⟩;refine zb (fun h5=>?_) (fun h5=>?_)
  ·rw[if_pos (.inr h5)] at F;left;refine⟨c_,fun l1 f1=>?_⟩;exact kk.same x F (by walk_at "fresh") (O.trans (Same.new f1)) (by rw[ac,bX];rfl)
  obtain⟨w,w1,w2,w3,w4,w5,w6⟩:=oY h3
  have nq:¬(1440<l.length\/(l.any fun(n:Nat)=>decide (99999<n))=true):=fun q=>by
   rcases q with q|q
   ·lia
   ·rw[q] at h5;cases h5
  rw[if_neg nq,r9 w1 w5 w6 ()] at F;left;refine⟨r1,l,rfl,aI.of (O _ _ h1),by lia,fun H4 qa f4 s4 an=>?_⟩;have I:=O.trans s4;have av:=pk.keep I;have tar:=av.hs.tar;have tok:=hh.tok;have b1:ah A H4 st a (a+l.length) w.cls (dC w.card):=by rw[w2,w3];exact(hs.keep s3).keep s4
  have eu:=Cn (T:=ho.tariff) (w:=w) (a:=a) (l:=l) fun p hp=>(tok.pr p hp).bd;rw[<-tar.prods.all,jZ] at eu
  have zm:∀z∈r.zs,wT z.1.1:=fun z Y=>by
   have:z.1∈ho.tariff.products.zipIdx:=by rw[<-tar.prods.all];exact Oq.mpr ⟨z,Y,rfl⟩
   exact tok.pr _ (Pw this)
  left;refine kE (Hb:=H4) (xs:=r.zs.map fun z=>V.ref z.2) (Same.refl _) (aI.of tar.prods.lst) (fun i σ H'=>∃v7 v8,σ=[some (.ref p),some (.ref nu),some (.ref ro),some (.ref r1),some (.ref st),none,some (.ref qa),v7,v8]/\Same H4 H'/\∀z∈r.zs.take i,yJ w a l z.1.1=none) ⟨_,_,rfl,Same.refl _,fun z Y=>by simp at Y⟩ (fun i σ H' h=>by obtain⟨_,_,_,h,_⟩:=h;exact h) ?_ ?_
  ·rintro i xv σ H' hx ⟨v7,v8,rfl,L,J⟩;rw[NZ] at hx;obtain⟨z,Y,rfl⟩:=Oc.mp hx;have ar:=Oe Y;have hp:=(tar.prods.at_ z ar).keep L;left;refine⟨z.2,st,qa,z.1.2,z.1.1,w,a,l,rfl,hp,zm z ar,b1.keep L,w4.card,aI.of (L _ _ an),by lia,by lia,fun H6 s6=>?_⟩;cases Z:yJ w a l z.1.1 with
   |none=>
    rw[pY];left;refine⟨_,_,rfl,L.trans s6,fun y hy=>?_⟩;rw[Pg,Y] at hy;rcases OK.mp hy with q|q
    ·exact J y q
    ·have:y=z:=by simpa using q
     rw[this];exact Z
   |some m=>
    rw[jK];have b4:=hp.keep s6;left;refine⟨uF,fun l7 f7=>?_⟩
    rw[qN Y (fun y hy=>by
     have:=J y hy;unfold yJ at this;show Qu _ _=none;rw[this];rfl) (v:=(z.1.2,m)) (by
     unfold yJ at Z;show Qu _ _=some (z.1.2,m);rw[Z];rfl)] at eu
    rw[eu] at F;exact kk.same x F (by walk_at "fresh") (((I.trans L).trans s6).trans (Same.new f7)) (by rw[ac,Ex];rfl)
  ·rintro σ H' ⟨v7,v8,rfl,L,J⟩;rw[NV,OD (NX _)] at J
   rw[qO fun y hy=>by
    have:=J y hy;unfold yJ at this;show Qu _ _=none;rw[this];rfl] at eu
   rw[eu] at F;left;refine wS (v:=nv l.sum) (aI.of (L _ _ an)) ?_ ?_
   ·rw[QK,Rx,pU,Tt,oN (NX _),OD (NX _)];rfl
   left;refine⟨gJ,fun l7 f7=>?_⟩;refine kk.same x F (by walk_at "fresh") ((I.trans L).trans (Same.new f7)) ?_;rw[ac];show _=some (HO.lst (jj (says [l.foldl (fun(x y:Nat)=>x+y) 0])));rw[dF,mf];rfl
inductive qb(A:cX)(vs:List V)(H:Hp)(Q:VK)(E:XK):Prop|mk(f l bs:_)(_:bs.length<=40)(_:C2 A (.season f l bs) [f,l] [bs.map UInt8.toNat] vs H Q E)
theorem qc(T:Txt K mg A):fK P w K mg base 3 "answer_season" ["park","numbers","rows"] (qb A):=by
 have S:ax ["park","numbers","rows","name"] ["park","numbers","rows"] (ap kq):=axo
 have nd:=S.nd;refine aN T.NC S (fun f b2 Ar outer s H vs Q E hr h=>?_)
 ·obtain⟨f,l,bs,hb,p,nu,ro,rs,U,L,N,rfl,x,kk⟩:=h
  refine⟨_,(ae (aM nd 3 (aF (j3 T) hr (ab (ba ay (pv 2) ao) ag)))
   (ae (bc ((mE (dA iX (ba ay (pv 1) ao) (ba ay (pv 1) ao)) (mE (dA gP (ba ay (pv 1) ao) (aE T.L3)) (jM (fI (dD (aF (iQ T) hr (ab (pv 3) ag)))))))).pt (ak (au (aH (ab (aE T.Ky) ag)))) aG)
   (ae (bc (dA fB (az aB (by rfl) T.Ks bU (ab (aA (pv 0)) ag)) (aE T.L7)) (ak (au (aH (ab (aE T.KW) ag)))) aG)
   (ae (dr (gh PySem.F.plainAttrs_list PySem.F.slot_list_append PySem.F.type_list_append eX (aA (pv 0)) (ab (j7 (FU T) T.MC hr (ab (ba ay (pv 1) ao) (ab (ba ay (pv 1) ao) (ab (pv 3) ag)))) ag)))
   (ak (au (aH (ab ao (ab (aD bO (az aB (by rfl) T.Ks bU (ab (aA (pv 0)) ag)) ao) ag))))))))),?_⟩
  exists 0,3,1;obtain⟨r,pk,hU⟩:=x.park.pk;have hh:=pk.hs;have av:=x.nums;have al:=t_ (l:=bs.map UInt8.toNat) (by rw[NV];lia);obtain⟨r0,q0,e0,h0⟩:=x.rows.ex (i:=0) rfl;have cl:L.seasons.length=r.cds.length:=by rw[<-hh.cds,NV]
  have c32:=hh.c32;left;refine gB (j:=0) (v:=.ref r0) (aI.of x.rows.lst) rfl e0 ?_;left;refine⟨r0,bs.map UInt8.toNat,rfl,aI.of h0,jE bs,by rw[NV];lia,fun H1 O=>?_⟩;have I:=O _ _ av;have an:=pk.keep O;have J:does L (.season f l bs)=if l<f\/3472<l\/SS bs=false then(L,Ov 1) else if 32<=L.seasons.length then(L,Ov 7) else({L with seasons:=L.seasons++[⟨bs,f,l⟩]},says [L.seasons.length]):=rfl
  left;refine gB (j:=1) (v:=nv l) (aI.of I) rfl rfl ?_;left;refine gB (j:=0) (v:=nv f) (aI.of I) rfl rfl ?_;left;refine gz (fun h1=>?_) (fun h1=>?_)
  ·rw[if_pos (.inl ())] at J;left;refine⟨c_,fun l1 Y=>?_⟩;exact kk.same x J (by walk_at "fresh") (O.trans (Same.new Y)) (by rw[ac,bX];rfl)
  left;refine gB (j:=1) (v:=nv l) (aI.of I) rfl rfl ?_;left;refine gz (fun h2=>?_) (fun h2=>?_)
  ·rw[if_pos (.inr (.inl ()))] at J;left;refine⟨c_,fun l1 Y=>?_⟩;exact kk.same x J (by walk_at "fresh") (O.trans (Same.new Y)) (by rw[ac,bX];rfl)
  left;refine⟨zd (bs.map UInt8.toNat),rfl,al.1,al.2,?_⟩;rw[ud,fN];left;refine jq (fun h3=>?_) (fun h3=>?_)
  ·rw[if_pos (.inr (.inr h3))] at J;left;refine⟨c_,fun l1 Y=>?_⟩;exact kk.same x J (by walk_at "fresh") (O.trans (Same.new Y)) (by rw[ac,bX];rfl)
  have nq:¬(l<f\/3472<l\/SS bs=false):=fun q=>by
   rcases q with q|q|q
   ·lia
   ·lia
   ·rw[h3] at q;cases q
  rw[if_neg nq] at J;left;refine dI (aI.of an.hs.cards) ?_;rw[NV];left;refine gz (fun h4=>?_) (fun h4=>?_)
  ·rw[if_pos ()] at J;left;refine⟨c_,fun l1 Y=>?_⟩;exact kk.same x J (by walk_at "fresh") (O.trans (Same.new Y)) (by rw[ac,bX];rfl)
  rw[if_neg ()] at J;have en:(bs.map UInt8.toNat).map bM=bs.map UInt8.toNat:=(ud bs).trans (oH (ny h3));have hk:bs≠[]:=fun q=>by rw[q] at h3;cases h3
  left;refine gi (aI.of an.hs.cards) ?_;left;refine gB (j:=0) (v:=nv f) (aI.of I) rfl rfl ?_;left;refine gB (j:=1) (v:=nv l) (aI.of I) rfl rfl ?_;left;intro Z dx nx b1 b3;refine⟨Z,dx,⟨bs,f,l⟩,by rw[en];rfl,ac,fun H2 hc fm=>⟨rfl,?_⟩⟩;have s2:=O.trans (Same.made nx b1 fm);have M:=pk.keep s2;left;refine fG M.hs.cards (fj (by rw[NV];lia)) ?_;have h5:=M.hs.addC hc hk ();obtain⟨ar,fs,g1,g2⟩:=M.ins;have g3:(upd H2 r.lc (.lst ((r.cds.map fun e=>V.ref e.2)++[.ref Z]))) p=some (.ins A.Park ar fs):=by rw[aj (b8 g1 M.hs.cards (by intro z;cases z))];exact g1
  have f5:LF H (upd H2 r.lc (.lst ((r.cds.map fun e=>V.ref e.2)++[.ref Z]))) r.ls:=(LF.same (ls:=r.ls) s2).trans (LF.upd_in (ls:=r.ls) (by simp[Rf.ls])) fun u q=>.inl q;generalize upd H2 r.lc (.lst ((r.cds.map fun e=>V.ref e.2)++[.ref Z]))=H3 at h5 g3 f5 ⊢;have as:aC A H3 p {L with seasons:=L.seasons++[⟨bs,f,l⟩]} {r with cds:=r.cds++[(⟨bs,f,l⟩,Z)]} N:=⟨⟨ar,fs,g3,g2⟩,h5⟩;left;refine dI (aI.of as.hs.cards) ?_;left;refine⟨gJ,fun l4 f4=>?_⟩;refine kk _ l4 (kf (x.u_lf f5 hU) x.uo f4) ?_ (ue (x.u_lf f5 hU) x.uo f4) ?_
  ·rw[J];exact dB.of ((as.keep (Same.new f4)).more (PY N)) hU
  ·rw[J,ac,dF,NV];have:(((r.cds++[((⟨bs,f,l⟩:Season),Z)]).length:Nat):Int)-1=(L.seasons.length:Int):=by rw[Of,cl];simp
   show some (HO.lst [V.int 0,V.int ((((r.cds++[((⟨bs,f,l⟩:Season),Z)]).length:Nat):Int)-1)])=_;rw[this];rfl
theorem Ey{c:Nat}(h:xo c=false):c=0\/4<c:=by
 unfold xo at h;by_cases q:1<=c/\c<=4
 ·rw[decide_eq_true q.1,decide_eq_true q.2] at h;cases h
 ·lia
theorem Bn{c:Nat}(h:xo c=true):1<=c/\c<=4:=by
 unfold xo at h;rw[NW,decide_eq_true_eq,decide_eq_true_eq] at h;exact h
inductive rG(A:cX)(vs:List V)(H:Hp)(Q:VK)(E:XK):Prop|mk(c k:_)(_:C2 A (.enter c k) [c,k] [] vs H Q E)
theorem rH(T:Txt K mg A):fK P w K mg base 3 "answer_enter" ["park","numbers","rows"] (rG A):=by
 have S:ax ["park","numbers","rows","card","parks_by"] ["park","numbers","rows"] (ap lj):=axo
 have nd:=S.nd;refine aN T.ND S (fun f bs Ar outer s H vs Q E hr h=>?_)
 ·obtain⟨c,k,p,nu,ro,rs,U,I,N,rfl,x,kk⟩:=h
  refine⟨_,(ae (aM nd 3 (fh (dA gP (ba ay (pv 1) ao) ao) (aD bO (ba ay (pv 1) ao) ao) fk))
   (ae (bc (fI (dD (aF (qK T) hr (ab (ba ay (pv 1) ao) ag)))) (ak (au (aH (ab (aE T.Ky) ag)))) aG)
   (ae (bc (dA gP (ba ay (pv 1) ao) (az aB (by rfl) T.Ks bU (ab (aA (pv 0)) ag))) (ak (au (aH (ab (aE T.Lm) ag)))) aG)
   (ae (bc ((sh (dA nP (pv 3) fk) (nO (dD (aF (oV T) hr (ab (pv 0) (ab (pv 3) ag))))))).pt (ak (au (aH (ab (aE T.Mg) ag)))) aG)
   (ae (bc (dA fB (az aB (by rfl) T.Ks bU (ab (aA (pv 0)) ag)) (aE T.L8)) (ak (au (aH (ab (aE T.KW) ag)))) aG)
   (ae (aM nd 4 (fh (dA nP (pv 3) fk) (aF (rf T) hr (ab (ba ay (aA (pv 0)) (pv 3)) (ab (aA (pv 0)) ag))) de))
   (ae (dr (gh PySem.F.plainAttrs_list PySem.F.slot_list_append PySem.F.type_list_append eX (aA (pv 0)) (ab (j7 (CM T) T.MD hr (ab (ba ay (pv 1) ao) (ab (pv 3) (ab (pv 4) (ab (aA (pv 0)) ag))))) ag)))
   (ak (au (aH (ab ao (ab (aD bO (az aB (by rfl) T.Ks bU (ab (aA (pv 0)) ag)) ao) ag)))))))))))),?_⟩
  exists 0,3,2;obtain⟨r,pk,hU⟩:=x.park.pk;have hh:=pk.hs;have Y:=x.nums;have cl:I.seasons.length=r.cds.length:=by rw[<-hh.cds,NV]
  have tl:I.tickets.length=r.tk.length:=by rw[hh.tkl,NV]
  have t200:=hh.t200;left;refine gB (j:=1) (v:=nv k) (aI.of Y) rfl rfl ?_;left;refine gz (fun h0=>?_) (fun h0=>?_)
  ·obtain⟨j,rfl⟩:∃j,k=j+1:=⟨k-1,by lia⟩;have L:does I (.enter c (j+1))=if c=0\/4<c then(I,Ov 1) else if I.seasons.length<j+1 then(I,Ov 4) else if j+1≠0/\I.inUse j=true then(I,Ov 8) else if 200<=I.tickets.length then(I,Ov 7) else({I with tickets:=I.tickets++[some ⟨⟨c,(I.seasons[j]?).bind fun(x:Season)=>if x.first<=I.now/1440/\I.now/1440<=x.last then some x.kind else none⟩,some j,I.now,[],0,none,false⟩]},says [I.tickets.length]):=rfl
   have ej:(((j+1:Nat):Int)-1)=(j:Int):=by lia
   left;refine gB (j:=1) (v:=nv (j+1)) (aI.of Y) rfl rfl ?_;left;rw[ej];refine gB (j:=0) (v:=nv c) (aI.of Y) rfl rfl ?_;left;refine⟨c,rfl,?_⟩;left;refine jq (fun h1=>?_) (fun h1=>?_)
   ·rw[if_pos (Ey h1)] at L;left;refine⟨c_,fun l1 f1=>?_⟩;exact kk.same x L (by walk_at "fresh") (Same.new f1) (by rw[ac,bX];rfl)
   have b1:=Bn h1;rw[if_neg ()] at L;left;refine gB (j:=1) (v:=nv (j+1)) (aI.of Y) rfl rfl ?_;left;refine dI (aI.of hh.cards) ?_;rw[NV];left;refine gz (fun h2=>?_) (fun h2=>?_)
   ·rw[if_pos ()] at L;left;refine⟨c_,fun l1 f1=>?_⟩;exact kk.same x L (by walk_at "fresh") (Same.new f1) (by rw[ac,bX];rfl)
   rw[if_neg ()] at L;have hj:j<r.cds.length:=by lia
   have b2:r.cds[j]?=some r.cds[j]:=by simp[hj]
   have b3:=Ps hj;generalize r.cds[j]=cd at b2 b3;have bk:I.seasons[j]?=some cd.1:=by rw[<-hh.cds,NZ,b2];rfl
   rw[bk] at L;left;refine⟨p,I,r,N,j,rfl,pk,fun H1 s1=>?_⟩;left;refine zb (fun h3=>?_) (fun h3=>?_)
   ·rw[if_pos ⟨by lia,h3⟩] at L;left;refine⟨c_,fun l1 f1=>?_⟩;exact kk.same x L (by walk_at "fresh") (s1.trans (Same.new f1)) (by rw[ac,bX];rfl)
   rw[if_neg (fun q=>by rw[h3] at q;cases q.2)] at L;have M:=pk.keep s1;have al:=s1 _ _ Y;left;refine dI (aI.of M.hs.tks) ?_;rw[NV];left;refine gz (fun h4=>?_) (fun h4=>?_)
   ·rw[if_pos ()] at L;left;refine⟨c_,fun l1 f1=>?_⟩;exact kk.same x L (by walk_at "fresh") (s1.trans (Same.new f1)) (by rw[ac,bX];rfl)
   rw[if_neg ()] at L;left;refine gB (j:=j) (v:=.ref cd.2) (aI.of M.hs.cards) rfl (by rw[NZ,b2];rfl) ?_;left;refine⟨cd.2,cd.1,I.now,rfl,M.hs.cat cd b3,?_⟩
   have bo:(if cd.1.first<=I.now/1440/\I.now/1440<=cd.1.last then some cd.1.kind else none)≠some []:=by
    split
    ·exact fun q=>hh.cok cd b3 (N6.inj q)
    ·intro q;cases q
   left;refine gi (aI.of M.hs.tks) ?_;left;refine gB (j:=0) (v:=nv c) (aI.of al) rfl rfl ?_;left;intro J dx nx Z an;refine⟨J,dx,⟨c,(if cd.1.first<=I.now/1440/\I.now/1440<=cd.1.last then some cd.1.kind else none)⟩,some j,I.now,rfl,ac,fun H2 vl ar ht fm=>⟨rfl,?_⟩⟩;have s2:=s1.trans (Same.made nx Z fm);have O:=pk.keep s2;have b4:xf ⟨⟨c,(if cd.1.first<=I.now/1440/\I.now/1440<=cd.1.last then some cd.1.kind else none)⟩,some j,I.now,[],0,none,false⟩:=⟨⟨b1.2,bo⟩,fun v hv=>(by cases hv),OA 3⟩
   have b5:vl∉r.ls:=fun q=>by
    obtain⟨xs,hx⟩:=M.hs.ls_at _ q;have:=Same.new (H:=upd H1 dx (.own J)) (q:=J) (o:=.ins A.Ticket dx []) (by rw[aj an.symm];exact nx) vl _ (Same.new (o:=.own J) Z vl _ hx);rw[ar] at this;cases this
   have nU:¬U vl:=x.fresh (by
    by_cases q:H vl=none
    ·exact q
    ·obtain⟨o,b6⟩:=Qb.mp q;have:=Same.new (H:=upd H1 dx (.own J)) (q:=J) (o:=.ins A.Ticket dx []) (by rw[aj an.symm];exact nx) vl _ (Same.new (o:=.own J) Z vl _ (s1 _ _ b6));rw[ar] at this;cases this)
   have np:∀e2∈r.tk,e2.p≠J:=fun e2 he q=>by
    obtain⟨⟨d2,bq,g,_⟩,_⟩:=M.hs.tat e2 he;rw[q,nx] at g;cases g
   left;refine fG O.hs.tks (fj (by rw[NV];lia)) ?_;have h5:=O.hs.addT (e:=⟨⟨⟨c,(if cd.1.first<=I.now/1440/\I.now/1440<=cd.1.last then some cd.1.kind else none)⟩,some j,I.now,[],0,none,false⟩,false,J,vl⟩) ht rfl ⟨b4,NX _⟩ () b5 np;obtain⟨as,fs,g1,g2⟩:=O.ins;have g3:(upd H2 r.lt (.lst ((r.tk.map fun e=>V.ref e.p)++[.ref J]))) p=some (.ins A.Park as fs):=by rw[aj (b8 g1 O.hs.tks (by intro z;cases z))];exact g1
   have f5:LF H (upd H2 r.lt (.lst ((r.tk.map fun e=>V.ref e.p)++[.ref J]))) r.ls:=(LF.same (ls:=r.ls) s2).trans (LF.upd_in (ls:=r.ls) (by simp[Rf.ls])) fun u q=>.inl q;have h5:a_ A (upd H2 r.lt (.lst ((r.tk.map fun e=>V.ref e.p)++[.ref J]))) _ _ N:=h5;generalize upd H2 r.lt (.lst ((r.tk.map fun e=>V.ref e.p)++[.ref J]))=H3 at h5 g3 f5 ⊢;have av:aC A H3 p {I with tickets:=I.tickets++[some ⟨⟨c,(if cd.1.first<=I.now/1440/\I.now/1440<=cd.1.last then some cd.1.kind else none)⟩,some j,I.now,[],0,none,false⟩]} {r with tk:=r.tk++[⟨⟨⟨c,(if cd.1.first<=I.now/1440/\I.now/1440<=cd.1.last then some cd.1.kind else none)⟩,some j,I.now,[],0,none,false⟩,false,J,vl⟩]} N:=⟨⟨as,fs,g3,g2⟩,h5⟩
   have bd:∀b∈({r with tk:=r.tk++[⟨⟨⟨c,(if cd.1.first<=I.now/1440/\I.now/1440<=cd.1.last then some cd.1.kind else none)⟩,some j,I.now,[],0,none,false⟩,false,J,vl⟩]}:Rf).ls,¬U b:=fun b hb=>by
    have hb:b∈[r.c,r.t,r.l,r.lc,r.lt,r.lp]++(r.tk++[(⟨⟨⟨c,(if cd.1.first<=I.now/1440/\I.now/1440<=cd.1.last then some cd.1.kind else none)⟩,some j,I.now,[],0,none,false⟩,false,J,vl⟩:m_)]).map (·.vl):=hb;rw[Oj,<-Oz] at hb;rcases OK.mp hb with q|q
    ·exact hU b q
    ·have:b=vl:=by simpa using q
     rw[this];exact nU
   left;refine dI (aI.of av.hs.tks) ?_;left;refine⟨gJ,fun l4 f4=>?_⟩;refine kk _ l4 (kf (x.u_lf f5 hU) x.uo f4) ?_ (ue (x.u_lf f5 hU) x.uo f4) ?_
   ·rw[L];exact dB.of ((av.keep (Same.new f4)).more (PY N)) bd
   ·rw[L,ac,dF,NV];have:(((r.tk++[(⟨⟨⟨c,(if cd.1.first<=I.now/1440/\I.now/1440<=cd.1.last then some cd.1.kind else none)⟩,some j,I.now,[],0,none,false⟩,false,J,vl⟩:m_)]).length:Nat):Int)-1=(I.tickets.length:Int):=by rw[Of,tl];simp
    show some (HO.lst [V.int 0,V.int ((((r.tk++[(⟨⟨⟨c,(if cd.1.first<=I.now/1440/\I.now/1440<=cd.1.last then some cd.1.kind else none)⟩,some j,I.now,[],0,none,false⟩,false,J,vl⟩:m_)]).length:Nat):Int)-1)])=_;rw[this];rfl
  ·obtain rfl:k=0:=by lia
   have L:does I (.enter c 0)=if c=0\/4<c then(I,Ov 1) else if I.seasons.length<0 then(I,Ov 4) else if 0≠0/\I.inUse 0=true then(I,Ov 8) else if 200<=I.tickets.length then(I,Ov 7) else({I with tickets:=I.tickets++[some ⟨⟨c,none⟩,none,I.now,[],0,none,false⟩]},says [I.tickets.length]):=rfl
   rw[if_neg (c:=I.seasons.length<0) (),if_neg (c:=0≠0/\I.inUse 0=true) (fun q=>q.1 rfl)] at L;left;refine gB (j:=0) (v:=nv c) (aI.of Y) rfl rfl ?_;left;refine⟨c,rfl,?_⟩;left;refine jq (fun h1=>?_) (fun h1=>?_)
   ·rw[if_pos (Ey h1)] at L;left;refine⟨c_,fun l1 f1=>?_⟩;exact kk.same x L (by walk_at "fresh") (Same.new f1) (by rw[ac,bX];rfl)
   have b1:=Bn h1;rw[if_neg ()] at L;left;refine gB (j:=1) (v:=nv 0) (aI.of Y) rfl rfl ?_;left;refine dI (aI.of hh.cards) ?_;rw[NV];left;refine gz (fun h2=>?_) (fun h2=>?_)
   ·lia
   have s1:Same H H:=Same.refl _;have M:=pk;have al:=Y;left;refine dI (aI.of M.hs.tks) ?_;rw[NV];left;refine gz (fun h4=>?_) (fun h4=>?_)
   ·rw[if_pos ()] at L;left;refine⟨c_,fun l1 f1=>?_⟩;exact kk.same x L (by walk_at "fresh") (s1.trans (Same.new f1)) (by rw[ac,bX];rfl)
   rw[if_neg ()] at L;left;refine gi (aI.of M.hs.tks) ?_;left;refine gB (j:=0) (v:=nv c) (aI.of al) rfl rfl ?_;left;intro J dx nx Z an;refine⟨J,dx,⟨c,none⟩,none,I.now,(by rw[nk];rfl),ac,fun H2 vl ar ht fm=>⟨rfl,?_⟩⟩;have s2:=s1.trans (Same.made nx Z fm);have O:=pk.keep s2;have b4:xf ⟨⟨c,none⟩,none,I.now,[],0,none,false⟩:=⟨⟨b1.2,(by intro q;cases q)⟩,fun v hv=>(by cases hv),OA 3⟩
   have b5:vl∉r.ls:=fun q=>by
    obtain⟨xs,hx⟩:=M.hs.ls_at _ q;have:=Same.new (H:=upd H dx (.own J)) (q:=J) (o:=.ins A.Ticket dx []) (by rw[aj an.symm];exact nx) vl _ (Same.new (o:=.own J) Z vl _ hx);rw[ar] at this;cases this
   have nU:¬U vl:=x.fresh (by
    by_cases q:H vl=none
    ·exact q
    ·obtain⟨o,b6⟩:=Qb.mp q;have:=Same.new (H:=upd H dx (.own J)) (q:=J) (o:=.ins A.Ticket dx []) (by rw[aj an.symm];exact nx) vl _ (Same.new (o:=.own J) Z vl _ (s1 _ _ b6));rw[ar] at this;cases this)
   have np:∀e2∈r.tk,e2.p≠J:=fun e2 he q=>by
    obtain⟨⟨d2,bq,g,_⟩,_⟩:=M.hs.tat e2 he;rw[q,nx] at g;cases g
   left;refine fG O.hs.tks (fj (by rw[NV];lia)) ?_;have h5:=O.hs.addT (e:=⟨⟨⟨c,none⟩,none,I.now,[],0,none,false⟩,false,J,vl⟩) ht rfl ⟨b4,NX _⟩ () b5 np;obtain⟨as,fs,g1,g2⟩:=O.ins;have g3:(upd H2 r.lt (.lst ((r.tk.map fun e=>V.ref e.p)++[.ref J]))) p=some (.ins A.Park as fs):=by rw[aj (b8 g1 O.hs.tks (by intro z;cases z))];exact g1
   have f5:LF H (upd H2 r.lt (.lst ((r.tk.map fun e=>V.ref e.p)++[.ref J]))) r.ls:=(LF.same (ls:=r.ls) s2).trans (LF.upd_in (ls:=r.ls) (by simp[Rf.ls])) fun u q=>.inl q;have h5:a_ A (upd H2 r.lt (.lst ((r.tk.map fun e=>V.ref e.p)++[.ref J]))) _ _ N:=h5;generalize upd H2 r.lt (.lst ((r.tk.map fun e=>V.ref e.p)++[.ref J]))=H3 at h5 g3 f5 ⊢;have av:aC A H3 p {I with tickets:=I.tickets++[some ⟨⟨c,none⟩,none,I.now,[],0,none,false⟩]} {r with tk:=r.tk++[⟨⟨⟨c,none⟩,none,I.now,[],0,none,false⟩,false,J,vl⟩]} N:=⟨⟨as,fs,g3,g2⟩,h5⟩
   have bd:∀b∈({r with tk:=r.tk++[⟨⟨⟨c,none⟩,none,I.now,[],0,none,false⟩,false,J,vl⟩]}:Rf).ls,¬U b:=fun b hb=>by
    have hb:b∈[r.c,r.t,r.l,r.lc,r.lt,r.lp]++(r.tk++[(⟨⟨⟨c,none⟩,none,I.now,[],0,none,false⟩,false,J,vl⟩:m_)]).map (·.vl):=hb;rw[Oj,<-Oz] at hb;rcases OK.mp hb with q|q
    ·exact hU b q
    ·have:b=vl:=by simpa using q
     rw[this];exact nU
   left;refine dI (aI.of av.hs.tks) ?_;left;refine⟨gJ,fun l4 f4=>?_⟩;refine kk _ l4 (kf (x.u_lf f5 hU) x.uo f4) ?_ (ue (x.u_lf f5 hU) x.uo f4) ?_
   ·rw[L];exact dB.of ((av.keep (Same.new f4)).more (PY N)) bd
   ·rw[L,ac,dF,NV];have:(((r.tk++[(⟨⟨⟨c,none⟩,none,I.now,[],0,none,false⟩,false,J,vl⟩:m_)]).length:Nat):Int)-1=(I.tickets.length:Int):=by rw[Of,tl];simp
    show some (HO.lst [V.int 0,V.int ((((r.tk++[(⟨⟨⟨c,none⟩,none,I.now,[],0,none,false⟩,false,J,vl⟩:m_)]).length:Nat):Int)-1)])=_;rw[this];rfl
end
theorem Ez{r:Rf}{k:Nat}{e':m_}{b:Addr}(hb:b∈({r with tk:=r.tk.set k e'}:Rf).ls):b∈r.ls\/b=e'.vl:=by
 have hb:b∈[r.c,r.t,r.l,r.lc,r.lt,r.lp]++(r.tk.set k e').map (·.vl):=hb;rcases OK.mp hb with q|q
 ·exact .inl (OK.mpr (.inl q))
 ·rw[TU] at q;rcases Ry q with z|z
  ·exact .inl (OK.mpr (.inr z))
  ·exact .inr z
section
variable{A:cX}{H H1:Hp}{p:Addr}{U:Addr->Prop}{h:House}{N:Nat}{nu ro:Addr}{rs:List Addr}{nums:List Nat}{ls:List (List Nat)}{c:OY}{Q:VK}{r:Rf}{k:Nat}{e e':m_}{l:Addr}{a:Answer}
theorem gM.fin(y:gM A H p U h N r k e)(x:Uw A H p U h N nu ro rs nums ls)(kk:y9 A H p U h N c Q)(Z:does h c=({h with tickets:=h.tickets.set k e'.told},a))(J:e'.p=e.p)(I:∀b o,H b=some o->b≠e.p->b≠e.vl->H1 b=some o)(L:∃Y,H1 e.vl=some Y)(ht:af A H1 e'.p e'.t e'.vl e'.gone)(hv:e'.vl=e.vl\/H e'.vl=none)(hok:xf e'.t/\e'.t.from_<=h.now)(hl:H1 l=none):Q (.ref l) (upd H1 l (.lst (jj a))):=by
 have h1:=y.pk.hs.setT x.dst y.he J I L ht hv hok;obtain⟨dx,fs,M,g2⟩:=y.pk.ins;obtain⟨⟨al,an,t1,t2⟩,t3⟩:=y.tat;obtain⟨vs,O⟩:=t3.lst;have np:p≠e.p:=p6 M t1 fun z=>x.dst.tk_pa z.symm;have nv:p≠e.vl:=b8 M O (by intro z;cases z);have S:aC A H1 p {h with tickets:=h.tickets.set k e'.told} {r with tk:=r.tk.set k e'} N:=⟨⟨dx,fs,I _ _ M np nv,g2⟩,h1⟩
 have F:∀u,U u->H1 u=H u:=fun u F=>by
  have n1:u≠e.vl:=fun q=>y.hU e.vl (yZ y.mem) (q ▸ F);rcases x.uo u F with⟨xs,z⟩|⟨o,w,z⟩
  ·rw[z];exact I _ _ z (b8 z t1 (by intro z;cases z)) n1
  ·rw[z];exact I _ _ z (b8 z t1 (by intro z;cases z)) n1
 refine kk _ l (kf F x.uo hl) ?_ (ue F x.uo hl) ?_
 ·rw[Z];refine dB.of ((S.keep (Same.new hl)).more (PY N)) fun b hb=>?_;rcases Ez hb with q|q
  ·exact y.hU b q
  ·rcases hv with z|z
   ·rw[q,z];exact y.hU _ (yZ y.mem)
   ·rw[q];exact x.fresh z
 ·rw[Z,ac]
inductive oZ(A:cX)(vs:List V)(H:Hp)(Q:VK)(E:XK):Prop|mk(k kd n:_)(_:spT A (.voucher k kd n) k [kd,n] [] vs H Q E)
end
section
variable{P:N3}{w:Oh}{K:PySem.W.Frag}{mg:N_->Option NU}{base:Heap}{A:cX}
theorem o0(T:Txt K mg A):fK P w K mg base 2 "answer_voucher" ["park","ticket","numbers","rows"] (oZ A):=by
 have S:ax ["park","ticket","numbers","rows"] ["park","ticket","numbers","rows"] (ap jA):=axo
 have nd:=S.nd;refine aN T.NE S (fun f ar Ar outer s H vs Q E hr h=>?_)
 ·obtain⟨k,kd,n,p,nu,ro,rs,U,Y,N,r,e,rfl,x,y,kk⟩:=h
  refine⟨_,(ae (bc (fI (dD (aF (uN T) hr (ab (ba ay (pv 2) ao) (ab (ba ay (pv 2) ao) ag))))) (ak (au (aH (ab (aE T.Ky) ag)))) aG)
   (ae (bc (dA fB (az aB (by rfl) T.Ks bU (ab (aA (pv 1)) ag)) (aE T.L9)) (ak (au (aH (ab (aE T.KW) ag)))) aG)
   (ae (dr (gh PySem.F.plainAttrs_list PySem.F.slot_list_append PySem.F.type_list_append eX (aA (pv 1)) (ab (gW (ab (ba ay (pv 2) ao) (ab (ba ay (pv 2) ao) ag))) ag)))
   (ak (au (aH (ab ao ag))))))),?_⟩
  exists 0,4,0;have hh:=y.pk.hs;have J:=x.nums;have tat:=y.tat;have tko:=y.tko;have L:does Y (.voucher k kd n)=if Voucher.ok ⟨kd,n⟩=false then(Y,Ov 1) else if 3<=e.t.vouchers.length then(Y,Ov 7) else(Y.put k {e.t with vouchers:=e.t.vouchers++[⟨kd,n⟩]},says []):=gA y.told
  obtain⟨⟨dx,fs,t1,t2⟩,t3⟩:=id tat;obtain⟨xs,I,M⟩:=t3.len;rw[NV] at M;left;refine gB (j:=1) (v:=nv kd) (aI.of J) rfl rfl ?_;left;refine gB (j:=2) (v:=nv n) (aI.of J) rfl rfl ?_;left;refine⟨kd,n,rfl,?_⟩;left;refine jq (fun h1=>?_) (fun h1=>?_)
  ·rw[if_pos h1] at L;left;refine⟨c_,fun l1 O=>?_⟩;exact kk.same x L (by walk_at "fresh") (Same.new O) (by rw[ac,bX];rfl)
  rw[if_neg (by rw[h1];intro q;cases q)] at L;left;refine dI (aI.of I) ?_;rw[M];left;have few:=tko.1.few;refine gz (fun h2=>?_) (fun h2=>?_)
  ·rw[if_pos ()] at L;left;refine⟨c_,fun l1 O=>?_⟩;exact kk.same x L (by walk_at "fresh") (Same.new O) (by rw[ac,bX];rfl)
  rw[if_neg ()] at L;left;refine gi (aI.of I) ?_;left;refine gB (j:=1) (v:=nv kd) (aI.of J) rfl rfl ?_;left;refine gB (j:=2) (v:=nv n) (aI.of J) rfl rfl ?_;left;refine⟨gJ,fun ta Z=>?_⟩;have al:e.vl≠ta:=aw I Z;left;refine fG (by rw[aj al];exact I) (fj ()) ?_;left;refine⟨c_,fun l1 O=>?_⟩;have an:e.p≠e.vl:=b8 t1 I (by intro z;cases z);refine y.fin x kk (e':=⟨{e.t with vouchers:=e.t.vouchers++[⟨kd,n⟩]},false,e.p,e.vl⟩) L rfl (fun b o hb n1 n2=>?_) ⟨_,ac⟩ ⟨⟨dx,fs,?_,?_⟩,?_⟩ (.inl rfl) ⟨⟨tko.1.who,fun v hv=>?_,?_⟩,tko.2⟩ O
  ·rw[aj n2,aj (aw hb Z)];exact hb
  ·show(upd (upd H ta _) e.vl _) e.p=_;rw[aj an,aj (aw t1 Z)];exact t1
  ·have:=t2.of_vou (vs:=e.t.vouchers++[⟨kd,n⟩]);rw[y.hg] at this;exact this
  ·have:=aT.snoc (x:=kd) (y:=n) t3 I Z;show aT _ e.vl (vp (e.t.vouchers++[⟨kd,n⟩]));unfold vp;rw[Oj];exact this
  ·rcases OK.mp hv with q|q
   ·exact tko.1.vou v q
   ·cases OT.mp q;exact h1
  ·show(e.t.vouchers++[_]).length<=3;rw[Of];show e.t.vouchers.length+1<=3;lia
inductive uh(A:cX)(vs:List V)(H:Hp)(Q:VK)(E:XK):Prop|mk(k:_)(_:spT A (.owes k) k [] [] vs H Q E)
theorem ui(T:Txt K mg A):fK P w K mg base 10 "answer_owes" ["park","ticket","numbers","rows"] (uh A):=by
 have S:ax ["park","ticket","numbers","rows","due"] ["park","ticket","numbers","rows"] (ap mL):=axo
 have nd:=S.nd;refine aN T.NF S (fun f O Ar outer s H vs Q E M h=>?_)
 ·obtain⟨k,p,nu,ro,rs,U,z,N,r,e,rfl,x,y,Y⟩:=h
  refine⟨_,(ae (aM nd 4 (aF (tX T) M (ab (aA (pv 0)) (ab (pv 1) (ab (aA (pv 0)) ag)))))
   (ak (au (aH (ab ao (ab (aF (tY T) M (ab (aA (pv 0)) (ab (pv 1) (ab (aA (pv 0)) (ab (pv 4) ag))))) (ab (pv 4) (ab (aA (pv 1)) ag)))))))),?_⟩
  exists 0,4,1;have pk:=y.pk;have I:=y.pk.hs;have tat:=y.tat;have tko:=y.tko;have Z:does z (.owes k)=(z,says [O1 z.tariff e.t z.now,due z.tariff e.t z.now,e.t.paid]):=gA y.told;left;refine⟨r.q,r.t,r.l,e.p,e.vl,z.tariff,r.zs,e.t,e.gone,z.now,rfl,I.tar,I.tok,tat,tko.1,tko.2,I.now,fun H1 J=>?_⟩;have L:=pk.keep J;have F:=tat.keep J;left;refine⟨r.q,r.t,r.l,e.p,e.vl,z.tariff,r.zs,e.t,e.gone,z.now,rfl,L.hs.tar,F,?_⟩;left;refine⟨Ia,fun l1 f1=>?_⟩;exact Y.same x Z (by walk_at "fresh") (J.trans (Same.new f1)) (by rw[ac,dF];rfl)
inductive uj(A:cX)(vs:List V)(H:Hp)(Q:VK)(E:XK):Prop|mk(k:_)(_:spT A (.best k) k [] [] vs H Q E)
theorem uk(T:Txt K mg A):fK P w K mg base 9 "answer_best" ["park","ticket","numbers","rows"] (uj A):=by
 have S:ax ["park","ticket","numbers","rows","base","order"] ["park","ticket","numbers","rows"] (ap mM):=axo
 have nd:=S.nd;refine aN T.NG S (fun f al Ar outer s H vs Q E M h=>?_)
 ·obtain⟨k,p,nu,ro,rs,U,z,N,r,e,rfl,x,y,kk⟩:=h
  refine⟨_,(ae (aM nd 4 (aF (nJ T) M (ab (aA (pv 0)) (ab (pv 1) (ab (aA (pv 0)) ag)))))
   (ae (aM nd 5 (aF (m9 T) M (ab (aA (pv 1)) (ab (pv 4) ag))))
   (ak (au (aD iD (aH (ab ao (ab (aF (j_ T) M (ab (aF (ji T) M (ab (aA (pv 1)) (ab (pv 5) ag))) (ab (pv 4) ag))) ag))) (pv 5)))))),?_⟩
  exists 0,4,2;have pk:=y.pk;have O:=y.pk.hs;have tat:=y.tat;have tko:=y.tko;have ed:does z (.best k)=(z,says ((ON e.t.vouchers (Qy z.tariff e.t z.now)).1::(ON e.t.vouchers (Qy z.tariff e.t z.now)).2)):=gA y.told;left;refine⟨r.q,r.t,r.l,e.p,e.vl,z.tariff,r.zs,e.t,e.gone,z.now,rfl,O.tar,O.tok,tat,tko.1,O.now,fun H1 s1=>?_⟩;have F:=tat.keep s1;generalize Qy z.tariff e.t z.now=bs at ed ⊢;left;refine⟨e.vl,e.t.vouchers,bs,rfl,F.vou,tko.1.vou,tko.1.few,fun b1 b2 b3 H2 ol s2 I=>?_⟩;have J:=F.keep s2;left;refine⟨e.vl,ol,e.t.vouchers,(ON e.t.vouchers bs).2,rfl,J.vou,aI.of I,b1,by lia,fun H3 nl f3 s3 Y=>?_⟩;left;refine⟨nl,inOrder e.t.vouchers (ON e.t.vouchers bs).2,bs,rfl,Y,fun v hv=>tko.1.vou v (jh _ b1 v hv),?_⟩;rw[b3];left;refine⟨gJ,fun l4 f4=>?_⟩;have Z:=Same.new (o:=.lst [V.int 0,nv (ON e.t.vouchers bs).1]) f4;have L:=ac (H:=H3) (a:=l4) (o:=.lst [V.int 0,nv (ON e.t.vouchers bs).1]);generalize upd H3 l4 (.lst [V.int 0,nv (ON e.t.vouchers bs).1])=H4 at Z L ⊢;left;refine lM L (Z _ _ (s3 _ _ I)) (eP (by simp only[NV,Ol,P6];lia)) fun r5 f5=>?_;refine kk.same x ed (by walk_at "fresh") (((s1.trans s2).trans s3).trans (Z.updN f5)) ?_;rw[ac,dF];rfl
inductive o6(A:cX)(vs:List V)(H:Hp)(Q:VK)(E:XK):Prop|mk(k:_)(_:spT A (.arrange k) k [] [] vs H Q E)
theorem o7(T:Txt K mg A):fK P w K mg base 9 "answer_arrange" ["park","ticket","numbers","rows"] (o6 A):=by
 have S:ax ["park","ticket","numbers","rows","order"] ["park","ticket","numbers","rows"] (ap jB):=axo
 have nd:=S.nd;refine aN T.NH S (fun f ar Ar outer s H vs Q E O h=>?_)
 ·obtain⟨k,p,nu,ro,rs,U,F,N,r,e,rfl,x,y,kk⟩:=h
  refine⟨_,(ae (aM nd 4 (aF (m9 T) O (ab (aA (pv 1)) (ab (aF (nJ T) O (ab (aA (pv 0)) (ab (pv 1) (ab (aA (pv 0)) ag)))) ag))))
   (ae (fo (pv 1) (aF (ji T) O (ab (aA (pv 1)) (ab (pv 4) ag))))
   (ak (au (aH (ab ao ag)))))),?_⟩
  exists 0,4,1;have pk:=y.pk;have Y:=y.pk.hs;have tat:=y.tat;have tko:=y.tko;have ed:does F (.arrange k)=(F.put k {e.t with vouchers:=inOrder e.t.vouchers (ON e.t.vouchers (Qy F.tariff e.t F.now)).2},says []):=gA y.told;left;refine⟨r.q,r.t,r.l,e.p,e.vl,F.tariff,r.zs,e.t,e.gone,F.now,rfl,Y.tar,Y.tok,tat,tko.1,Y.now,fun H1 Z=>?_⟩;have I:=tat.keep Z;generalize Qy F.tariff e.t F.now=bs at ed ⊢;left;refine⟨e.vl,e.t.vouchers,bs,rfl,I.vou,tko.1.vou,tko.1.few,fun b1 b2 b3 H2 ol s2 al=>?_⟩;have J:=I.keep s2;left;refine⟨e.vl,ol,e.t.vouchers,(ON e.t.vouchers bs).2,rfl,J.vou,aI.of al,b1,by lia,fun H3 nl f3 s3 an=>?_⟩;have L:=(Z.trans s2).trans s3;obtain⟨⟨dx,fs,t1,t2⟩,t3⟩:=tat.keep L;obtain⟨xs,M⟩:=t3.lst;left;refine e_ T.Kt T.Lb t1 t2.len (by decide) fun l1=>?_;left;refine⟨c_,fun l5 f5=>?_⟩;refine y.fin x kk (e':=⟨{e.t with vouchers:=inOrder e.t.vouchers (ON e.t.vouchers bs).2},false,e.p,nl⟩) ed rfl (fun b o hb n1 n2=>?_) ⟨_,by rw[aj (b8 M t1 (by intro z;cases z))];exact M⟩ ⟨⟨dx,_,ac,?_⟩,?_⟩ (.inr (aU (Z.trans s2) f3)) ⟨⟨tko.1.who,fun v hv=>tko.1.vou v (jh _ b1 v hv),?_⟩,tko.2⟩ f5
  ·rw[aj n1];exact L _ _ hb
  ·have:=t2.put_vou (vl':=nl) (vs:=inOrder e.t.vouchers (ON e.t.vouchers bs).2);rw[y.hg] at this;exact this
  ·exact an.upI t1
  ·refine Od ?_ b2;show(inOrder e.t.vouchers (ON e.t.vouchers bs).2).length<=_;unfold inOrder;exact Ta ..
inductive ul(A:cX)(vs:List V)(H:Hp)(Q:VK)(E:XK):Prop|mk(k:_)(_:spT A (.lost k) k [] [] vs H Q E)
theorem um(T:Txt K mg A):fK P w K mg base 1 "answer_lost" ["park","ticket","numbers","rows"] (ul A):=by
 have S:ax ["park","ticket","numbers","rows"] ["park","ticket","numbers","rows"] (ap mN):=axo
 have nd:=S.nd;refine aN T.NK S (fun f al Ar outer s H vs Q E hr h=>?_)
 ·obtain⟨k,p,nu,ro,rs,U,L,N,r,e,rfl,x,y,M⟩:=h
  refine⟨_,(ae (bc (dD (aA (pv 1))) (ak (au (aH (ab (aE T.Mc) ag)))) aG)
   (ae (fo (pv 1) qh)
   (ae (fo (pv 1) fk)
   (ak (au (aH (ab ao ag))))))),?_⟩
  exists 0,4,0;have tat:=y.tat;have tko:=y.tko;have J:does L (.lost k)=if e.t.lost=true then(L,Ov 5) else(L.put k {e.t with lost:=true,last:=none},says []):=gA y.told
  obtain⟨⟨dx,fs,t1,O⟩,Y⟩:=id tat;obtain⟨xs,F⟩:=Y.lst;left;refine zb (fun h1=>?_) (fun h1=>?_)
  ·rw[if_pos h1] at J;left;refine⟨c_,fun l1 f1=>?_⟩;exact M.same x J (by walk_at "fresh") (Same.new f1) (by rw[ac,bX];rfl)
  rw[if_neg (by rw[h1];intro q;cases q)] at J;left;refine e_ T.Kt T.Ld t1 O.len (by decide) fun l1=>?_;have Z:=O.put_lost;left;refine e_ T.Kt T.KR ac Z.len (by decide) fun l2=>?_;have F2:=Z.put_last (o:=none);rw[y.hg] at F2;left;refine⟨c_,fun l5 f5=>?_⟩;have I:e.vl≠e.p:=b8 F t1 (by intro z;cases z);refine y.fin x M (e':=⟨{e.t with lost:=true,last:=none},false,e.p,e.vl⟩) J rfl (fun b o hb n1 n2=>?_) ⟨_,by rw[aj I,aj I];exact F⟩ ⟨⟨dx,_,ac,F2⟩,(Y.upI t1).upI ac⟩ (.inl rfl) ⟨⟨tko.1.who,tko.1.vou,tko.1.few⟩,tko.2⟩ f5;rw[aj n1,aj n1];exact hb
inductive rJ(A:cX)(vs:List V)(H:Hp)(Q:VK)(E:XK):Prop|mk(k:_)(_:spT A (.leave k) k [] [] vs H Q E)
theorem rK(T:Txt K mg A):fK P w K mg base 11 "answer_leave" ["park","ticket","numbers","rows"] (rJ A):=by
 have S:ax ["park","ticket","numbers","rows","owed"] ["park","ticket","numbers","rows"] (ap lm):=axo
 have nd:=S.nd;refine aN T.NL S (fun f al Ar outer s H vs Q E hr h=>?_)
 ·obtain⟨k,p,nu,ro,rs,U,F,N,r,e,rfl,x,y,O⟩:=h
  refine⟨_,(ae (aM nd 4 (aF (qL T) hr (ab (pv 0) (ab (pv 1) ag))))
   (ae (bc (dA gP (pv 4) ao) (ak (au (aH (ab (aE T.Mh) (ab (pv 4) ag))))) aG)
   (ae (fo (pv 1) qh)
   (ak (au (aH (ab ao ag))))))),?_⟩
  exists 0,4,1;have tat:=y.tat;have tko:=y.tko;have I:does F (.leave k)=if O1 F.tariff e.t F.now=0 then({F with tickets:=F.tickets.set k none},says []) else(F,noWith 9 [O1 F.tariff e.t F.now]):=gA y.told
  left;refine⟨p,F,r,N,e,rfl,y.pk,y.mem,fun H1 L=>?_⟩;generalize O1 F.tariff e.t F.now=ow at I ⊢;left;refine gz (fun h1=>?_) (fun h1=>?_)
  ·rw[if_neg ()] at I;left;refine⟨gJ,fun l1 f1=>?_⟩;exact O.same x I (by walk_at "fresh") (L.trans (Same.new f1)) (by rw[ac,lU];rfl)
  rw[if_pos ()] at I;obtain⟨⟨dx,fs,t1,Y⟩,Z⟩:=tat.keep L;obtain⟨xs,J⟩:=Z.lst;left;refine e_ T.Kt T.Le t1 Y.len (by decide) fun l1=>?_;have F1:=Y.put_gone;left;refine⟨c_,fun l5 f5=>?_⟩;have M:e.vl≠e.p:=b8 J t1 (by intro z;cases z);refine y.fin x O (e':=⟨e.t,true,e.p,e.vl⟩) I rfl (fun b o hb n1 n2=>?_) ⟨_,by rw[aj M];exact J⟩ ⟨⟨dx,_,ac,F1⟩,Z.upI t1⟩ (.inl rfl) tko f5;rw[aj n1];exact L _ _ hb
theorem EA{b:Bool}{σ:L2.St}{H:Hp}{Q:VK}(q:Q (.int (if b=true then 1 else 0)) H):if b=true then tC (.int 1) σ H Q else tC (.int 0) σ H Q:=by
 cases b<;>exact q
def Bo(t:OF):Nat:=match t.last with
 |none=>0
 |some u=>u+1
inductive qd(A:cX)(vs:List V)(H:Hp)(Q:VK)(E:XK):Prop|mk(k:_)(_:spT A (.ticket k) k [] [] vs H Q E)
theorem qe(T:Txt K mg A):fK P w K mg base 1 "answer_ticket" ["park","ticket","numbers","rows"] (qd A):=by
 have S:ax ["park","ticket","numbers","rows","answer","voucher"] ["park","ticket","numbers","rows"] (ap kr):=axo
 have nd:=S.nd;refine aN T.NM S (fun f bd Ar outer s H vs Q E hr h=>?_)
 ·obtain⟨k,p,nu,ro,rs,U,ho,N,r,e,rfl,x,y,kk⟩:=h
  refine⟨_,(ae (aM nd 4 (aH (ab ao (ab (aA (pv 1)) (ab (fh (dA qi (aA (pv 1)) de) ao ao) (ab (aA (pv 1)) (ab (aA (pv 1)) ag)))))))
   (ae (dr (gh PySem.F.plainAttrs_list PySem.F.slot_list_append PySem.F.type_list_append eX (pv 4) (ab (fh (dD (aA (pv 1))) ao ao) ag)))
   (ae (dr (gh PySem.F.plainAttrs_list PySem.F.slot_list_append PySem.F.type_list_append eX (pv 4) (ab (fh (dA nP (aA (pv 1)) fk) (aD b0 (aA (pv 1)) ao) ao) ag)))
   (ae (dr (gh PySem.F.plainAttrs_list PySem.F.slot_list_append PySem.F.type_list_append eX (pv 4) (ab (az aB (by rfl) T.Ks bU (ab (aA (pv 1)) ag)) ag)))
   (ae (fW OU.never rfl (dj (aA (pv 1))) (eU nd 5) (ak (dr (gh PySem.F.plainAttrs_list PySem.F.slot_list_extend PySem.F.type_list_extend gv (pv 4) (ab (c9 jQ (by rfl) T.KL (by rfl) (ab (pv 5) ag)) ag)))))
   (ak (au (pv 4)))))))),?_⟩
  exists 0,4,2;have tat:=y.tat;have tko:=y.tko;have few:=tko.1.few;have ed:does ho (.ticket k)=(ho,says ([e.t.who.cls,if e.t.who.card.isSome=true then 1 else 0,e.t.from_,e.t.paid,if e.t.lost=true then 1 else 0,Bo e.t,e.t.vouchers.length]++e.t.vouchers.flatMap fun v=>[v.kind,v.n])):=gA y.told
  have M:(!decide (dC e.t.who.card=[]))=e.t.who.card.isSome:=by
   have nc:=tko.1.who.card;cases hc:e.t.who.card with
   |none=>rfl
   |some b=>
    rw[hc] at nc;cases b with
    |nil=>exact absurd rfl nc
    |cons c b=>rfl
  obtain⟨zs,z1,z2,z3⟩:=tat.vou.zip
  have zl:zs.length=e.t.vouchers.length:=by
   have:=congrArg Os z1;simpa using this
  left;rw[nk,j5,M];refine EA ?_;left;refine⟨len5,fun J f1=>?_⟩;have s1:=Same.new (o:=.lst [V.int 0,nv e.t.who.cls,V.int (if e.t.who.card.isSome=true then 1 else 0),nv e.t.from_,nv e.t.paid]) f1;have O:=ac (H:=H) (a:=J) (o:=.lst [V.int 0,nv e.t.who.cls,V.int (if e.t.who.card.isSome=true then 1 else 0),nv e.t.from_,nv e.t.paid]);generalize upd H J (.lst [V.int 0,nv e.t.who.cls,V.int (if e.t.who.card.isSome=true then 1 else 0),nv e.t.from_,nv e.t.paid])=H1 at s1 O ⊢;have b3:=tat.keep s1;left;refine gi (aI.of O) ?_;left;refine EA ?_;left;refine fG O (fj (by simp)) ?_;have s2:=s1.upd (o:=.lst ([V.int 0,nv e.t.who.cls,V.int (if e.t.who.card.isSome=true then 1 else 0),nv e.t.from_,nv e.t.paid]++[V.int (if e.t.lost=true then 1 else 0)])) f1;have Y:=ac (H:=H1) (a:=J) (o:=.lst ([V.int 0,nv e.t.who.cls,V.int (if e.t.who.card.isSome=true then 1 else 0),nv e.t.from_,nv e.t.paid]++[V.int (if e.t.lost=true then 1 else 0)]));generalize upd H1 J (.lst ([V.int 0,nv e.t.who.cls,V.int (if e.t.who.card.isSome=true then 1 else 0),nv e.t.from_,nv e.t.paid]++[V.int (if e.t.lost=true then 1 else 0)]))=H2 at s2 Y ⊢;have b4:=tat.keep s2;left;refine gi (aI.of Y) ?_;left;obtain⟨L,Z⟩:∃L,L=Bo e.t:=⟨_,rfl⟩;rw[<-Z] at ed;cases hl:e.t.last
  case' none=>
   rw[pY];left;rw[show V.int 0=nv L by rw[Z];unfold Bo;rw[hl];rfl]
  case' some u=>
   rw[jK];left;rw[hl,jK];left;rw[show V.int ((u:Int)+1)=nv L by rw[Z];unfold Bo;rw[hl];rfl]
  all_goals
   refine fG Y (fj (by simp)) ?_;have s3:=s2.upd (o:=.lst (([V.int 0,nv e.t.who.cls,V.int (if e.t.who.card.isSome=true then 1 else 0),nv e.t.from_,nv e.t.paid]++[V.int (if e.t.lost=true then 1 else 0)])++[nv L])) f1;have al:=ac (H:=H2) (a:=J) (o:=.lst (([V.int 0,nv e.t.who.cls,V.int (if e.t.who.card.isSome=true then 1 else 0),nv e.t.from_,nv e.t.paid]++[V.int (if e.t.lost=true then 1 else 0)])++[nv L]));generalize upd H2 J (.lst (([V.int 0,nv e.t.who.cls,V.int (if e.t.who.card.isSome=true then 1 else 0),nv e.t.from_,nv e.t.paid]++[V.int (if e.t.lost=true then 1 else 0)])++[nv L]))=H3 at s3 al ⊢;have b5:=tat.keep s3;left;refine gi (aI.of al) ?_;left;refine dI (aI.of (s3 _ _ z2)) ?_;rw[NV,zl];left;refine fG al (fj (by simp)) ?_;have s4:=s3.upd (o:=.lst ((([V.int 0,nv e.t.who.cls,V.int (if e.t.who.card.isSome=true then 1 else 0),nv e.t.from_,nv e.t.paid]++[V.int (if e.t.lost=true then 1 else 0)])++[nv L])++[nv e.t.vouchers.length])) f1;have as:=ac (H:=H3) (a:=J) (o:=.lst ((([V.int 0,nv e.t.who.cls,V.int (if e.t.who.card.isSome=true then 1 else 0),nv e.t.from_,nv e.t.paid]++[V.int (if e.t.lost=true then 1 else 0)])++[nv L])++[nv e.t.vouchers.length]));generalize upd H3 J (.lst ((([V.int 0,nv e.t.who.cls,V.int (if e.t.who.card.isSome=true then 1 else 0),nv e.t.from_,nv e.t.paid]++[V.int (if e.t.lost=true then 1 else 0)])++[nv L])++[nv e.t.vouchers.length]))=H4 at s4 as ⊢;have b6:=tat.keep s4;left;refine kE (Hb:=H) (xs:=zs.map fun z=>V.ref z.2) s4 (aI.of z2) (fun i σ H'=>∃v5,σ=[some (.ref p),some (.ref e.p),some (.ref nu),some (.ref ro),some (.ref J),v5]/\Same H H'/\H' J=some (.lst (((([V.int 0,nv e.t.who.cls,V.int (if e.t.who.card.isSome=true then 1 else 0),nv e.t.from_,nv e.t.paid]++[V.int (if e.t.lost=true then 1 else 0)])++[nv L])++[nv e.t.vouchers.length])++((e.t.vouchers.map fun v=>[v.kind,v.n]).take i).flatten.map nv))) ⟨_,rfl,s4,by rw[as];simp⟩ (fun i σ H' h=>by obtain⟨_,_,h,_⟩:=h;exact h) ?_ ?_
   ·rintro i xv σ H' hx ⟨v8,rfl,s5,I⟩;rw[NZ] at hx;obtain⟨z,hz,rfl⟩:=Oc.mp hx;have ar:(vp e.t.vouchers)[i]?=some z.1:=by rw[<-z1,NZ,hz];rfl
    have av:(e.t.vouchers.map fun v=>[v.kind,v.n])[i]?=some [z.1.1,z.1.2]:=by
     unfold vp at ar;rw[NZ] at ar ⊢;obtain⟨v,hv,b1⟩:=Oc.mp ar;rw[hv,<-b1];rfl
    have ht:=s5 _ _ (z3 z (Oe hz))
    have b2:((e.t.vouchers.map fun v=>[v.kind,v.n]).take i).flatten.length<=2*(e.t.vouchers.map fun v=>[v.kind,v.n]).length:=kh (c:=2) fun y hy=>by
     obtain⟨v,_,rfl⟩:=Oq.mp hy;exact NX 2
    rw[NV] at b2;left;refine gi (aI.of I) ?_;left;refine⟨z.2,[nv z.1.1,nv z.1.2],rfl,.inr (gI.of ht),fun l6 f6=>?_⟩;have n6:J≠l6:=aw I f6;left;refine gS (by rw[aj n6];exact I) ac (eP (by simp only[Of,NV,Ol,P6];lia)) ?_;left;refine⟨_,rfl,(s5.updN f6).upd f1,?_⟩;rw[ac,jL av,Oj,Oz];rfl
   ·rintro σ H' ⟨v8,rfl,s5,I⟩;rw[NV,OD (by rw[NV];lia)] at I;left;refine kk.same x ed (by walk_at "fresh") s5 ?_;rw[I,dF,Uu,Oj];cases e.t.lost<;>cases e.t.who.card.isSome<;>rfl
theorem uq{m:Nat}{z:List Nat}(h:isCoins m z=true):z.length=8/\∀n∈z,n<=m:=by
 unfold isCoins at h;rw[NW] at h;exact⟨eq_of_beq h.1,fun n F=>of_decide_eq_true (OM.mp h.2 n F)⟩
theorem Bp:∀(fs:List (N_×V))(ks:List N_),ks.Nodup->(∀k∈ks,∃v,OV k fs=some v)->ks.length<=fs.length
 |[],ks,_,h=>by
  cases ks with
  |nil=>exact NX 0
  |cons k ks=>
   obtain⟨v,hv⟩:=h k (Oi ..);cases hv
 |(g,x)::fs,ks,nd,h=>by
  have I:=Bp fs (ks.erase g) (nd.erase g) fun k J=>by
   have F:=(nd.mem_erase_iff).mp J;obtain⟨v,hv⟩:=h k F.2;rw[Qs] at hv
   have:(k==g)=false:=by
    apply Pf.mpr;intro z;exact F.1 (eq_of_beq z)
   rw[this] at hv;exact⟨v,hv⟩
  rw[length_erase] at I;rw[Ol];split at I<;>lia
theorem iV.none{fs:List (N_×V)}{tv I J L M pv:V}(F:iV fs tv I J L M pv){f:N_}(O:(f::["tariff","coins","now","cards","tickets","payments"]).Nodup):OV f fs=none:=by
 by_cases q:OV f fs=R1
 ·exact q
 ·obtain⟨v,hv⟩:=Qb.mp q
  have:=Bp fs (f::["tariff","coins","now","cards","tickets","payments"]) O fun k z=>by
   simp only[Og,Oy,or_false] at z;rcases z with rfl|rfl|rfl|rfl|rfl|rfl|rfl
   ·exact⟨_,hv⟩
   ·exact⟨_,F.tariff⟩
   ·exact⟨_,F.coins⟩
   ·exact⟨_,F.now⟩
   ·exact⟨_,F.cards⟩
   ·exact⟨_,F.tickets⟩
   ·exact⟨_,F.payments⟩
  have S:=F.len;simp only[Ol,P6] at this;lia
theorem JB{r:Rf}{c:Addr}{k:Nat}{e':m_}{b:Addr}(hb:b∈({r with c:=c,tk:=r.tk.set k e'}:Rf).ls):b∈r.ls\/b=e'.vl\/b=c:=by
 have hb:b∈c::([r.t,r.l,r.lc,r.lt,r.lp]++(r.tk.set k e').map (·.vl)):=hb;rcases Og.mp hb with q|q
 ·exact .inr (.inr q)
 ·have:b∈({r with tk:=r.tk.set k e'}:Rf).ls:=N5 r.c q;rcases Ez this with z|z
  ·exact .inl z
  ·exact .inr (.inl z)
inductive uU(A:cX)(vs:List V)(H:Hp)(Q:VK)(E:XK):Prop|mk(k z:_)(_:z.length<=1500)(_:spT A (.pay k z) k [] [z] vs H Q E)
theorem uV(T:Txt K mg A):fK P w K mg base 12 "answer_pay" ["park","ticket","numbers","rows"] (uU A):=by
 obtain⟨f_Park_take_payment,fd_Park_take_payment,M_Park_take_payment,b_Park_take_payment,G_Park_take_payment⟩:=lT (P:=P) (w:=w) (base:=base) T;have S:ax ["park","ticket","numbers","rows","coins","owed","back","together","held","handed","change","kept","had","given"] ["park","ticket","numbers","rows"] (ap oq):=axo
 have nd:=S.nd;refine aN T.NJ S (fun f cv Ar outer s H vs Q E hr h=>?_)
 ·obtain⟨k,J,cL,p,nu,ro,rs,U,F,N,r,e,rfl,x,y,kk⟩:=h
  refine⟨_,(ae (aM nd 4 (ba ay (pv 3) ao))
   (ae (bc (fI (dD (aF (ka T) hr (ab (pv 4) (ab (aE T.L6) ag))))) (ak (au (aH (ab (aE T.Ky) ag)))) aG)
   (ae (aM nd 5 (aF (qL T) hr (ab (pv 0) (ab (pv 1) ag))))
   (ae (bc (dA fB (pv 5) ao) (ak (au (aH (ab (aE T.Mb) ag)))) aG)
   (ae (aM nd 6 (aD bO (aF (yW T) hr (ab (pv 4) ag)) (pv 5)))
   (ae (bc (dA iX (pv 6) ao) (ak (au (aH (ab (aE T.Me) (ab (kj gU (pv 6)) ag))))) aG)
   (ae (bc (dA gP (pv 6) (aE T.Lk)) (ak (au (aH (ab (aE T.Mf) ag)))) aG)
   (ae (ju (i:=7) rfl nd rfl rfl (lY rfl rfl rfl (by decide+kernel)) (Dy (by rfl) T.K5 (ab (aA (pv 0)) (ab (pv 4) ag))) (dn (own:=[("held",8),("handed",9)]) rfl) (fun _ _ _ _ _=>(by exact(jc (K:=K) (n:=2) rfl rfl (cg (eU nd 8) (cg (eU nd 9) gm))))) (fun _ _ _ _ _=>(by exact fA)) (fun _ _ _ _ _=>(by exact(aD b0 (pv 8) (pv 9)))))
   (ae (aM nd 10 (aF (oT T) hr (ab (pv 7) (ab (pv 6) ag))))
   (ae (bc (dA ph (pv 10) fk) (ak (au (aH (ab (aE T.Ln) ag)))) aG)
   (ae (ju (i:=11) rfl nd rfl rfl (lY rfl rfl rfl (by decide+kernel)) (Dy (by rfl) T.K5 (ab (pv 7) (ab (pv 10) ag))) (dn (own:=[("had",12),("given",13)]) rfl) (fun _ _ _ _ _=>(by exact(jc (K:=K) (n:=2) rfl rfl (cg (eU nd 12) (cg (eU nd 13) gm))))) (fun _ _ _ _ _=>(by exact fA)) (fun _ _ _ _ _=>(by exact(aD bO (pv 12) (pv 13)))))
   (ae (bc (fI (dD (aF (ka T) hr (ab (pv 11) (ab (aE T.Lj) ag))))) (ak (au (aH (ab (aE T.Mi) ag)))) aG)
   (ae (dr (wm (pv 0) T.Kv M_Park_take_payment G_Park_take_payment (hr.mono (by decide)) b_Park_take_payment .nil i6 (ab (pv 1) (ab (pv 5) (ab (pv 11) ag)))))
   (ak (au (aD iD (aH (ab ao ag)) (pv 10))))))))))))))))),?_⟩
  exists 0,4,10;have pk:=y.pk;have hh:=y.pk.hs;obtain⟨r0,q0,e0,h0⟩:=x.rows.ex (i:=0) rfl
  have I:does F (.pay k J)=(if isCoins 20 J=false then(F,Ov 1) else if O1 F.tariff e.t F.now=0 then(F,Ov 5) else if worth J<O1 F.tariff e.t F.now then(F,noWith 6 [O1 F.tariff e.t F.now-worth J]) else if 1000<worth J-O1 F.tariff e.t F.now then(F,Ov 7) else match Qq (plus F.coins J) (worth J-O1 F.tariff e.t F.now) with
   |none=>(F,Ov 8)
   |some d=>if isCoins 40 (minus (plus F.coins J) d)=false then(F,Ov 10) else(⟨F.tariff,F.now,F.seasons,F.tickets.set k (some ⟨e.t.who,e.t.season,e.t.from_,e.t.vouchers,e.t.paid+O1 F.tariff e.t F.now,some F.now,e.t.lost⟩),minus (plus F.coins J) d,F.float_,F.journal++[⟨F.now,k,O1 F.tariff e.t F.now⟩]⟩,says d)):=gA y.told
  left;refine gB (j:=0) (v:=.ref r0) (aI.of x.rows.lst) rfl e0 ?_;left;refine⟨r0,J,20,rfl,aI.of h0,?_⟩;left;refine jq (fun h1=>?_) (fun h1=>?_)
  ·rw[if_pos h1] at I;left;refine⟨c_,fun l1 M=>?_⟩;exact kk.same x I (by walk_at "fresh") (Same.new M) (by rw[ac,bX];rfl)
  rw[if_neg (by rw[h1];intro q;cases q)] at I;obtain⟨d0,b2⟩:=uq h1;left;refine⟨p,F,r,N,e,rfl,y.pk,y.mem,fun H1 s1=>?_⟩;generalize O1 F.tariff e.t F.now=ow at I ⊢;left;refine gz (fun h2=>?_) (fun h2=>?_)
  ·rw[if_pos ()] at I;left;refine⟨c_,fun l1 M=>?_⟩;exact kk.same x I (by walk_at "fresh") (s1.trans (Same.new M)) (by rw[ac,bX];rfl)
  rw[if_neg ()] at I;left;refine⟨r0,J,rfl,aI.of (s1 _ _ h0),fun H2 s2=>?_⟩;have O:=s1.trans s2;generalize worth J=wo at I ⊢;left;refine gz (fun h3=>?_) (fun h3=>?_)
  ·rw[if_pos ()] at I;left;refine⟨gJ,fun l1 M=>?_⟩;refine kk.same x I (by walk_at "fresh") (O.trans (Same.new M)) ?_;rw[ac,lU,show -((wo:Int)-(ow:Int))=((ow-wo:Nat):Int) by lia];rfl
  rw[if_neg ()] at I;left;refine gz (fun h4=>?_) (fun h4=>?_)
  ·rw[if_pos ()] at I;left;refine⟨c_,fun l1 M=>?_⟩;exact kk.same x I (by walk_at "fresh") (O.trans (Same.new M)) (by rw[ac,bX];rfl)
  rw[if_neg ()] at I;have c2:=pk.keep O;have b3:=c2.hs.coins;have b4:=O _ _ h0;have c8:=hh.c8;have c40:=hh.c40;left;refine⟨r.c,r0,_,_,rfl,aI.of b3,aI.of b4,?_⟩;have rn:=yD (K:=K) (aI.of b3) (aI.of b4);have en:min (F.coins.map nv).length (J.map nv).length=(F.coins.zip J).length:=by rw[NV,NV,Qv]
  rw[en] at rn;refine Gs (l:=F.coins.zip J) rn (by rw[Qv];lia) (fun _=>true) (fun _ x v _=>v=nv (x.1+x.2)) (fun _ _ _ _ _ _ h _=>h) (fun _ _ _ _ _ _ _ h _=>h) ?_ ?_
  ·intro P i z X H3 acc L s3 hP c3 hX R R' k1 k2;obtain⟨tt,u,v,rfl,ar,hu,hv⟩:=hX;rw[O_] at L;rw[NZ,L.1] at hu;rw[NZ,L.2] at hv;cases hu;cases hv;dsimp only[bV,OX,Pl];refine qV (gI.of ar) rfl ?_;left;refine⟨rfl,?_⟩;left;exact k1 _ H3 rfl (Same.refl _) rfl
  intro tg H3 zs f3 s3 Y b5 c4;rw[OR.mpr (fun _ _=>rfl)] at b5
  have e3:zs.map (·.2)=(plus F.coins J).map nv:=by
   unfold plus;rw[<-b5,On,On];apply Om;intro z hz;exact c4 z hz
  rw[e3] at Y;have as:=O.trans s3
  have p8:(plus F.coins J).length=8:=by
   unfold plus;rw[NV,Qv];lia
  have an:∀n∈plus F.coins J,n<=100:=fun n hn=>by
   unfold plus at hn;obtain⟨z,hz,rfl⟩:=Oq.mp hn;have:=RL hz;have:=c40 _ this.1;have:=b2 _ (RL hz).2;show z.1+z.2<=100;lia
  generalize plus F.coins J=pl at I Y p8 an ⊢;have eb:(wo:Int)-(ow:Int)=((wo-ow:Nat):Int):=by lia
  left;rw[eb];refine⟨tg,wo-ow,pl,rfl,aI.of Y,p8,an,by lia,fun Z H4 s4=>?_,fun dd Z H4 ch f4 s4 av=>?_⟩
  ·rw[Z] at I;left;refine⟨c_,fun l1 M=>?_⟩;exact kk.same x I (by walk_at "fresh") ((as.trans s4).trans (Same.new M)) (by rw[ac,bX];rfl)
  rw[Z] at I;obtain⟨d8,c5⟩:=sZ Z p8;have b6:=as.trans s4;have bd:=s4 _ _ Y;left;refine⟨tg,ch,_,_,rfl,aI.of bd,aI.of av,?_⟩;have bk:=yD (K:=K) (aI.of bd) (aI.of av);have c6:min (pl.map nv).length (dd.map nv).length=(pl.zip dd).length:=by rw[NV,NV,Qv]
  rw[c6] at bk;refine Gs (l:=pl.zip dd) bk (by rw[Qv];lia) (fun _=>true) (fun _ x v _=>v=nv (x.1-x.2)) (fun _ _ _ _ _ _ h _=>h) (fun _ _ _ _ _ _ _ h _=>h) ?_ ?_
  ·intro P i z X H5 acc L s5 hP c3 hX R R' k1 k2;obtain⟨tt,u,v,rfl,ar,hu,hv⟩:=hX;rw[O_] at L;rw[NZ,L.1] at hu;rw[NZ,L.2] at hv;cases hu;cases hv;have d1:=c5 i z.2 z.1 L.2 L.1;dsimp only[bV,OX,Pl];refine qV (gI.of ar) rfl ?_;left;refine⟨rfl,?_⟩;left;exact k1 _ H5 rfl (Same.refl _) (by show V.int _=V.int _;congr 1;lia)
  intro kp H5 c7 f5 s5 al bo ca;rw[OR.mpr (fun _ _=>rfl)] at bo
  have e5:c7.map (·.2)=(minus pl dd).map nv:=by
   unfold minus;rw[<-bo,On,On];apply Om;intro z hz;exact ca z hz
  rw[e5] at al;have I:does F (.pay k J)=if isCoins 40 (minus pl dd)=false then(F,Ov 10) else(⟨F.tariff,F.now,F.seasons,F.tickets.set k (some ⟨e.t.who,e.t.season,e.t.from_,e.t.vouchers,e.t.paid+ow,some F.now,e.t.lost⟩),minus pl dd,F.float_,F.journal++[⟨F.now,k,ow⟩]⟩,says dd):=I
  generalize minus pl dd=mi at I al ⊢;have b1:=b6.trans s5;left;refine⟨kp,mi,40,rfl,aI.of al,?_⟩;left;refine jq (fun h6=>?_) (fun h6=>?_)
  ·rw[if_pos h6] at I;left;refine⟨c_,fun l1 M=>?_⟩;exact kk.same x I (by walk_at "fresh") (b1.trans (Same.new M)) (by rw[ac,bX];rfl)
  rw[if_neg (by rw[h6];intro q;cases q)] at I;obtain⟨m8,ce⟩:=uq h6;have bq:=pk.keep b1;obtain⟨dx,fs,g1,g2⟩:=bq.ins;have bs:=aU b6 f5
  have cf:kp∉r.ls:=fun q=>by
   obtain⟨xs,L⟩:=hh.ls_at _ q;rw[bs] at L;cases L
  left;refine⟨p,dx,fs,rfl,g1,g2.none (by decide+kernel),?_⟩;left;refine⟨p,kp,F,r,N,k,ow,e,mi,rfl,bq,y.he,y.hg,al,m8,ce,cf,Od x.few (by decide),x.dst,fun H6 e' ev cm co ct=>?_⟩
  have c0:H6 ch=some (.lst (dd.map nv)):=ct ch _ (s5 _ _ av) ⟨_,rfl⟩ fun q=>by
   obtain⟨xs,L⟩:=hh.ls_at _ q;have:=aU as f4;rw[this] at L;cases L
  left;refine⟨c_,fun l7 f7=>?_⟩;have c1:=ac (H:=H6) (a:=l7) (o:=.lst [V.int 0]);have s7:=Same.new (o:=.lst [V.int 0]) f7;have u7:=ue (U:=U) (o:=.lst [V.int 0]) (x.u_lf ((LF.same (ls:=r.ls) b1).trans co fun u q=>.inl q) y.hU) x.uo f7;generalize upd H6 l7 (.lst [V.int 0])=H7 at c1 s7 u7 ⊢;left;refine lM c1 (s7 _ _ c0) (eP (by simp only[NV,Ol,P6];lia)) fun r8 f8=>?_;refine kk _ r8 (kf u7 x.uo f8) ?_ (ue u7 x.uo f8) ?_
  ·rw[I];refine dB.of (cm.keep (s7.updN f8)) fun b hb=>?_;rcases JB hb with q|q|q
   ·exact y.hU b q
   ·rw[q,ev];exact y.hU _ (yZ y.mem)
   ·rw[q];exact x.fresh bs
  ·rw[I,ac,dF];rfl
theorem dB.inst{H:Hp}{p:Addr}{U:Addr->Prop}{s:OS}{N:Nat}(x:dB A H p U s N):∃dx fs,H p=some (.ins A.Park dx fs)/\∃tv z I J L pv,iV fs tv z I J L pv:=by
 obtain⟨dx,fs,h1,h2⟩:=x;refine⟨dx,fs,h1,?_⟩;cases s with
 |none=>
  obtain⟨z,I,J,L,pv,F⟩:=h2;exact⟨_,z,I,J,L,pv,F⟩
 |some h=>
  obtain⟨r,a,F,c⟩:=h2;exact⟨_,_,_,_,_,_,F⟩
def EB(A:cX)(H:Hp)(p:Addr)(U:Addr->Prop)(s:OS)(N:Nat)(c:OY)(Q:VK):Prop:=
 ∀(H':Hp)(r:Addr),¬U r->dB A H' p U (PK s c).1 (N+1)->(∀u,U u->H' u=H u)->H' r=some (.lst (jj (PK s c).2))->Q (.ref r) H'
theorem EB.same{H H1:Hp}{p r:Addr}{U:Addr->Prop}{s:OS}{N:Nat}{c:OY}{a:Answer}{Q:VK}(k:EB A H p U s N c Q)(x:dB A H p U s N)(uo:∀u,U u->(∃xs,H u=some (.lst xs))\/∃o x,H u=some (.frz o x))(e:PK s c=(s,a))(f:H r=none)(F:Same H H1)(I:H1 r=some (.lst (jj a))):Q (.ref r) H1:=by
 refine k H1 r (fun q=>by rcases uo r q with⟨xs,z⟩|⟨o,y,z⟩<;>rw[f] at z<;>cases z) ?_ (fun u J=>LF.same (ls:=[]) F u (uo u J) (by simp)) ?_
 ·rw[e];exact(x.keep F).more (PY N)
 ·rw[e];exact I
inductive qf(A:cX)(vs:List V)(H:Hp)(Q:VK)(E:XK):Prop|mk(tb:OB)(z:List Nat)(p nu ro:Addr)(rs:List Addr)(U:Addr->Prop)(s:OS)(N:Nat)(_:vs=[.ref p,.ref nu,.ref ro])(_:dB A H p U s N)(_:fR H ro rs [tb.map UInt8.toNat,z])(_:rs.Nodup)(_:(∀a∈rs,¬U a))(_:(∀u,U u->(∃xs,H u=some (.lst xs))\/∃o x,H u=some (.frz o x)))(_:Gz A)(_:tb.length<=5000)(_:z.length<=1500)(_:EB A H p U s N (.tariff tb z) Q)
theorem qg(T:Txt K mg A):fK P w K mg base 6 "answer_tariff" ["park","numbers","rows"] (qf A):=by
 obtain⟨f_Park_begin_anew,fd_Park_begin_anew,M_Park_begin_anew,b_Park_begin_anew,G_Park_begin_anew⟩:=iW (P:=P) (w:=w) (base:=base) T;have S:ax ["park","numbers","rows","text","coins","lines","fault"] ["park","numbers","rows"] (ap ko):=axo
 have nd:=S.nd;refine aN T.Nu S (fun f ce Ar outer s H vs Q E hr h=>?_)
 ·obtain⟨tb,Z,p,nu,ro,rs,U,s,N,rfl,al,an,bk,rU,uo,dst,as,cf,kk⟩:=h
  refine⟨_,(ae (aM nd 3 (ba ay (pv 2) ao))
   (ae (aM nd 4 (ba ay (pv 2) ao))
   (ae (bc (dA gP (az aB (by rfl) T.Ks bU (ab (pv 3) ag)) (aE T.L4)) (ak (au (aH (ab (aE T.L_) ag)))) aG)
   (ae (bc (fI (dD (aF (ka T) hr (ab (pv 4) (ab (aE T.Lj) ag))))) (ak (au (aH (ab (aE T.Ky) ag)))) aG)
   (ae (aM nd 5 (aF (yR T) hr (ab (pv 3) ag)))
   (ae (aM nd 6 (aF (tV T) hr (ab (pv 5) ag)))
   (ae (bc (dA qi (ba gX (pv 6) ao) (aE T.KG)) (ak (au (aH (ab (aE T.Md) (ab (ba gX (pv 6) ao) (ab (ba gX (pv 6) ao) ag)))))) aG)
   (ae (dr (wm (pv 0) T.Kv M_Park_begin_anew G_Park_begin_anew (hr.mono (by decide)) b_Park_begin_anew .nil i6 (ab (j7 (CK T) T.MB hr (ab (pv 3) (ab (pv 5) ag))) (ab (pv 4) ag))))
   (ak (au (aH (ab ao ag)))))))))))),?_⟩
  exists 0,3,4;obtain⟨L,q0,e0,h0⟩:=an.ex (i:=0) rfl;obtain⟨M,q1,e1,h1⟩:=an.ex (i:=1) rfl;have bo:L≠M:=fun q=>absurd (DE bk (i:=0) (j:=1) (x:=L) q0 (by rw[q1,q])) (by decide);have U0:=rU L (Oe q0);have U1:=rU M (Oe q1)
  have O:PK s (.tariff tb Z)=if 4096<tb.length then(s,Ov 2) else if isCoins 40 Z=false then(s,Ov 1) else(match Tb tb with
   |.error e=>(s,noWith 6 [e.1,e.2])
   |.ok T=>(some ⟨T,0,[],[],Z,Z,[]⟩,says [])):=rfl
  left;refine gB (j:=0) (v:=.ref L) (aI.of an.lst) rfl e0 ?_;left;refine gB (j:=1) (v:=.ref M) (aI.of an.lst) rfl e1 ?_;left;refine dI (aI.of h0) ?_;rw[NV,NV];left;refine gz (fun h2=>?_) (fun h2=>?_)
  ·rw[if_pos ()] at O;left;refine⟨c_,fun l1 f1=>?_⟩;exact kk.same al uo O (by walk_at "fresh") (Same.new f1) (by rw[ac,bX];rfl)
  rw[if_neg ()] at O;left;refine⟨M,Z,40,rfl,aI.of h1,?_⟩;left;refine jq (fun h3=>?_) (fun h3=>?_)
  ·rw[if_pos h3] at O;left;refine⟨c_,fun l1 f1=>?_⟩;exact kk.same al uo O (by walk_at "fresh") (Same.new f1) (by rw[ac,bX];rfl)
  rw[if_neg (by rw[h3];intro q;cases q)] at O;obtain⟨c8,c40⟩:=uq h3;have bq:(tb.map UInt8.toNat).map bM=FM.sg tb:=ud tb;left;refine⟨L,tb.map UInt8.toNat,rfl,aI.of h0,jE tb,by rw[NV];lia,fun H1 rl f1 s1 hl=>?_⟩;rw[bq] at hl;have wk:=Eo as;have pl:=v_ 10 (FM.sg tb);rw[gx] at pl
  have pp:0<(aJ 10 (FM.sg tb)).length:=by
   obtain⟨h,t,e⟩:=iT 10 (FM.sg tb);rw[e];exact So _
  left;refine⟨rl,aJ 10 (FM.sg tb),rfl,aI.of hl,lR wk.1 wk.2,pp,by lia,fun H2 ft s2 av=>?_⟩;have J:=s1.trans s2;left;refine C1 (j:=0) (v:=nv (dy (aJ 10 (FM.sg tb))).1) (gI.of av) rfl rfl ?_;left;refine FH (fun h4=>?_) (fun h4=>?_)
  ·rw[(wN tb).1 ()] at O;left;refine C1 (j:=0) (v:=nv (dy (aJ 10 (FM.sg tb))).1) (gI.of av) rfl rfl ?_;left;refine C1 (j:=1) (v:=nv (dy (aJ 10 (FM.sg tb))).2) (gI.of av) rfl rfl ?_;left;refine⟨uF,fun l1 f1=>?_⟩;exact kk.same al uo O (by walk_at "fresh") (J.trans (Same.new f1)) (by rw[ac,lU];rfl)
  obtain⟨Tf,rd⟩:=En (tb:=tb) ();rw[rd.ok] at O;have bs:=vP rd.ok;obtain⟨dx,fs,g1,tv,cv,wv,dv,kv,pv,F⟩:=(al.keep J).inst;left;refine⟨p,dx,fs,rfl,g1,F.none (by decide+kernel),?_⟩;left;intro qa b1 nq b3 c0;have sq:Same H2 (upd (upd H2 b1 (.own qa)) qa (.ins A.Tariff b1 [])):=(Same.new b3).trans (Same.new (by rw[aj c0.symm];exact nq));refine⟨qa,b1,L,rl,tb,Tf,rfl,ac,?_,sq _ _ (s2 _ _ hl),rd,as,fun H3 l zs fl fz ar fm=>⟨rfl,?_⟩⟩
  ·rw[sq _ _ (J _ _ h0),On];rfl
  have b4:Same H2 H3:=Same.made nq b3 fm;have I:=J.trans b4;have g3:=b4 _ _ g1;have Y:H2 l=none:=aU sq fl;left;refine⟨p,dx,M,.ref qa,fs,rfl,g3,.inr ⟨_,_,_,_,_,_,F⟩,fun H4 fs' lc lt lp g4 F4 b5 flt b6 c1 c2 c3 n1 n2 n3 fr=>?_⟩
  have c4:Same (upd H3 p (.ins A.Park dx fs')) H4:=fun b o hb=>by
   by_cases q:b=p
   ·rw[q,ac] at hb;rw[q,g4];exact hb
   ·rw[aj q] at hb;exact fr b o hb q
  have b2:=(ar.upI (o:=.ins A.Park dx fs') g3 dst.pa_ta dst.pa_pr).keep c4;have c5:H4 M=some (.lst (Z.map nv)):=fr _ _ (I _ _ h1) (b8 (I _ _ h1) g3 (by intro z;cases z));have d0:=I _ _ h0;have d1:=I _ _ h1;have dl:=ar.prods.lst;have c6:l≠L:=fun q=>by rw[q,J _ _ h0] at Y;cases Y
  have c7:l≠M:=fun q=>by rw[q,J _ _ h1] at Y;cases Y
  have nl:∀b,H3 b=none->M≠b/\L≠b/\l≠b:=fun b hb=>⟨aw d1 hb,aw d0 hb,aw dl hb⟩
  have hh:a_ A H4 ⟨Tf,0,[],[],Z,Z,[]⟩ ⟨qa,L,l,M,lc,lt,lp,zs,[],[]⟩ (N+1):=
   {tar:=b2,tok:=rd.ok_,tlen:=(by show Tf.text.length<=5000;rw[bs];exact as),now:=OA _,coins:=c5,c8:=c8,c40:=c40,cards:=c1,cds:=rfl,cat:=fun e he=>(by cases he),
    cok:=fun e he=>(by cases he),c32:=OA _,tks:=c2,tkl:=rfl,tat:=fun e he=>(by cases he),tko:=fun e he=>(by cases he),t200:=OA _,pay:=aT.nil c3,plen:=OA _,
    nd:=by
     show[M,L,l,lc,lt,lp].Nodup;have a1:=nl _ b5;have a2:=nl _ flt;have a3:=nl _ b6;simp only[Pq,Og,Oy,or_false,not_or,not_false_eq_true,SY,and_true];exact⟨⟨fun q=>bo q.symm,fun q=>c7 q.symm,a1.1,a2.1,a3.1⟩,⟨fun q=>c6 q.symm,a1.2.1,a2.2.1,a3.2.1⟩,⟨a1.2.2,a2.2.2,a3.2.2⟩,⟨n1,n2⟩,n3⟩,
    ndp:=SY}
  have hU:∀b∈(⟨qa,L,l,M,lc,lt,lp,zs,[],[]⟩:Rf).ls,¬U b:=fun b hb=>by
   have fresh:∀a,H a=none->¬U a:=fun a f q=>by
    rcases uo a q with⟨xs,z⟩|⟨o,y,z⟩<;>rw[f] at z<;>cases z
   have hb:b∈[M,L,l,lc,lt,lp]:=hb;simp only[Og,Oy,or_false] at hb;rcases hb with rfl|rfl|rfl|rfl|rfl|rfl
   ·exact U1
   ·exact U0
   ·exact fresh _ (aU J Y)
   ·exact fresh _ (aU I b5)
   ·exact fresh _ (aU I flt)
   ·exact fresh _ (aU I b6)
  have bd:∀u,U u->H4 u=H u:=fun u hu=>by
   rcases uo u hu with⟨xs,z⟩|⟨o,y,z⟩
   ·rw[z];exact fr _ _ (I _ _ z) (b8 (I _ _ z) g3 (by intro z;cases z))
   ·rw[z];exact fr _ _ (I _ _ z) (b8 (I _ _ z) g3 (by intro z;cases z))
  have ca:aC A H4 p ⟨Tf,0,[],[],Z,Z,[]⟩ ⟨qa,L,l,M,lc,lt,lp,zs,[],[]⟩ (N+1):=⟨⟨dx,fs',g4,F4⟩,hh⟩;left;refine⟨c_,fun l5 f5=>?_⟩;refine kk _ l5 (kf bd uo f5) ?_ (ue bd uo f5) ?_
  ·rw[O];exact dB.of (ca.keep (Same.new f5)) hU
  ·rw[O,ac];rfl
def U2(ls:List (List Nat)):List Int:=putRows (ls.map fun x=>x.map OW)
theorem CT(x:List Nat)(ls:List (List Nat)):U2 (x::ls)=(x.length:Int)::(x.map OW++U2 ls):=by
 show putRow (x.map OW)++U2 ls=_;unfold putRow;rw[NV];rfl
theorem Bq{l r:List Int}{i:Nat}{z:Int}(h:l.drop i=z::r):l[i]?=some z/\l.drop (i+1)=r:=by
 constructor
 ·have:=congrArg (fun x=>x[0]?) h;simpa using this
 ·rw[<-SZ,h];rfl
theorem GA{H:Hp}{Q:VK}{a:Addr}{l y t:List Int}{i n:Nat}{lo hi:Int}(h:aI K H a (l.map V.int))(z:lo=(i:Int))(F:hi=((i+n:Nat):Int))(I:l.drop i=y++t)(J:y.length=n)(q:∀p,H p=none->Q (.ref p) (upd H p (.lst (y.map V.int)))):GP K (.ref a) (some lo) (some hi) H Q:=
 ⟨a,_,rfl,h,fun p L=>by
  rw[z,F,Eg i (i+n) (P0 _ _),<-Rk,<-VC,I,show i+n-i=n by lia,<-J,take_left']
  ·exact q p L
  ·rfl⟩
theorem fR.nil{H:Hp}{ro:Addr}(h:H ro=some (.lst [])):fR H ro [] []:=⟨h,rfl,fun i a l h _=>by simp at h⟩
theorem fR.snoc{H:Hp}{ro q:Addr}{rs:List Addr}{ls:List (List Nat)}{x:List Nat}(h:fR H ro rs ls)(z:H q=some (.lst (x.map nv)))(F:q≠ro)(I:∀a∈rs,a≠ro):fR (upd H ro (.lst (rs.map V.ref++[.ref q]))) ro (rs++[q]) (ls++[x]):=by
 refine⟨by rw[ac,Oj];rfl,by rw[Of,Of,h.len];rfl,fun i a l h1 h2=>?_⟩;by_cases c:i<rs.length
 ·rw[O7 c] at h1;rw[O7 (by rw[<-h.len];exact c)] at h2;rw[aj (I a (Oe h1))];exact h.at_ i a l h1 h2
 ·rw[OJ ()] at h1;rw[OJ (by rw[<-h.len];lia),<-h.len] at h2
  have e:i-rs.length=0:=by
   have:=(N4.mp h1).1;simp at this;exact this
  rw[e] at h1 h2;cases h1;cases h2;rw[aj F];exact z
inductive xq(K:PySem.W.Frag)(vs:List V)(H:Hp)(Q:VK)(E:XK):Prop|mk(z:Addr)(l:List Int)(i:Nat)(ls:List (List Nat))(t:List Int)(_:vs=[.ref z,nv i,nv ls.length])(_:aI K H z (l.map V.int))(_:l.drop i=U2 ls++t)(_:ls.length<=100)(_:∀(H':Hp)(ro:Addr)(rs:List Addr),H ro=none->Same H H'->fR H' ro rs ls->rs.Nodup->(∀a∈rs,H a=none)->Q (.ref ro) H')
theorem xr(T:Txt K mg A):fK P w K mg base 1 "rows_from" ["calls","begin","count"] (xq K):=by
 have S:ax ["calls","begin","count","rows","place","length"] ["calls","begin","count"] (ap qx):=axo
 have nd:=S.nd;refine aN T.NS S (fun f av Ar outer s H vs Q E hr h=>?_)
 ·obtain⟨ca,l,i,ls,t,rfl,M,hd,hl,kk⟩:=h
  refine⟨_,(ae (aM nd 3 (aH ag))
   (ae (aM nd 4 (pv 1))
   (ae (kN OU.never (dA iX (az aB (by rfl) T.Ks bU (ab (pv 3) ag)) (pv 2)) (ae (aM nd 5 (ba ay (pv 0) (pv 4)))
   (ae (dr (gh PySem.F.plainAttrs_list PySem.F.slot_list_append PySem.F.type_list_append eX (pv 3) (ab (fC gn (pv 0) (dO (aD b0 (pv 4) ao)) (dO (aD b0 (aD b0 (pv 4) ao) (pv 5)))) ag)))
   (ak (sn (i:=4) nd rfl (by first|exact Or.inl rfl|exact Or.inr rfl) (aD b0 ao (pv 5)) C9)))))
   (ak (au (pv 3)))))),?_⟩
  exists 0,3,3;left;refine⟨gG,fun ro J=>?_⟩;left;refine⟨fun m σ H'=>∃(j pl:Nat)(rs:List Addr)(v5:Option V),m=ls.length-j/\j<=ls.length/\σ=[some (.ref ca),some (nv i),some (nv ls.length),some (.ref ro),some (nv pl),v5]/\Same H H'/\l.drop pl=U2 (ls.drop j)++t/\fR H' ro rs (ls.take j)/\rs.Nodup/\(∀a∈rs,H a=none/\a≠ro),⟨_,0,i,[],_,rfl,OA _,rfl,Same.new J,hd,fR.nil ac,SY,fun a ha=>by cases ha⟩,?_⟩;rintro m σ H' ⟨j,pl,rs,v5,rfl,hj,rfl,O,Y,I,Z,L⟩;have rl:rs.length=j:=by rw[I.len,QE];lia
  left;refine dI (aI.of I.lst) ?_;rw[NV,rl];left;refine gz (fun hc=>?_) (fun hc=>?_)
  ·have al:j<ls.length:=by lia
   have ej:ls[j]?=some ls[j]:=by simp[al]
   have ed:ls.drop j=ls[j]::ls.drop (j+1):=Pk al;have et:ls.take (j+1)=ls.take j++[ls[j]]:=by rw[Pg,ej];rfl
   generalize ls[j]=x at ej ed et;rw[ed,CT] at Y;obtain⟨a1,a2⟩:=Bq Y;have a2:l.drop (pl+1)=x.map OW++(U2 (ls.drop (j+1))++t):=a2.trans (Oz ..);refine⟨fun σ' H'=>∃m',m'<ls.length-j/\∃(j pl:Nat)(rs:List Addr)(v5:Option V),m'=ls.length-j/\j<=ls.length/\σ'=[some (.ref ca),some (nv i),some (nv ls.length),some (.ref ro),some (nv pl),v5]/\Same H H'/\l.drop pl=U2 (ls.drop j)++t/\fR H' ro rs (ls.take j)/\rs.Nodup/\(∀a∈rs,H a=none/\a≠ro),fun σ' H' h=>h,?_⟩;left;refine gB (j:=pl) (v:=nv x.length) (O.seq M) rfl (by rw[NZ,a1];rfl) ?_;left;refine gi (aI.of I.lst) ?_;left;refine GA (i:=pl+1) (n:=x.length) (y:=x.map OW) (t:=U2 (ls.drop (j+1))++t) (O.seq M) () () a2 (by rw[NV]) fun q fq=>?_;have nq:ro≠q:=aw I.lst fq;have sq:=Same.new (o:=.lst ((x.map OW).map V.int)) fq;have hq:=ac (H:=H') (a:=q) (o:=.lst ((x.map OW).map V.int));generalize upd H' q (.lst ((x.map OW).map V.int))=H2 at sq hq ⊢;have an:=I.keep sq;rw[On] at hq;left;refine fG an.lst (fj (by rw[NV];lia)) ?_;left;have ar:=O.free fq;refine yC rfl ?_;left;refine⟨ls.length-(j+1),by lia,j+1,pl+(1+x.length),rs++[q],some (nv x.length),rfl,by lia,?_,(O.trans sq).upd J,?_,?_,?_,?_⟩
   ·rfl
   ·rw[show pl+(1+x.length)=(pl+1)+x.length by lia,<-SZ,a2,U3];rw[NV]
   ·rw[et];exact an.snoc hq nq.symm fun a ha=>(L a ha).2
   ·rw[RI];refine⟨Z,by simp,fun a ha b hb e=>?_⟩;have:b=q:=by simpa using hb
    rw[e,this] at ha;obtain⟨k,hk⟩:=QM.mp ha;have as:=PQ (l:=ls.take j) (i:=k) (by rw[<-I.len];exact(N4.mp hk).1);have:=I.at_ k q _ hk as;rw[fq] at this;cases this
   ·intro a ha;rcases OK.mp ha with z|z
    ·exact L a z
    ·have:a=q:=by simpa using z
     rw[this];exact⟨ar,nq.symm⟩
  ·have:j=ls.length:=by lia
   subst this;rw[OD (NX _)] at I;left;exact kk H' ro rs J O I Z fun a ha=>(L a ha).1
end
section
variable{P:N3}{w:Oh}{K:PySem.W.Frag}{mg:N_->Option NU}{base:Heap}{A:cX}
inductive U4(P:N3)(w:Oh)(K:PySem.W.Frag)(mg:N_->Option NU)(base:Heap)(kvs:List (fu×V))(n:Nat)(vs:List V)(H:Hp)(Q:VK):Prop|mk(f fd ps sp k:_)(_:dH kvs (.inl (n:Int))=some (.ref f))(_:jO P w K mg base CZ k f fd ps sp)(_:k<=12)(_:PySem.W.keepIn K (.ref f)=true)(_:Binds K fd ps [])(_:sp vs H Q E0)
theorem cb{L:List (Nat×N_)}{kvs:List (fu×V)}{n k:Nat}{x:N_}{ps:List N_}{sp:Sp}{vs:List V}{H:Hp}{Q:VK}(F:∀z∈L,∃f,mg z.2=some (.ref f)/\dH kvs (.inl (z.1:Int))=some (.ref f))(I:(n,x)∈L)(ok:fK P w K mg base k x ps sp)(J:k<=12)(h:sp vs H Q E0):U4 P w K mg base kvs n vs H Q:=by
 obtain⟨f,M,O⟩:=F _ I;obtain⟨S,fd,m,kp,b,G⟩:=ok
 have:f=S:=by
  have:=M.symm.trans m;cases this;rfl
 subst this;exact⟨f,fd,ps,sp,k,O,G,J,kp,b,h⟩
theorem jk{h:House}{k:Nat}{f:OF->House×Answer}(e:h.ticket k=none):ofTicket h k f=(h,Ov 4):=by
 unfold ofTicket;rw[e]
theorem jl{h:House}{x:House×Answer}{a:Answer}(e:x=(h,a)):((some x.1,x.2):OS×Answer)=(some h,a):=by rw[e]
theorem Kg(T:Txt K mg A){O Y:List (fu×V)}(I:∀z∈gT,∃f,mg z.2=some (.ref f)/\dH O (.inl (z.1:Int))=some (.ref f))(J:∀z∈eW,dH O (.inl (z.1:Int))=none)(L:∀z∈eW,∃f,mg z.2=some (.ref f)/\dH Y (.inl (z.1:Int))=some (.ref f)){n:Nat}{nums:List Nat}{ls:List (List Nat)}{c:OY}(ic:bL n nums ls c)(hn:n≠1){H:Hp}{p nu ro:Addr}{rs:List Addr}{U:Addr->Prop}{h:House}{N:Nat}{Q:VK}(x:Uw A H p U h N nu ro rs nums ls)(F:EB A H p U (some h) N c Q):
  U4 P w K mg base O n [.ref p,.ref nu,.ref ro] H Q\/(dH O (.inl (n:Int))=none/\∃S M,nums=S::M/\(h.ticket S=none->PK (some h) c=(some h,Ov 4))/\∀r e,gM A H p U h N r S e->U4 P w K mg base Y n [.ref p,.ref e.p,.ref nu,.ref ro] H Q):=by
 cases ic with
 |tariff tb Z h1 h2=>exact absurd rfl hn
 |print=>exact .inl (cb (x:="answer_print") I (by unfold gT;walk_at "m") (rj (P:=P) (w:=w) (base:=base) T) (by decide) ⟨p,nu,ro,rs,U,h,N,rfl,x,F⟩)
 |clock t=>exact .inl (cb (x:="answer_clock") I (by unfold gT;walk_at "m") (rq (P:=P) (w:=w) (base:=base) T) (by decide) ⟨t,p,nu,ro,rs,U,h,N,rfl,x,F⟩)
 |price a b c bs hb=>exact .inl (cb (x:="answer_price") I (by unfold gT;walk_at "m") (rD (P:=P) (w:=w) (base:=base) T) (by decide) ⟨a,b,c,bs,hb,p,nu,ro,rs,U,h,N,rfl,x,F⟩)
 |row a b c bs hb=>exact .inl (cb (x:="answer_row") I (by unfold gT;walk_at "m") (uT (P:=P) (w:=w) (base:=base) T) (by decide) ⟨a,b,c,bs,hb,p,nu,ro,rs,U,h,N,rfl,x,F⟩)
 |proof a b c bs hb=>exact .inl (cb (x:="answer_proof") I (by unfold gT;walk_at "m") (rF (P:=P) (w:=w) (base:=base) T) (by decide) ⟨a,b,c,bs,hb,p,nu,ro,rs,U,h,N,rfl,x,F⟩)
 |fair a c bs l hb hl=>exact .inl (cb (x:="answer_fair") I (by unfold gT;walk_at "m") (ug (P:=P) (w:=w) (base:=base) T) (by decide) ⟨a,c,bs,l,hb,hl,p,nu,ro,rs,U,h,N,rfl,x,F⟩)
 |season f l bs hb=>exact .inl (cb (x:="answer_season") I (by unfold gT;walk_at "m") (qc (P:=P) (w:=w) (base:=base) T) (by decide) ⟨f,l,bs,hb,p,nu,ro,rs,U,h,N,rfl,x,F⟩)
 |enter c k=>exact .inl (cb (x:="answer_enter") I (by unfold gT;walk_at "m") (rH (P:=P) (w:=w) (base:=base) T) (by decide) ⟨c,k,p,nu,ro,rs,U,h,N,rfl,x,F⟩)
 |coins=>exact .inl (cb (x:="answer_coins") I (by unfold gT;walk_at "m") (rm (P:=P) (w:=w) (base:=base) T) (by decide) ⟨p,nu,ro,rs,U,h,N,rfl,x,F⟩)
 |takings a b=>exact .inl (cb (x:="answer_takings") I (by unfold gT;walk_at "m") (oX (P:=P) (w:=w) (base:=base) T) (by decide) ⟨a,b,p,nu,ro,rs,U,h,N,rfl,x,F⟩)
 |stays=>exact .inl (cb (x:="answer_stays") I (by unfold gT;walk_at "m") (rB (P:=P) (w:=w) (base:=base) T) (by decide) ⟨p,nu,ro,rs,U,h,N,rfl,x,F⟩)
 |change t=>exact .inl (cb (x:="answer_change") I (by unfold gT;walk_at "m") (p_ (P:=P) (w:=w) (base:=base) T) (by decide) ⟨t,p,nu,ro,rs,U,h,N,rfl,x,F⟩)
 |voucher k d n=>exact .inr ⟨J (10,"answer_voucher") (by unfold eW;walk_at "m"),k,_,rfl,fun e=>jl (jk e),fun r e y=>cb (x:="answer_voucher") L (by unfold eW;walk_at "m") (o0 (P:=P) (w:=w) (base:=base) T) (by decide) ⟨k,d,n,p,nu,ro,rs,U,h,N,r,e,rfl,x,y,F⟩⟩
 |owes k=>exact .inr ⟨J (11,"answer_owes") (by unfold eW;walk_at "m"),k,_,rfl,fun e=>jl (jk e),fun r e y=>cb (x:="answer_owes") L (by unfold eW;walk_at "m") (ui (P:=P) (w:=w) (base:=base) T) (by decide) ⟨k,p,nu,ro,rs,U,h,N,r,e,rfl,x,y,F⟩⟩
 |best k=>exact .inr ⟨J (12,"answer_best") (by unfold eW;walk_at "m"),k,_,rfl,fun e=>jl (jk e),fun r e y=>cb (x:="answer_best") L (by unfold eW;walk_at "m") (uk (P:=P) (w:=w) (base:=base) T) (by decide) ⟨k,p,nu,ro,rs,U,h,N,r,e,rfl,x,y,F⟩⟩
 |arrange k=>exact .inr ⟨J (13,"answer_arrange") (by unfold eW;walk_at "m"),k,_,rfl,fun e=>jl (jk e),fun r e y=>cb (x:="answer_arrange") L (by unfold eW;walk_at "m") (o7 (P:=P) (w:=w) (base:=base) T) (by decide) ⟨k,p,nu,ro,rs,U,h,N,r,e,rfl,x,y,F⟩⟩
 |pay k Z hb=>exact .inr ⟨J (14,"answer_pay") (by unfold eW;walk_at "m"),k,_,rfl,fun e=>jl (jk e),fun r e y=>cb (x:="answer_pay") L (by unfold eW;walk_at "m") (uV (P:=P) (w:=w) (base:=base) T) (by decide) ⟨k,Z,hb,p,nu,ro,rs,U,h,N,r,e,rfl,x,y,F⟩⟩
 |lost k=>exact .inr ⟨J (15,"answer_lost") (by unfold eW;walk_at "m"),k,_,rfl,fun e=>jl (jk e),fun r e y=>cb (x:="answer_lost") L (by unfold eW;walk_at "m") (um (P:=P) (w:=w) (base:=base) T) (by decide) ⟨k,p,nu,ro,rs,U,h,N,r,e,rfl,x,y,F⟩⟩
 |leave k=>exact .inr ⟨J (16,"answer_leave") (by unfold eW;walk_at "m"),k,_,rfl,fun e=>jl (jk e),fun r e y=>cb (x:="answer_leave") L (by unfold eW;walk_at "m") (rK (P:=P) (w:=w) (base:=base) T) (by decide) ⟨k,p,nu,ro,rs,U,h,N,r,e,rfl,x,y,F⟩⟩
 |ticket k=>exact .inr ⟨J (17,"answer_ticket") (by unfold eW;walk_at "m"),k,_,rfl,fun e=>jl (jk e),fun r e y=>cb (x:="answer_ticket") L (by unfold eW;walk_at "m") (qe (P:=P) (w:=w) (base:=base) T) (by decide) ⟨k,p,nu,ro,rs,U,h,N,r,e,rfl,x,y,F⟩⟩
theorem CU{n:Nat}{nums:List Nat}{ls:List (List Nat)}{c:OY}(z:bL n nums ls c)(F:n≠1):PK none c=(none,Ov 3):=by
 cases z<;>first|rfl|exact absurd rfl F
theorem JC{X:Cx}{ty td:TE}{σ:L2.St}{H:Hp}{Q:VK}(h:ty σ H fun y H1=>td σ H1 fun x H2=>∃a kvs k,x=.ref a/\y=kV k/\qy X.prog X.w X.K a kvs/\Q (.bl (dH kvs k).isSome) H2):Jl X ty td σ H Q:=h
theorem Aw{X:Cx}{ty td:TE}{σ:L2.St}{H:Hp}{Q:VK}(h:td σ H fun x H1=>ty σ H1 fun y H2=>Gjp X x y H2 Q):Gj X td ty σ H Q:=h
theorem xt{P:N3}{w:Oh}{kvs:List (fu×V)}{σ:L2.St}{H:Hp}{Q:VK}(h:∀a,qy P w K a kvs->Q (.ref a) H):Gk K P w kvs σ H Q:=h
theorem Br{X:Cx}{te:TE}{t:TA}{σ:L2.St}{H:Hp}{Q:VK}(h:te σ H fun x H1=>DLp X t σ H1 Q x):DL X te t σ H Q:=h
inductive ut(A:cX)(vs:List V)(H:Hp)(Q:VK)(E:XK):Prop|mk(n:Nat)(nums:List Nat)(ls:List (List Nat))(c:OY)(p nu ro:Addr)(rs:List Addr)(U:Addr->Prop)(s:OS)(N:Nat)(_:vs=[.ref p,nv n,.ref nu,.ref ro])(_:bL n nums ls c)(_:dB A H p U s N)(_:H nu=some (.lst (nums.map nv)))(_:fR H ro rs ls)(_:rs.Nodup)(_:(∀a∈rs,¬U a))(_:(∀u,U u->(∃xs,H u=some (.lst xs))\/∃o x,H u=some (.frz o x)))(_:Gz A)(_:N<=1000)(_:EB A H p U s N c Q)
theorem uu(T:Txt K mg A)(D:Ip P w K mg):fK P w K mg base 13 "answer_call" ["park","call","numbers","rows"] (ut A):=by
 obtain⟨kW,d_WORK,hW,hN⟩:=D.work;obtain⟨kT,d_TICKET_WORK,hT⟩:=D.twork;have S:ax ["park","call","numbers","rows","ticket"] ["park","call","numbers","rows"] (ap mO):=axo
 have nd:=S.nd;refine aN T.NR S (fun f b5 Ar outer s H vs Q E hr h=>?_)
 ·obtain⟨n,nums,ls,c,p,nu,ro,rs,U,s,N,rfl,ic,z,ar,as,b1,rU,uo,dst,few,kk⟩:=h
  refine⟨_,(ae (bc ((sh (dA ph (aA (pv 0)) fk) (nO (dA qi (pv 1) (aE T.Mv))))).pt (ak (au (aH (ab (aE T.Ma) ag)))) aG)
   (ae (bc (ze (HM (pv 1) (rS d_WORK))) (ak (au (yh (wB (rS d_WORK) (pv 1) (fun _ _=>rfl)) (ab (pv 0) (ab (pv 2) (ab (pv 3) ag)))))) aG)
   (ae (aM nd 4 (aF (ub T) hr (ab (pv 0) (ab (ba ay (pv 2) ao) ag))))
   (ae (bc (dA ph (pv 4) fk) (ak (au (aH (ab (aE T.Lm) ag)))) aG)
   (ak (au (yh (wB (rS d_TICKET_WORK) (pv 1) (fun _ _=>rfl)) (ab (pv 0) (ab (pv 4) (ab (pv 2) (ab (pv 3) ag))))))))))),?_⟩
  exists 0,4,1;by_cases hs:s=none/\n≠1
  ·obtain⟨rfl,hn⟩:=hs;have ed:=CU ic hn;obtain⟨dx,fs,J,cv,wv,dv,kv,pv,PF⟩:=id z;left;refine Tu J T.Kv T.KS PF.tariff ?_;left;refine FH (fun h1=>?_) (fun h1=>?_)
   ·left;refine⟨c_,fun l1 f1=>?_⟩;exact kk.same z uo ed (by walk_at "fresh") (Same.new f1) (by rw[ac,bX];rfl)
   ·lia
  have key:U4 P w K mg base kW n [.ref p,.ref nu,.ref ro] H Q\/∃h,s=some h/\(dH kW (.inl (n:Int))=none/\∃k0 F,nums=k0::F/\(h.ticket k0=none->PK (some h) c=(some h,Ov 4))/\∀r e,gM A H p U h N r k0 e->U4 P w K mg base kT n [.ref p,.ref e.p,.ref nu,.ref ro] H Q):=by
   by_cases hn:n=1
   ·subst hn;cases ic with
    |tariff tb cs h1 h2=>exact .inl (cb (x:="answer_tariff") hW (by unfold gT;walk_at "m") (qg (P:=P) (w:=w) (base:=base) T) (by decide) ⟨tb,cs,p,nu,ro,rs,U,s,N,rfl,z,as,b1,rU,uo,dst,h1,h2,kk⟩)
   ·cases s with
    |none=>exact absurd ⟨rfl,hn⟩ hs
    |some h=>
     rcases Kg (P:=P) (w:=w) (base:=base) T hW hN hT ic hn ⟨z,ar,as,rU,uo,dst,few⟩ kk with q|q
     ·exact .inl q
     ·exact .inr ⟨h,rfl,q⟩
  cases s
  case' none=>
   have hn:n=1:=by
    by_cases q:n=1
    ·exact q
    ·exact absurd ⟨rfl,q⟩ hs
   obtain⟨dx,fs,J,cv,wv,dv,kv,pv,PF⟩:=id z;left;refine Tu J T.Kv T.KS PF.tariff ?_;left;refine FH (fun h1=>absurd () h1) (fun h1=>?_)
  case' some h=>
   obtain⟨r,pk,hU⟩:=z.pk;left
  all_goals
   left;refine JC ?_;left;refine xt fun da b2=>?_;refine⟨da,kW,.inl (n:Int),rfl,rfl,b2,?_⟩;rcases key with⟨f',L,M,O,k',hv,G',Y,Z,b',al⟩|⟨h',av,hv,k0,F,en,ht,hc⟩
   ·rw[hv];refine⟨_,rfl,?_⟩;refine g6 ?_;left;refine Br ?_;refine Aw ?_;refine xt fun an I=>?_;left;refine⟨an,kW,.inl (n:Int),.ref f',rfl,rfl,I,hv,?_⟩;refine⟨f',L,M,O,k',rfl,G',hr.mono Y,Z,b',?_⟩;left;exact al
   ·rw[hv];refine⟨_,rfl,?_⟩;refine hC ?_
    first
     |(cases av;done)
     |cases av
      subst en;left;refine gB (j:=0) (v:=nv k0) (aI.of ar) rfl rfl ?_;left;refine⟨p,h,r,N,k0,rfl,pk,fun b3=>?_,fun e he hg=>?_⟩
      ·left;refine⟨c_,fun l1 f1=>?_⟩;exact kk.same z uo (ht b3) (by walk_at "fresh") (Same.new f1) (by rw[ac,bX];rfl)
      ·obtain⟨f',L,M,O,k',b4,G',Y,Z,b',al⟩:=hc r e ⟨pk,hU,he,hg⟩;left;refine Br ?_;refine Aw ?_;refine xt fun an I=>?_;left;refine⟨an,kT,.inl (n:Int),.ref f',rfl,rfl,I,b4,?_⟩;refine⟨f',L,M,O,k',rfl,G',hr.mono Y,Z,b',?_⟩;left;exact al
theorem dB.upL{H:Hp}{p F:Addr}{U:Addr->Prop}{s:OS}{N:Nat}{o:HO}{acc:List V}(x:dB A H p U s N)(I:H F=some (.lst acc))(hU:U F):dB A (upd H F o) p U s N:=by
 obtain⟨dx,fs,h1,h2⟩:=x;have J:p≠F:=b8 h1 I (by intro z;cases z);refine⟨dx,fs,by rw[aj J];exact h1,?_⟩;cases s with
 |none=>exact h2
 |some h=>
  obtain⟨r,a,b,c⟩:=h2;exact⟨r,a.upL I fun q=>c _ q hU,b,c⟩
theorem CV{xs:List (List Int)}(h:∀x∈xs,FL.Pos x):U2 (xs.map nats)=putRows xs:=by
 unfold U2;rw[On];congr 1;refine(Om fun x z=>?_).trans (VG xs);exact vR (h x z)
theorem qP:∀xs:List (List Int),(putRows xs).length=xs.length+(xs.map Os).sum
 |[]=>rfl
 |x::xs=>by
  show(putRow x++putRows xs).length=_;rw[Of,qP xs];unfold putRow;rw[Ol,Ol,Oo,QR];lia
theorem FZ{n:Nat}{nums:List Nat}{ls:List (List Nat)}{c:OY}(z:bL n nums ls c):(n,nums.length,ls.length)∈ur:=by
 cases z<;>(unfold ur;walk_at "m")
theorem F0{a:List Int}(h:FL.Pos a):a.map V.int=(nats a).map nv:=by
 have e:=vR h;have:((nats a).map OW).map V.int=(nats a).map nv:=by rw[On];rfl
 rw[<-this,e]
theorem EC{H H':Hp}{a:Addr}{xs:List V}(h:aI K H a xs)(e:((∃xs,H a=some (.lst xs))\/∃o x,H a=some (.frz o x))->H' a=H a):aI K H' a xs:=by
 rcases h with(h|⟨o,h⟩)|h
 ·exact .inl (.inl (by rw[e (.inl ⟨_,h⟩)];exact h))
 ·exact .inl (.inr ⟨o,by rw[e (.inr ⟨_,_,h⟩)];exact h⟩)
 ·exact .inr h
theorem ED{n:Nat}{nums:List Nat}{ls:List (List Nat)}{c:OY}(z:bL n nums ls c):ls.length<=2:=by
 cases z<;>simp
theorem EE{H:Hp}{ro:Addr}{rs:List Addr}{ls:List (List Nat)}(h:fR H ro rs ls){z:Addr×List Nat}(F:z∈rs.zip ls):H z.1=some (.lst (z.2.map nv)):=by
 obtain⟨i,hi⟩:=QM.mp F;rw[O_] at hi;exact h.at_ i _ _ hi.1 hi.2
theorem CW{rs:List Addr}{ls:List (List Nat)}(h:rs.length=ls.length):rs.map V.ref=(rs.zip ls).map fun z=>V.ref z.1:=by
 have e:=Ut (l₁:=rs) (l₂:=ls) (Ra h);have:((rs.zip ls).map Prod.fst).map V.ref=(rs.zip ls).map fun z=>V.ref z.1:=by rw[On];rfl
 rw[<-this,e]
theorem CY{rs:List Addr}{xs:List (List Int)}(h:rs.length=(xs.map nats).length):((rs.zip (xs.map nats)).map fun z=>nv z.2.length)=((xs.map Os).map OW).map V.int:=by
 have e:=Us (l₁:=rs) (l₂:=xs.map nats) (Ra h.symm);have:((rs.zip (xs.map nats)).map Prod.snd).map (fun l=>nv l.length)=(rs.zip (xs.map nats)).map fun z=>nv z.2.length:=by rw[On];rfl
 rw[<-this,e,On,On,On];refine Om fun x _=>?_;show nv (nats x).length=nv x.length;rw[jG]
def Uc(H:Hp)(z:Addr):Addr->Prop:=fun u=>u=z/\((∃xs,H u=some (.lst xs))\/∃o x,H u=some (.frz o x))
inductive nN(K:PySem.W.Frag)(vs:List V)(H:Hp)(Q:VK)(E:XK):Prop|mk(F:Addr)(l:List Int)(z:List (List (List Int)))(_:vs=[.ref F])(_:aI K H F (l.map V.int))(_:l=Pe z)(_:(∀c∈z,FL.Parsed c))(_:z.length<=60)(_:(FL.so z).length<=10000000)(_:∀(H':Hp)(r:Addr),H' r=some (.lst ((FL.so z).map V.int))->Q (.ref r) H')
structure Inv (A:cX) (H0:Hp) (ca pk td:Addr) (cs:List (List (List Int))) (done bK:List (List (List Int))) (m:Nat) (H':Hp):Prop where
 len:m=bK.length
 all:cs=done++bK
 park:dB A H' pk (fun u=>u=td\/Uc H0 ca u) (FL.after O5 done) done.length
 kept:∀u,Uc H0 ca u->H' u=H0 u
 told:H' td=some (.lst ((FL.so done).map V.int))
theorem Ax(T:Txt K mg A)(D:Ip P w K mg)(dst:Gz A){f:Addr}{fd:Qm}(F:E8 K "answers" "answers" pF f fd):jO P w K mg base CZ 14 f fd ["calls"] (nN K):=by
 obtain⟨f_Park,fd_Park,K_Park,b_Park,G_Park⟩:=FY (P:=P) (w:=w) (base:=base) T;have m_Park:=T.ME;obtain⟨kF,d_FORMS,hF⟩:=D.forms;have S:ax ["calls","park","told","place","call","form","numbers","rows","row","answer"] ["calls"] (ap pF):=axo
 have nd:=S.nd;refine F.ok S (by intro vs H Q E h;cases h;first|(subst vs;rfl)|(rename_i h;cases h;subst vs;rfl)) (fun d7 Ar outer s H vs Q E hr h=>?_)
 ·obtain⟨O,l,cs,rfl,c1,hl,av,d8,c2,kk⟩:=h
  refine⟨_,(ae (aM nd 1 (Di K_Park G_Park (hr.mono (by decide)) (by rfl) m_Park b_Park .nil i6))
   (ae (aM nd 2 (aH ag))
   (ae (aM nd 3 ao)
   (ae (kN OU.never (dA iX (pv 3) (az aB (by rfl) T.Ks bU (ab (pv 0) ag))) (ae (aM nd 4 (ba ay (pv 0) (pv 3)))
   (ae (aM nd 5 (wB (rS d_FORMS) (pv 4) (fun _ _=>rfl)))
   (ae (aM nd 6 (fC gn (pv 0) (dO (aD b0 (pv 3) ao)) (dO (aD b0 (aD b0 (pv 3) ao) (ba gX (pv 5) ao)))))
   (ae (aM nd 7 (aF (xr T) hr (ab (pv 0) (ab (aD b0 (aD b0 (pv 3) ao) (ba gX (pv 5) ao)) (ab (ba gX (pv 5) ao) ag)))))
   (ae (sn (i:=3) nd rfl (by first|exact Or.inl rfl|exact Or.inr rfl) (aD b0 (aD b0 (aD b0 ao (az aB (by rfl) T.Ks bU (ab (pv 6) ag))) (az aB (by rfl) T.Ks bU (ab (pv 7) ag))) (az (wt rfl) (by rfl) T.KP wA (ab (iE rfl nd (dj (pv 7)) (dn (own:=[("row",8)]) rfl) (fun _ _ _ _ _=>(by exact(eU nd 8))) (fun _ _ _ _ _=>(by exact fA)) (fun _ _ _ _ _=>(by exact(az (mQ (K:=K) rfl) (by rfl) T.Ks bU (ab (pv 8) ag))))) ag))) C9)
   (ae (aM nd 9 (aF (uu T D) hr (ab (pv 1) (ab (pv 4) (ab (pv 6) (ab (pv 7) ag))))))
   (ae (dr (gh PySem.F.plainAttrs_list PySem.F.slot_list_append PySem.F.type_list_append eX (pv 2) (ab (az aB (by rfl) T.Ks bU (ab (pv 9) ag)) ag)))
   (ak (dr (gh PySem.F.plainAttrs_list PySem.F.slot_list_extend PySem.F.type_list_extend gv (pv 2) (ab (pv 9) ag))))))))))))
   (ak (au (pv 2))))))),?_⟩
  exists 0,1,9;left;intro pk dx nx c3 dc;refine⟨pk,dx,rfl,ac,fun H1 c4 fm=>⟨rfl,?_⟩⟩;have s1:=Same.made nx c3 fm;left;refine⟨gG,fun td b3=>?_⟩;have s2:=s1.trans (Same.new (o:=.lst []) b3);have b6:=s1.free b3;left;have b1:Inv A H O pk td cs [] cs cs.length (upd H1 td (.lst [])):=⟨rfl,rfl,(c4 _ _).keep (Same.new b3),fun u I=>LF.same (ls:=[]) s2 u I.2 (by simp),ac⟩;refine⟨fun m σ H'=>∃(done bK:List (List (List Int)))(v4 v5 v6 v7 v8 v9:Option V),Inv A H O pk td cs done bK m H'/\σ=[some (.ref O),some (.ref pk),some (.ref td),some (nv (Pe done).length),v4,v5,v6,v7,v8,v9],⟨_,[],cs,_,_,_,_,_,_,b1,rfl⟩,?_⟩;clear b1;rintro m σ H' ⟨done,bK,v4,v5,v6,v7,v8,v9,J,rfl⟩;have an:aI K H' O (l.map V.int):=EC c1 fun h=>J.kept O ⟨rfl,h⟩;have b4:l=Pe done++Pe bK:=by rw[hl,J.all,wQ]
  have uo:∀u,(u=td\/Uc H O u)->(∃xs,H' u=some (.lst xs))\/∃o x,H' u=some (.frz o x):=fun u I=>by
   rcases I with rfl|I
   ·exact .inl ⟨_,J.told⟩
   ·rw[J.kept u I];exact I.2
  left;refine dI an ?_;rw[NV];left;refine gz (fun h1=>?_) (fun h1=>?_)
  ·cases bK with
   |nil=>
    rw[b4] at h1;simp[Pe] at h1
   |cons c bK=>
    obtain⟨n,a,xs,fc,rfl,pa,px,ic,c5⟩:=(av c (by rw[J.all];simp)).ex
    have d2:done.length+(bK.length+1)<=60:=by
     have:=congrArg Os J.all;rw[Of,Ol] at this;lia
    have hd:l.drop (Pe done).length=(n:Int)::(a++(putRows xs++Pe bK)):=by
     rw[b4,U3 rfl];show((n:Int)::a++putRows xs)++Pe bK=_;rw[Oz];rfl
    obtain⟨a1,a2⟩:=Bq hd
    have a3:l.drop ((Pe done).length+1+a.length)=U2 (xs.map nats)++Pe bK:=by
     rw[<-SZ,a2,U3 rfl,CV px]
    obtain⟨ft,c6,ar⟩:=hF _ (FZ ic);rw[jG,NV] at ar
    have c7:(Pe (done++[((n:Int)::a)::xs])).length=(Pe done).length+(1+a.length+xs.length+(xs.map Os).sum):=by
     rw[wQ,Of];show _+(((n:Int)::a++putRows xs)++[]).length=_;rw[OC,Of,qP,Ol];lia
    refine⟨fun σ' H'=>∃m',m'<m/\∃(done bK:List (List (List Int)))(v4 v5 v6 v7 v8 v9:Option V),Inv A H O pk td cs done bK m' H'/\σ'=[some (.ref O),some (.ref pk),some (.ref td),some (nv (Pe done).length),v4,v5,v6,v7,v8,v9],fun σ' H' h=>h,?_⟩;generalize dd:(Pe done).length=pl at*;left;refine gB (j:=pl) (v:=nv n) an rfl (by rw[NZ,a1];rfl) ?_;left;refine Aw ?_;refine xt fun da c8=>?_;left;refine⟨da,kF,.inl (n:Int),.ref ft,rfl,rfl,c8,c6,?_⟩;left;refine C1 (j:=0) (v:=nv a.length) (ar _) rfl rfl ?_;left;refine GA (i:=pl+1) (n:=a.length) (y:=a) (t:=putRows xs++Pe bK) an () () a2 rfl fun nu ce=>?_;rw[F0 pa];have s1:=Same.new (o:=.lst ((nats a).map nv)) ce;have b5:=ac (H:=H') (a:=nu) (o:=.lst ((nats a).map nv));generalize upd H' nu (.lst ((nats a).map nv))=H2 at s1 b5 ⊢;left;refine C1 (j:=0) (v:=nv a.length) (ar _) rfl rfl ?_;left;refine C1 (j:=1) (v:=nv xs.length) (ar _) rfl rfl ?_;left;have dp:=ED ic;refine⟨O,l,pl+1+a.length,xs.map nats,Pe bK,by rw[NV];rfl,s1.seq an,a3,by lia,fun H3 ro rs dv s3 L cf ch=>?_⟩;have cm:=s1.trans s3;left;refine yC rfl ?_;left;refine dI (aI.of (s3 _ _ b5)) ?_;rw[NV,jG];left;refine dI (aI.of L.lst) ?_;rw[NV,L.len,NV];left;refine D8 (l:=rs.zip (xs.map nats)) (c:=fun z=>V.ref z.1) (aI.of (by rw[L.lst,CW L.len])) (by rw[Qv];lia) (fun _=>true) (fun z=>nv z.2.length) (fun z H4 hz s4 R R' k1 k2=>?_) (fun D4 H4 f4 s4 h4=>?_)
    ·dsimp only[bV,OX,Pl];left;refine⟨rfl,?_⟩;left;refine dI (aI.of (s4 _ _ (EE L hz))) ?_;rw[NV];exact k1 H4 rfl (Same.refl _)
    rw[OR.mpr (fun _ _=>rfl),CY L.len] at h4;left;refine Bl (ns:=(xs.map Os).map OW) (aI.of h4) ?_;rw[oR];left;have Y:=cm.trans s4
    have co:∀u,(u=td\/Uc H O u)->(∃xs,H4 u=some (.lst xs))\/∃o x,H4 u=some (.frz o x):=fun u I=>by
     rcases uo u I with⟨ys,z⟩|⟨o,y,z⟩
     ·exact .inl ⟨_,Y _ _ z⟩
     ·exact .inr ⟨_,_,Y _ _ z⟩
    have rU:∀b∈rs,¬(b=td\/Uc H O b):=fun b hb I=>by
     have f:=s1.free (ch b hb);rcases uo b I with⟨ys,z⟩|⟨o,y,z⟩<;>rw[f] at z<;>cases z
    dsimp only[Pl];left;refine⟨n,nats a,xs.map nats,fc,pk,nu,ro,rs,fun u=>u=td\/Uc H O u,FL.after O5 done,done.length,rfl,ic,J.park.keep Y,s4 _ _ (s3 _ _ b5),L.keep s4,cf,rU,co,dst,by lia,fun H5 r5 ct cv bd as=>?_⟩
    have bk:Ot (FL.after O5 done) (((n:Int)::a)::xs)=((PK (FL.after O5 done) fc).1,rowOf (PK (FL.after O5 done) fc).2):=by
     unfold Ot;rw[c5]
    have Z:=FD done (((n:Int)::a)::xs);rw[bk] at Z;dsimp only at Z
    have cL:(FL.so (done++[((n:Int)::a)::xs])).length<=10000000:=by
     refine Od (Jo _ bK) ?_;rw[Oz];show(FL.so (done++(((n:Int)::a)::xs)::bK)).length<=_;rw[<-J.all];exact c2
    have b2:=cL;rw[Z,Of,Ol] at b2;generalize bo:rowOf (PK (FL.after O5 done) fc).2=row at Z b2;have as:H5 r5=some (.lst (row.map V.int)):=by rw[<-bo];exact as
    have d0:r5≠td:=fun q=>ct (.inl q);have al:H5 td=some (.lst ((FL.so done).map V.int)):=by rw[bd td (.inl rfl)];exact Y _ _ J.told
    left;refine gi (aI.of al) ?_;left;refine dI (aI.of as) ?_;rw[NV];left;refine fG al (fj (by rw[NV];lia)) ?_;have bq:=cv.upL (o:=.lst ((FL.so done).map V.int++[V.int (row.length:Int)])) al (.inl rfl);have bs:(upd H5 td (.lst ((FL.so done).map V.int++[V.int (row.length:Int)]))) r5=some (.lst (row.map V.int)):=by rw[aj d0];exact as
    have M:=ac (H:=H5) (a:=td) (o:=.lst ((FL.so done).map V.int++[V.int (row.length:Int)]));have c0:∀u,u≠td->(upd H5 td (.lst ((FL.so done).map V.int++[V.int (row.length:Int)]))) u=H5 u:=fun u I=>aj I;generalize upd H5 td (.lst ((FL.so done).map V.int++[V.int (row.length:Int)]))=H6 at bq bs M c0 ⊢;left;refine gi (aI.of M) ?_;left;refine gS M bs (eP (by simp only[Of,NV,Ol,P6];lia)) ?_;have d1:=bq.upL (o:=.lst (((FL.so done).map V.int++[V.int (row.length:Int)])++row.map V.int)) M (.inl rfl);left;refine⟨bK.length,by rw[J.len,Ol];lia,done++[((n:Int)::a)::xs],bK,some (nv n),some (.ref ft),some (.ref nu),some (.ref ro),v8,some (.ref r5),⟨rfl,by rw[J.all,Oz];rfl,?_,?_,?_⟩,?_⟩
    ·rw[tG,bk,Of];exact d1
    ·intro u I;by_cases q:u=td
     ·exfalso;rcases I.2 with⟨ys,z⟩|⟨o,y,z⟩<;>rw[q,b6] at z<;>cases z
     ·rw[aj q,c0 u q,bd u (.inr I),LF.same (ls:=[]) Y u (uo u (.inr I)) (by simp)];exact J.kept u I
    ·rw[ac,Z,Oj,Oz];rfl
    ·rw[c7];rfl
  ·cases bK with
   |cons c bK=>
    rw[b4] at h1;obtain⟨n,a,xs,fc,rfl,_⟩:=(av c (by rw[J.all];simp)).ex;simp[Pe,PyFlat.put1] at h1;lia
   |nil=>
    have e:=J.all;rw[OC] at e;subst e;left;exact kk H' td J.told
end
open PySem PySem.W PyProof.Rows L2
theorem ki{K:Tp}{C I:Addr}{q J:N_}{st z:OE}(a:iH K C q st)(b:iH K I J z)(n:q≠J):C≠I:=by
 rintro rfl;obtain⟨f,fd,M,⟨oc,od,kV,Y,pm,an,Z,ct,al,rfl,l,_⟩,_⟩:=a;obtain⟨f',ar,M',⟨as,av,b1,L,b2,b3,O,b4,S,rfl,F,_⟩,_⟩:=b;have e:=M.init.symm.trans M'.init;cases e;rw[l] at F;apply n;unfold fnOf at F;simp only[N6.injEq,Obj.mk.injEq,Data.func.injEq,Qm.mk.injEq] at F;simp_all
theorem Iq{K:Tp}{mg:N_->Option NU}{A:cX}(T:Txt K mg A):Gz A:=
 ⟨ki T.KM T.K9 (by decide+kernel),ki T.KM T.K_ (by decide+kernel),ki T.KM T.La (by decide+kernel),ki T.KM T.KN (by decide+kernel),ki T.KN T.K_ (by decide+kernel),ki T.KN T.K9 (by decide+kernel),ki T.KN T.La (by decide+kernel)⟩
theorem Km{P:N3}{w:Oh}{K:Tp}{mg:N_->Option NU}{A:cX}{I:Addr}(T:Txt K mg A)(D:Ip P w K mg)(z:mg "answers"=some (.ref I)):∃fd:Qm,(∀(s:NY)(us:List NU),us.length=(["calls"]:List N_).length->Tz s fd ⟨us,[]⟩ ((["calls"]:List N_).zip us))/\∀base:Heap,K.In base->base.Ns Oa mg->jO P w K mg base CZ 14 I fd ["calls"] (nN K):=by
 obtain⟨f,fd,F,J⟩:=T.NT;have e:=z.symm.trans J;cases e;refine⟨fd,?_,fun base _ _=>Ax T D (Iq T) F⟩;obtain⟨Z,od,kV,L,pm,an,M,ct,O,rfl,lk,S⟩:=F.ex;exact fun s=>lnB ["calls"] fun _=>.of_eq rfl
theorem JJ(K:Tp)(H:Hp)(xs:List V)(a:QD.denoteAll PySem.Challenge.rw_pallethallfare_s01_answers.args)(z:QD.app PySem.Challenge.rw_pallethallfare_s01_answers.args PySem.Challenge.rw_pallethallfare_s01_answers.asked a=true)(F:jw K H xs (QD.encAll PySem.Challenge.rw_pallethallfare_s01_answers.args a)):
  nN K xs H (fun v H'=>Dw K H' v (PySem.Challenge.rw_pallethallfare_s01_answers.ret.enc (QD.app PySem.Challenge.rw_pallethallfare_s01_answers.args PySem.Challenge.rw_pallethallfare_s01_answers.f a))) fun _ _ _=>False:=by
 cases F with
 |cons h1 h2=>
  cases h2;cases h1 with
  |lst hs ha=>
   have e:=AV a.1 _ ha;subst e;obtain⟨I,J,L,M,O,S⟩:=yA (l:=a.1) z;refine⟨_,a.1,I,rfl,hs,J,L,M,S,fun H' p Y=>?_⟩;show Dw K H' (.ref p) (.list ((Rp a.1).map PZ.int));rw[O];exact .lst (aI.of Y) (AU _)
end Fare
open PySem PySem.W PyProof.Rows
set_option maxHeartbeats 0 in
theorem PySem.Challenge.cw_pallethallfare_s01_answers_holds : PySem.Challenge.rw_pallethallfare_s01_answers.Holds := by
  w_on; refine Fare.hd ?_
  k_fillS
  refine L2.HG (r := PySem.Challenge.rw_pallethallfare_s01_answers) (k := 14) (CX := L2.CZ) (ps := ["calls"]) (sp := Fare.nN) (by decide +kernel) rfl rfl ⟨rfl, by decide, by decide⟩ (fun w h Y => PySem.W.kIn_of Y) ?F ?S (fun _ _ _ _ z => z)
  case F =>
    intro w mg fa h Y KX G hmg
    obtain ⟨A, T⟩ : ∃ A, Fare.Txt (Fare.hd.heap_1 w.params) mg A := by
      refine' Fare.Kl ?aStay ?aOffer ?aProduct ?aTariff ?aCard ?aTicket ?aPark ?T
      (case aStay => k_is)
      (case aOffer => k_is)
      (case aProduct => k_is)
      (case aTariff => k_is)
      (case aCard => k_is)
      (case aTicket => k_is)
      (case aPark => k_is)
      constructor
      all_goals try dsimp only
      all_goals first
        | (refine' Fare.Ki KX G ?a; (case a => k_is))
        | (refine' Fare.Kj KX G ?a; (case a => k_is))
        | (refine' mg_none_of KX G ?a; (case a => k_is))
        | (refine' mg_of KX G ?a; (case a => k_is))
        | (refine' Fare.Kh KX G ?a ?l ?c ?k; (case a => k_is); (case l => k_is); (case c => k_is); (case k => k_is))
        | (unfold L2.aX; k_is)
        | (refine ⟨?_, ?_, ?_, ?_⟩ <;> k_is)
        | (refine' Fare.JG ?m ?a ?i ?j ?l ?c ?k; (case m => k_is); (case a => k_is); (case i => k_is); (case j => k_is); (case l => k_is); (case c => k_is); (case k => k_is))
        | (refine' Fare.JH ?a ?i ?l ?c ?k; (case a => k_is); (case i => k_is); (case l => k_is); (case c => k_is); (case k => k_is))
        | (refine' Fare.Kk KX G ?a ?l ?z ?v; (case a => k_is); (case l => k_is); (case z => decide); (case v => repeat' first | exact .nil | exact ⟨_, rfl⟩ | refine .cons ?_ ?_))
    have D : Fare.Ip PySem.Challenge.rw_pallethallfare_s01_answers.prog w (Fare.hd.heap_1 w.params) mg := by
      refine ⟨?_, ?_, ?_⟩
      · refine' Fare.JE KX G ?_ ?_ ?_ ?_ ?_ ?_ ?_ ?_ ?_ ?_ ?_ ?_ ?_ ?_ ?_ ?_ ?_ ?_ ?_ ?_ ?_ ?_ ?_ ?_
        all_goals first | k_is | decide | skip
      · refine' Fare.JI KX G ?_ ?_ ?_ ?_ ?_ ?_ ?_ ?_ ?_ ?_ ?_ ?_ ?_ ?_ ?_ ?_
        all_goals first | k_is | decide | skip
      · refine' Fare.JD KX G ?_ ?_ ?_ ?_ ?_ ?_ ?_ ?_ ?_ ?_ ?_
        all_goals first | k_is | decide | skip
    exact Fare.Km T D hmg
  case S =>
    intro K H xs a hO hwi hask hx
    exact Fare.JJ K H xs a hask hx
