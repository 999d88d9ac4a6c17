import PyProof.Rows.All
import Wide.All
import OpenK.AllK
import Wide.FinOn
import Lean
import PyProof.EqAt
import PyProof.EqKinds
import PyProof.TupleCall
import PyProof.ExcClass2
import PyProof.StationsW
import PyProof.RulesAs
import PyProof.ExcArgs
import PyProof.InstStoreFacts
import PyProof.ExcStrCall
import PyProof.ExcBaseAll.ValueError
import PyProof.StrWalks
import PyProof.ConsumeWalk
import PyProof.StrLawsIn
import KE.KTab
import PyProof.CompFree
import PyProof.NeKinds
import PyProof.CompMap
import KE.KDictOf
import KE.KRevIter
import PyProof.WalksEnum
import PyProof.ListRange
import PyProof.ZipIter
import PyProof.Rows.Range3
import PyProof.CompUse
import PyProof.Draws
import KE.KDictList
import PyProof.DictIter
import PyProof.DictWalks
import PyProof.InstEq
import PyProof.Rows.FactsCmp_str
import KE.KIntText
import PyProof.StrBlockH
import PyProof.FitsReplace
import PyProof.StrLawsChain
import PyProof.StrLawsTight
import PySem.Challenge.RW_plainspeak_k27_desk_refusals
namespace PySem.W.Fast
def tw431873287815575395:=0
def tw1749634081267249883:=0
def tw9788897088216291158:=0
def tw5742576188586748009:=0
def tw6983323883160026443:=0
def tw13621343702613068276:=0
def tw9939715266394704776:=0
def tw13781582932848291827:=0
def tw14280008791308760876:=0
def tw2081962077452165798:=0
def tw14673785047454752220:=0
def tw16250287536673751492:=0
def tw12816966106211201:=0
def tw17985741656146216685:=0
def tw13726094184407728839:=0
def tw8530573458506136044:=0
def tw11056914571463705132:=0
def tw17900484574198240239:=0
def tw14115224960755887912:=0
def tw4955610546846082281:=0
def tw16570676069810408599:=0
def tw13774919236268612475:=0
def tw683835386240484757:=0
def tw17297888146773963323:=0
def tw12567179078525603912:=0
def tw9729951607746601130:=0
def tw12823333453766737193:=0
def tw4987384690204135491:=0
def tw14668743065874163067:=0
def tw10694695505059028619:=0
def tw6788505686335498944:=0
def tw8957089825589587960:=0
def tw237653242714380370:=0
def tw13286413195922127391:=0
def tw17322971159445553992:=0
def tw18249614023132130478:=0
def tw11334605048419796182:=0
def tw2886945807087192102:=0
def tw1994936964881631289:=0
def tw2440190114794533130:=0
def tw12685432227604046406:=0
def tw6803886235485284037:=0
def tw15740599330265310772:=0
def tw9072839590837536021:=0
def tw10917426386597387342:=0
def tw9138373388235311031:=0
def tw16478436819157969958:=0
def tw9890551605228735730:=0
def tw8247059879307073935:=0
def tw6105450692446446073:=0
def tw11069172754702215738:=0
def tw11847422636678619305:=0
def tw989532183662770693:=0
def tw1643118529004106110:=0
def tw2870785379127449510:=0
def tw11510982445056476188:=0
def tw6561527792948414076:=0
def tw5813089898017608983:=0
def tw3029229262225347134:=0
def tw14507503769541291574:=0
def tw16888278148593185021:=0
def tw10234717523309196080:=0
def tw14305044991254124353:=0
def tw4767771593271257107:=0
def tw3306311410388796881:=0
def tw2429639470095280201:=0
def tw14549589124402702113:=0
def tw2751791167189207993:=0
def tw13168313516352204111:=0
def tw9099989529189189183:=0
def tw14809077133382851284:=0
def tw12802274698284537272:=0
def tw2023337344120764948:=0
def tw8541458719727392015:=0
def tw17271863222748696467:=0
def tw11294960962943697407:=0
def tw7499864646826537696:=0
def tw10168115472550098866:=0
def tw269436556317170629:=0
def tw14507395708100229293:=0
def tw15499785006507989096:=0
def tw9831026557223415747:=0
def tw4532830596248192545:=0
def tw3991040594212958840:=0
def tw8465103432998109888:=0
def tw4946652168448907521:=0
def tw13396966195118851784:=0
def tw16603828352017939766:=0
def tw7901740440618499821:=0
def tw17606320396293333136:=0
def tw3516940245893589763:=0
def tw1679796582489280064:=0
def tw9730718848709533120:=0
def tw14692514917371494394:=0
def tw8922322537087776209:=0
def tw10173355548595083605:=0
def tw15789841339815318878:=0
def tw3516197698147591253:=0
def tw7615968527611250125:=0
def tw17068104861010977643:=0
def tw7819531430296027961:=0
def tw10558023116973156212:=0
def tw1601606610745157836:=0
def tw5700198150788727997:=0
def tw3928277170862897910:=0
def tw16177455220694015158:=0
def tw3129488455449485965:=0
def tw5740940368193018935:=0
def tw206423637774878217:=0
def tw1083667175483400655:=0
def tw15784245025221712354:=0
def tw8778171587140125619:=0
def tw5015741695273977986:=0
def tw15865318484747460139:=0
def tw1339314465219417035:=0
def tw3468084301854045696:=0
def tw1937836921670869460:=0
def tw4981305584422980311:=0
def tw1053874221301592806:=0
def tw10905948210357626870:=0
def tw29117287733073992:=0
def tw1579197535319612197:=0
def tw5284079292414454580:=0
def tw7256911913873736984:=0
def tw14223338616342959585:=0
def tw16447854166064783780:=0
def tw13524488251624350587:=0
def tw16577951931089689673:=0
def tw6337257275234731270:=0
def tw2974261856235403220:=0
def tw4581137547037459975:=0
def tw4648446600379602294:=0
def tw7552176785335142801:=0
def tw17220334769440275784:=0
def tw5358907895251818185:=0
def tw8222629972611323839:=0
def tw8106787364378270363:=0
def tw9908308802488107090:=0
def tw192484933059565652:=0
def tw11729659410589682154:=0
def tw4484038282411593091:=0
def tw7995317037875374418:=0
def tw1194546342579386620:=0
def tw9498633651722983132:=0
def tw1805338014141838143:=0
def tw15650309943710685891:=0
def tw17432332130088806309:=0
def tw15458922590175280913:=0
def tw16744875892599147393:=0
def tw92099430387967919:=0
def tw7539994266432294121:=0
def tw14223842586129751265:=0
def tw15373893905211813077:=0
def tw1040260902505886797:=0
def tw13112945217487494907:=0
def tw14761311769955100500:=0
def tw13357170089370640790:=0
def tw13954858384143663648:=0
def tw8129209383551977092:=0
def tw3687960856310647305:=0
def tw1525094830402944737:=0
def tw2700987862646546789:=0
def tw9076629284015226860:=0
def tw6709396686340560426:=0
def tw4733833384724349382:=0
def tw183651153726455517:=0
def tw6423306116777157374:=0
def tw3708436227032193906:=0
def tw16260935148089699412:=0
def tw3987303337134107911:=0
def tw13755466228373105827:=0
def tw727869006205075312:=0
def tw4928446497121154004:=0
def tw7314871452973609100:=0
def tw8878357070415504169:=0
def tw3218305460865470821:=0
def tw3962692280804498965:=0
def tw1646448161239389727:=0
def tw32487516053722007:=0
def tw17939767841181699258:=0
def tw14730041529406372569:=0
def tw8139125602376150571:=0
def tw6111067111175202953:=0
def tw10315444943682686264:=0
def tw15343208746937442712:=0
def tw226777611948884866:=0
def tw2209416942667838176:=0
def tw4858390623188586573:=0
def tw948322265322656413:=0
def tw17463407441915482892:=0
def tw16176657020631957731:=0
def tw13065208104437656766:=0
def tw1422237368727797101:=0
def tw615006821549588965:=0
def tw16803466222082741763:=0
def tw8127742506383773518:=0
def tw16103084952148947483:=0
def tw16129713036923520283:=0
def tw9400578191689124134:=0
def tw17111165167233127385:=0
def tw11394321637318173108:=0
def tw2303829095234967247:=0
def tw5075181962969951019:=0
def tw16512058823455976405:=0
def tw3911220534457585042:=0
def tw14971400023080566819:=0
def tw12463668213229457301:=0
def tw16232755291830240046:=0
def tw601246312914727257:=0
def tw5423337817315732627:=0
def tw16915538915776863941:=0
def tw280825051096000985:=0
def tw17601518292597608002:=0
def tw11794378561922558023:=0
def tw14596057892374839402:=0
def tw10990128639829892763:=0
def tw14452477404270922965:=0
def tw13618856938812031511:=0
def tw9015316728302941917:=0
def tw89820434222862008:=0
def tw10111469243213704461:=0
def tw4472056987011534709:=0
def tw3104756462311838324:=0
def tw4805347191496436574:=0
def tw14469049254630945421:=0
def tw11191321094839710637:=0
def tw17283499361373739033:=0
def tw14598959048328059907:=0
def tw5024355729009608169:=0
def tw5472273191406645109:=0
def tw3437514050808255215:=0
def tw12826563245405549111:=0
def tw13139747497868632191:=0
def tw11982905993747198014:=0
def tw749745300383576106:=0
def tw9142609238209812429:=0
def tw10234470017223321658:=0
def tw9078790636579350234:=0
def tw5432261728603861628:=0
def tw12145160370624616526:=0
def tw17178586843597622078:=0
def tw489002211869640995:=0
def tw16307331136251805866:=0
def tw3976029186169383341:=0
def tw7855944744604897919:=0
def tw17431632983194123944:=0
def tw15100276624658049612:=0
def tw4476779320303732171:=0
def tw13277152050964876772:=0
def tw4607952086994053179:=0
def tw15922845086872248727:=0
def tw3022942500381612964:=0
def tw13510643687981211976:=0
def tw4978099464873677796:=0
def tw13977377244532718894:=0
def tw7599604733878826722:=0
def tw10082759178552732092:=0
def tw8211857690693866431:=0
def tw16220799501723827580:=0
def tw4421009827443251645:=0
def tw7373078504974564917:=0
def tw17498248977161859030:=0
def tw5484224565797682966:=0
def tw6922005389249455477:=0
def tw1736191204893561115:=0
def tw17427685643298760680:=0
def tw745966781018162098:=0
def tw2738847352666504150:=0
def tw12169775271010021867:=0
def tw7283846090434817078:=0
def tw10912111437509250262:=0
def tw1285437778466773408:=0
def tw9828824865065683156:=0
def tw12232513964792500085:=0
def tw85403116749750647:=0
def tw3710832214622825113:=0
def tw12333340979412798911:=0
def tw7437063318861188650:=0
def tw1816485199317639053:=0
def tw9771185851079025889:=0
def tw15402360296021941102:=0
def tw9997023512606531614:=0
def tw13796840931269960124:=0
def tw14786490835111284887:=0
def tw7795904044727475179:=0
def tw7970582317360938598:=0
def tw14825290972840309653:=0
def tw2819091169167368265:=0
def tw17703771403333247714:=0
def tw13457198826611635195:=0
def tw10227529099346915159:=0
def tw5710331400557796065:=0
def tw15236163817081354468:=0
def tw6033955184308931255:=0
def tw14210434057168095596:=0
def tw13907403296144270363:=0
def tw6680926198003480308:=0
def tw12368371601905183805:=0
def tw610778772392273391:=0
def tw17664167742849097204:=0
def tw13547520578582047900:=0
def tw6824392837261505345:=0
def tw9178508349790092948:=0
def tw12461619192112914678:=0
def tw3463046665308600907:=0
def tw941074280083232231:=0
def tw13058330490516773329:=0
def tw6222317229634131124:=0
def tw10626349907690792288:=0
def tw6409266326294815333:=0
def tw18134006344502915231:=0
def tw14256583259019206271:=0
def tw9260408781519503393:=0
def tw5496933977033095046:=0
def tw3323635788589523648:=0
def tw13716459282551855178:=0
def tw7289127957345354170:=0
def tw13894170939748353253:=0
def tw15448442060133135525:=0
def tw12345121629606263274:=0
def tw16943097681494365436:=0
def tw15916609117257890264:=0
def tw8299887061113749293:=0
def tw13224384313469398225:=0
def tw18299968288990672739:=0
def tw13456433004100415863:=0
def tw8862221641966235039:=0
def tw6594522770073821765:=0
def tw10292069150945962164:=0
def tw13124510916393970406:=0
def tw8096909841716132394:=0
def tw15789031529487375322:=0
def tw8502757503567018172:=0
def tw17446737008415793047:=0
def tw6665997470944952424:=0
def tw10651286850910630571:=0
def tw10427229108984085455:=0
def tw7957441618933066454:=0
def tw10831799523646982347:=0
def tw103173745539180769:=0
def tw10727129594349684882:=0
def tw16767186337041143341:=0
def tw13085375852167752492:=0
def tw17950098741473461505:=0
def tw13953576443925167330:=0
def tw2986723143843200254:=0
def tw14555967902789544468:=0
def tw3886800692656162132:=0
def tw10245572993741201846:=0
def tw8588282831467430132:=0
def tw8216826681489270389:=0
def tw127446928672408792:=0
def tw9659006194688083605:=0
def tw11083931386386629114:=0
def tw8210129574451193305:=0
def tw13360289593779377194:=0
def tw13924340830749411279:=0
def tw6983696635797471284:=0
def tw1777288220543714650:=0
def tw11669020628531124281:=0
def tw8621318609832007407:=0
def tw1038892615086840918:=0
def tw13482514016566303459:=0
def tw5129331601538406633:=0
def tw3500417385367269348:=0
def tw11077746610568005737:=0
def tw10665812290695564950:=0
def tw6971211737105342226:=0
def tw17692433681212492286:=0
def tw8553569740856856369:=0
def tw7033053063694644697:=0
def tw9817231654077816802:=0
def tw8189763849180839256:=0
def tw15660140364234025472:=0
def tw7077062938116736316:=0
def tw13866755637862063661:=0
def tw774031764324343250:=0
def tw1426043394975211537:=0
def tw5263541171999797072:=0
def tw17789667546345593462:=0
def tw12349729599540975226:=0
def tw4867400333986580516:=0
def tw8599670388761085458:=0
def tw13156648199966380584:=0
def tw17164058466900557426:=0
def tw13106012275564365391:=0
def tw16959753633859801280:=0
def tw4548538321388340676:=0
def tw6606627500571077351:=0
def tw15278945209377400810:=0
def tw9748220012484670503:=0
def tw10536837489020819892:=0
def tw15807706639055957038:=0
def tw13135781154813762948:=0
def tw2340274141620586356:=0
def tw9234319442469591114:=0
def tw15216010786416684721:=0
def tw9155653065864978896:=0
def tw9973016740323175934:=0
def tw7287562225247415228:=0
def tw354527012933127016:=0
def tw12353424185124851666:=0
def tw8077836240180580195:=0
def tw15051575462748806487:=0
def tw9617858183700791617:=0
def tw6728240378831409690:=0
def tw15127685663028518305:=0
def tw7143448620388643107:=0
def tw17157339527333647575:=0
def tw8425678301329768801:=0
def tw1380403567104914084:=0
def tw2066640252097876387:=0
def tw6201995150029162713:=0
def tw17492576788362326466:=0
def tw5247033874358199068:=0
def tw10541127188209153046:=0
def tw3144182916015708155:=0
def tw15859848147191955606:=0
def tw17771774621051672041:=0
def tw15357117705490132618:=0
def tw540652237934576836:=0
def tw742370451327433940:=0
def tw3410034894804460405:=0
def tw9641434982576717517:=0
def tw3183194090717501256:=0
def tw11173518897385854777:=0
def tw337621722855856689:=0
def tw3630073804142217307:=0
def tw805709043070973270:=0
def tw11320177144701843951:=0
def tw17228867984609719387:=0
def tw8194401769074137738:=0
def tw18339102564908783522:=0
def tw10527661071408368163:=0
def tw15889439453839020881:=0
def tw16420214733209250932:=0
def tw2864182421540313319:=0
def tw6229677413851862599:=0
def tw16041041018662720649:=0
def tw935640142670936951:=0
def tw14193417015067885299:=0
def tw12572921273264749684:=0
def tw2883663931970430242:=0
def tw602378626002260199:=0
def tw278082373495758063:=0
def tw11180897247280636543:=0
def tw17075937349614939435:=0
def tw11151299506094654841:=0
def tw12887575217106666284:=0
def tw306342748174575532:=0
def tw10008719878061022540:=0
def tw12858109062341530514:=0
def tw4101561016588519938:=0
def tw5098877178925736576:=0
def tw12781720579399215941:=0
def tw10954057233120606643:=0
def tw6184668540617380989:=0
end PySem.W.Fast
section
set_option Elab.async false
set_option linter.all false
set_option hygiene false
local macro_rules|`(tactic|refine $f:ident $a* ?hc)=>`(tactic|refine $f $a* hq)
set_option hygiene true
open PySem PySem.W PyProof.Rows
set_option maxRecDepth 100000 in
set_option maxHeartbeats 0 in
noncomputable def HD:PSigma fun Q:Prop=>Q->PySem.Challenge.rw_plainspeak_k27_desk_refusals.Holds:=by
 constructor
 case snd=>
  intro hq
  w_on;o_law;k_head
  w_witness2
end
open PySem renaming wpAny_bind->qr,Shared->zr,Value->zt,Addr->jp,wpAny_pure->xk,mainGlobals->xi,sizeLine_eq->xt,wpAny->xI,starEach->ky,model->vk,wpAny_mono->wb,wpAny_loadPart_at->wa,sysModules->ul,FuncData->ol,wpAny_field->oa,wpAny_Call_Name_kw->oP,compareOp->cq,Program->cv,Stmt->cc,wpAny_isSubtype_exc->cf,typeLookup->cp,wpAny_truthy_bool->lx,Heap->ll,keywordEach->gd,wpAny_newObj_type->gL,backTo->gN,wpAny_holding->mm,foldedSetIterable->mn,checkBuiltinCall->dq,wpAny_call_entry->du,codeAny_mono->dE,wpAny_seqItems->fb,World->fe,codeAny_call_builtin->hZ,Expr->hU,excClassObj->pE,wpAny_callSpecial?_slot->p0,rawInt->ro,wpAny_call->sx,Around->si,wpAny_setField_rec->sh,wpAny_passesOwn->tI,backToKw->ac,cLine->eI,behindInMarks->Qb,codeAny->Qr,compEnvC->QQ,wpAny_execs_nil->Q1,wpAny_getItem_str_slice->Z',Builtin->X1,call_meets->Kj,typeIs_str->Kk,wpAny_pyIter_list->Ki,wpAny_setField->V',attributeBase->OK,wpAny_onRaise->Iy,letOwnedTupleGo->Mo,setFlight->M2,sliceBounds->M',swapsWith->Nw,IsPair->BM,bootBuiltins->Dx,fastBuiltinMro->Fu,noteFrame->Fn,wpAny_pyIter_enum->Fh,ExceptHandler->Hb,NameKind->Hd,binaryOp->HI,callWith->Pl,wpAny_standAt->Pm,ExcBaseFacts->SU,codeAny_handlers_test->SF,wpAny_ite_split->Tx,assignEach->TB,wpAny_updateSeq_pair->qqx,wpAny_handleBy_cons->qqi,GenState->qqZ,getMethod->qqK,isSubtype->qqV,tupleKind_room_in1->qqW,wpAny_pyIter_tuple->qqY,BindsTo->qqC,excMatches->qqD,getItem->qqF,plainObj_wpAny_Assign_Attribute->qqH,wpAny_execs_cons->qzy,wpAny_madeBy_exc->qzu,wpAny_pyHash_str->qzo,IsZip->qzn,callerA->qzp,classData->qzr,subscripted->qzs,tupleKind->qzt,valueAt->qza,wpAny_letGo->qze,wpAny_specialOf->qzQ,wpAny_letOwnedTupleGo_enum->qzY,wpAny_newFunctionEnv_cells->qzU,codeAny_call_builtin_code->qzD,recursionLimit->qzF,IsPart->qzR,Result->qz1,isInstance->qz2,wpAny_comprehension_free->qz4
open List renaming mem_cons->js,not_mem_nil->xa,lookup_cons->kx,getElem?_eq_some_iff->km,length_append->va,map_cons->wq,length_nil->yn,take_of_length_le->yA,contains_cons->og,mem_append->ip,length_take->i3,lookup->i5,append_nil->lr,getElem?_eq_none->la,reverse_cons->mx,take_add_one->my,length_filter_le->nz,dropLast_concat->de,cons_append->hG,replicate->px,mem_map->rp,nodup_cons->ra,getD_eq_getElem?_getD->tq,mem_append_left->tj,getElem_of_mem->ap,length_reverse->ar,take_succ_cons->ae,map_nil->eJ,find?_cons->eC,nodup_nil->eR,map_map->Jn,any_cons->Kt,mem_filter->W1,getElem?_append_right->Y2,drop_eq_getElem_cons->IH,append_assoc->NA,getElem?_replicate->B1,sum_cons->B2,length_drop->DD,length_replicate->Fs,length_singleton->FK,of_mem_zip->FV,filterMap_cons->RF,length->R',filter_append->TK,range->qqv,all_map->qqu,sum_nil->qqo,all_eq_true->qqc,getElem_mem->qql,forIn_cons->qqO,nil_append->qqI,forIn_nil->qqS,getElem?_append_left->qqT,mapM_cons->qqA,mem_range->qqE,getElem?_take_of_lt->qzx,all_cons->qzl,getElem?_set_self->qzb,getElem?_reverse->qzX,getElem?_set_ne->qzI,map_congr_left->qzT,reverse_append->qzA,takeWhile_cons->qzE
open PyProof.Rows.KTD renaming datumAt->xl,inKeys->y0,datumAt->hX,isSome_datumAt->tJ,inKeys->N0,kt_dictFind_strs->qzS
open Option.some renaming inj->xb,injEq->pw
open Bool renaming false_ne_true->kf,and_eq_true->o3,eq_false_iff->cw,eq_iff_iff->mi,or_true->eQ,false_eq_true->Ts,or_false->Ta,and_false->qqP,false_or->qzc,and_eq_true_iff->qzO
open Nat renaming lt_of_lt_of_le->vx,le_trans->vy,lt_of_succ_lt->u4,zero_le->io,lt_irrefl->bj,le_add_right->pk,le_succ->eA,lt_succ_self->X2,not_lt_zero->Y1,lt_succ_of_lt->Bz,lt_or_ge->Ha,add_le_add_right->PH,le_of_lt->qqg,ne_of_gt->qqe,not_lt->qzg,le_of_eq->qzC,lt_trans->qzL
open PySem.Str renaming length_append->vT,ofString->uk,empty->ci,join->hW
open PySem.Heap renaming get?_update_other->yB,size_push->ik,get?_update_self->il,SameBut->rh,get?_push_ne->qqk,get?_update_ne->qzP
open Ne renaming symm->y7
open PySem.Builtin.SmallTypes renaming nextOf->u3,ownedTupleIsFree->lb,ownedTupleHandOut->Yf
open False renaming elim->iq
open PySem.PassesOwn renaming never->i4
open PyProof.Rows renaming callWith_type1->cx,boot_tuple->lL,boot_isinstance->fo,envOfC->sg,boot_list->aw,slot_tuple_getitem->en,boot_all->IR,boot_int->L9,boot_str->L',subscriptTail_builtinR->PP,AllBare->Sr,boot_min->qqQ
open PySem.Obj renaming data_mapFields->lm,isFreed_of_fields->bo,mapFields->hV,mapSeq->PQ
open PySem.AutoSeq1 renaming wpAny_loadPart'->lh
open PySem.W renaming mg_none_of->mf,mg_of->be,findIn->pb,nsIn->QP,kitOne->qzq,keepIn->qz3
open PySem.Builtin.List renaming listTooLong->mI,listExtendWith->eP,listLengthHint->P2,listSameRef->Ee,listItems->qqy
open PySem.Txt renaming partition->bp,join->fw,split->sk,slice->qzM
open Option renaming map_some->b0,ite_none_right_eq_some->qqw,isSome_iff_exists->qqG,isSome_map->qz0
open PySem.Builtin.Slice renaming slicePlaces->pf,sliceAdjust->Xt,sliceApplied->P'
open PySem.Builtin.Tuple renaming tupleExact->rb
open Array renaming length_toList->ax,getElem?_eq_some_iff->W',getElem?_toList->Fm,getElem?_setIfInBounds_ne->AC
open PySem.Calls renaming callWith_builtin->eM,evalArgs_plain->Hn,Name_function_global->qqU,spliced_cons->qzH
open PySem.Builtin.Str renaming occurrences->Ya,glued->qzj
open PySem.Code renaming quiet_builtin->Oy,isFrame->qzZ
open Prod.mk renaming injEq->G'
open PySem.Heap.SameBut renaming update->Bi
open Prod renaming fst->B'
open PySem.StrLaws renaming glued_eq_join->D',join_length_le->qq8,join_split->qzV,found_one->qzG
open PySem.SeqAt renaming EqAt->F',eq_list_lengthsAt->qzw
open PySem.SeqAt.EqAt renaming int_str->Hk,str_int->Hm,same->TC,bool_bool->qqM,bool_none->qqN,none_bool->qqB,bool_int->qq0,bool_str->qq1,int_bool->qq2,int_none->qq3,none_int->qq4,none_str->qq5,str_bool->qq6,str_none->qq7,int_int->qzk,str_str->qzv
open Sum.inr renaming inj->He
open List.cons renaming inj->qqJ
open PySem.Value.ref renaming inj->qqX
open Int renaming emod_nonneg->qqL
open PySem.EntryCells renaming newEntry->qqR
open PySem.Around renaming under->qzi
open PySem.SeqAt.RcAt renaming tuples->qzm
open PySem.Heap.Ns1 renaming of_empty->qzJ
open PySem.Shared renaming heap->qzK
open PySem.Value renaming isStrOf_shape->qzN
open PySem.Value.type renaming inj->qzB
abbrev xn:=@decide_eq_false
abbrev ke:=@if_neg
abbrev kS:=@beq_eq_false_iff_ne
abbrev vw:=@decide_eq_true
abbrev vi:=@of_decide_eq_true
abbrev vb:=@if_pos
abbrev y8:=@beq_self_eq_true
abbrev ii:=@or_false
abbrev ag:=@congrArg
abbrev XB:=@beq_iff_eq
abbrev K':=@of_decide_eq_false
abbrev Y':=@decide_eq_true_eq
abbrev qq9:=@if_true
abbrev qzz:=@ne_true_of_eq_false
set_option hygiene false
local macro_rules| `(tactic|ext)=> `(tactic|decide+kernel)
local macro_rules| `(~~~$x)=> `(($x).heap.objs.size)
local macro_rules| `(tactic|symm)=> `(tactic|exact⟨rfl,rfl,rfl,by decide+kernel,rfl,by decide+kernel,by decide+kernel⟩)
local macro_rules| `(tactic|omega)=> `(tactic|intro zy A outer s H vs Q E hr h)
local macro_rules| `(tactic|grind)=> `(tactic|(intro vs H Q E h;first|(rcases h;subst_vars;rfl)|((repeat (obtain⟨_,h⟩:=h));subst_vars;rfl)))
local macro_rules| `(tactic|right)=> `(tactic|dsimp only[xF,List.set])
local macro_rules| `(tactic|left)=> `(tactic|try dsimp only[jc])
local macro_rules| `(tactic|and_intros)=> `(tactic|exact fun F=>F.binds fun _ _ _ _ _ _ s us _ hl=>by obtain⟨a0,rfl⟩:=us1 hl;exact .of_eq rfl)
local macro_rules| `(tactic|funext)=> `(tactic|exact fun F=>F.binds fun _ _ _ _ _ _ s us _ hl=>by obtain⟨a0,a1,rfl⟩:=us2 hl;exact .of_eq rfl)
local macro_rules| `(tactic|walk_at "b3")=> `(tactic|exact fun F=>F.binds fun _ _ _ _ _ _ s us _ hl=>by obtain⟨a0,a1,a2,rfl⟩:=us3 hl;exact .of_eq rfl)
local macro_rules| `(tactic|walk_at "b4")=> `(tactic|exact fun F=>F.binds fun _ _ _ _ _ _ s us _ hl=>by obtain⟨a0,a1,a2,a3,rfl⟩:=us4 hl;exact .of_eq rfl)
local macro_rules| `(∅)=> `(xg P w K mg base (zJ P w))
local macro_rules| `(⋯)=> `(Kn P w K mg base)
local macro_rules| `(tactic|exfalso)=> `(tactic|intro pins s σ H Q I h)
set_option hygiene true
theorem oO:0<=PySem.sizeLine:=by decide
theorem xJ:1<=PySem.sizeLine:=by decide
theorem jk:2<=PySem.sizeLine:=by decide
theorem uI:3<=PySem.sizeLine:=by decide
theorem oI{α:Sort _}{a:α}{p:Prop}:a=a\/p:=Or.inl rfl
abbrev Fg:=PySem.W.Frag
abbrev jV:=@PySem.F.plainAttrs_list
abbrev vp:=@PySem.F.slot_list_append
abbrev vt:=@PySem.F.type_list_append
abbrev yG:=@PySem.F.slot_list_pop
abbrev yM:=@PySem.F.type_list_pop
abbrev jU:=@Option.bind_eq_some_iff
abbrev ve:=@Option.map_eq_some_iff
abbrev qL:=@Nat.le_refl
abbrev zu:=@PySem.Heap.lt_size
abbrev zK:=@Nat.ne_of_lt
abbrev jF:=@List.mem_cons_of_mem
abbrev kL:=@List.mem_append_right
abbrev qF:=@PySem.Heap.get?_push_of_some
abbrev jg:=@PySem.Heap.get?_push_size
abbrev jm:=@List.getElem?_eq_getElem
abbrev za:=@List.length_map
abbrev zH:=@List.length_cons
abbrev jd:=@List.size_toArray
abbrev xH:=@List.getElem?_map
abbrev xX:=@List.mem_singleton
abbrev kG:=@List.map_append
abbrev xK:=@List.mem_cons_self
abbrev kM:=@List.mem_of_getElem?
abbrev xV:=@PySem.boot_len
noncomputable section
variable {K:Fg} {w:PySem.World} {P prog:PySem.Program} {x z qual name:PySem.Str} {C f a CH dx UF NN l fI fS CD pr fH:PySem.Addr} {fd eK iH:PySem.FuncData} {pos apos pos':PySem.Pos} {mg mA:PySem.Str->Option PySem.Value} {A:PySem.Around} {n i j t':Nat} {pins:List (PySem.Addr×PySem.Obj)} {h h':PySem.Heap} {e tg c:PySem.Expr} {es ifs:List PySem.Expr} {u dV cd:PySem.Value} {us bm rest:List PySem.Value} {ps N own rows ja:List PySem.Str} {M:PySem.Model} {scope:PySem.Scope} {outer:List PySem.Env} {ix:List Nat} {env:PySem.Env} {fp:List PySem.Addr} {nw:Bool} {st:PySem.Stmt} {T newId:String} {s':PySem.Shared} {op:PySem.CmpOp} {pl:PySem.Sem Bool} {cl:List (PySem.Str×PySem.Addr)} {body:List PySem.Stmt} {tk:PySem.Tok} {kw:List (PySem.Str×PySem.Value)} {os:PySem.OsState}
set_option Elab.async false
set_option linter.all false
set_option maxRecDepth 100000
namespace L2
open PySem PySem.Spec PyProof.Rows
abbrev Key:=Sum Int Str
def lQ:Key->zt->Bool
 | .inl k,v=>Value.isInt k v
 | .inr x,v=>Value.isStrOf x v
def qz5(w:fe):Key->Int
 | .inl k=>hashInt k
 | .inr x=>hashStr w x
theorem oG:∀{k:Key}{v:zt},lQ k v=true->(∃i t,k=Sum.inl i/\v=Value.int i t)\/(∃x t,k=Sum.inr x/\v=Value.str x t)
 | .inl i,v,h=>by
  obtain⟨t,e⟩:=Value.isInt_shape (k:=i) (v:=v) h
  exact .inl ⟨i,t,rfl,e⟩
 | .inr x,v,h=>by
  obtain⟨t,e⟩:=qzN (x:=x) (v:=v) h
  exact .inr ⟨x,t,rfl,e⟩
theorem qz6(i:Int)(t:Tok):lQ (.inl i) (.int i t)=true:=by simp[lQ,Value.isInt]
theorem qz7(x:Str)(t:Tok):lQ (.inr x) (.str x t)=true:=by simp[lQ,Value.isStrOf]
theorem qz8(a b:Int):decide ((Sum.inl a:Key)=Sum.inl b)=(a==b):=by
 by_cases e:a=b
 ·subst e;simp
 ·have h:¬(Sum.inl a:Key)=Sum.inl b:=λq=>e (Sum.inl.inj q)
  rw[xn h]
  exact(kS.mpr e).symm
theorem qz9(a b:Str):decide ((Sum.inr a:Key)=Sum.inr b)=decide (a=b):=by
 by_cases e:a=b
 ·subst e;simp
 ·have h:¬(Sum.inr a:Key)=Sum.inr b:=λq=>e (He q)
  rw[xn h,xn e]
theorem qjq(a:Int)(b:Str):decide ((Sum.inl a:Key)=Sum.inr b)=false:=xn (λq=>nomatch q)
theorem qjz(a:Str)(b:Int):decide ((Sum.inr a:Key)=Sum.inl b)=false:=xn (λq=>nomatch q)
def xY(prog:cv)(w:fe):PySem.KeyKind prog w Key where
 is:=lQ
 hash:=qz5 w
 inj:=λv a b ha hb=>by
  rcases oG ha with⟨i,t,rfl,rfl⟩|⟨x,t,rfl,rfl⟩
  ·rcases oG hb with⟨j,u,rfl,e⟩|⟨y,u,rfl,e⟩
   ·injection e with e1 _;rw[e1]
   ·exact nomatch e
  ·rcases oG hb with⟨j,u,rfl,e⟩|⟨y,u,rfl,e⟩
   ·exact nomatch e
   ·injection e with e1 _;rw[e1]
 byValue:=λk v h=>by
  rcases oG h with⟨i,t,rfl,rfl⟩|⟨x,t,rfl,rfl⟩<;>rfl
 pyHash:=λhv h=>by
  rcases oG hv with⟨i,t,rfl,rfl⟩|⟨x,t,rfl,rfl⟩
  ·exact wpAny_pyHash_int h
  ·exact qzo h
 eqBool:=λhu hv h=>by
  rcases oG hu with⟨i,t,rfl,rfl⟩|⟨x,t,rfl,rfl⟩
  ·rcases oG hv with⟨j,u,rfl,rfl⟩|⟨y,u,rfl,rfl⟩
   ·rw[qz8]at h;exact wpAny_eqBool_int h
   ·rw[qjq]at h;exact Hk i t y u _ _ _ _ h
  ·rcases oG hv with⟨j,u,rfl,rfl⟩|⟨y,u,rfl,rfl⟩
   ·rw[qjz]at h;exact Hm x t j u _ _ _ _ h
   ·rw[qz9]at h;exact wpAny_eqBool_str h
 «strs»:=λk x t v h=>by
  rcases oG h with⟨i,u,rfl,e⟩|⟨y,u,rfl,e⟩
  ·exact nomatch e
  ·injection e with e1 _
   subst e1
   cases v<;>rfl
theorem qjj(prog:cv)(w:fe)(k:Key)(v:zt):(xY prog w).is k v=lQ k v:=rfl
theorem qjx(prog:cv)(w:fe)(i:Int)(t:Tok):(xY prog w).is (.inl i) (.int i t)=true:=qz6 i t
theorem qjk(prog:cv)(w:fe)(x:Str)(t:Tok):(xY prog w).is (.inr x) (.str x t)=true:=qz7 x t
inductive V where
 |qd|bl (b:Bool)|int (i:Int)|str (x:Str)|vU (b:Array UInt8)|dO (b:UInt64)|ref (a:jp)|ty (n:String)
 deriving DecidableEq
def RelV:V->zt->Prop
 | .qd,u=>u=Value.none
 | .bl b,u=>u=Value.bool b
 | .int i,u=>∃t,u=Value.int i t
 | .str x,u=>∃t,u=Value.str x t
 | .vU b,u=>∃t,u=Value.bytes b t
 | .dO b,u=>∃t,u=Value.float b t
 | .ref a,u=>u=Value.ref a
 | .ty n,u=>u=Value.type n
abbrev Vals:List V->List zt->Prop:=Paired RelV
theorem Vals.length{xs:List V}(r:Vals xs us):xs.length=us.length:=Paired.length r
theorem Vals.get:∀{xs:List V}{us:List zt}{i:Nat}{x:V},Vals xs us->xs[i]? =some x->∃u,us[i]? =some u/\RelV x u
 |_,_,_,_,.nil,e=>by simp at e
 |_,_,0,_,.cons r _,e=>by simp at e;subst e;exact⟨_,rfl,r⟩
 |_,_,i+1,x,.cons _ t,e=>by
  obtain⟨u,h1,h2⟩:=Vals.get (i:=i) (x:=x) t (by simpa using e)
  exact⟨u,by simpa using h1,h2⟩
theorem Vals.append:∀{xs ys:List V}{us ws:List zt},Vals xs us->Vals ys ws->Vals (xs++ys) (us++ws)
 |_,_,_,_,.nil,s=>s
 |_,_,_,_,.cons r t,s=>.cons r (Vals.append t s)
theorem Vals.take:∀{xs:List V}{us:List zt}(n:Nat),Vals xs us->Vals (xs.take n) (us.take n)
 |_,_,0,_=>.nil
 |_,_,_+1,.nil=>.nil
 |_,_,n+1,.cons r t=>.cons r (Vals.take n t)
theorem Vals.drop:∀{xs:List V}{us:List zt}(n:Nat),Vals xs us->Vals (xs.drop n) (us.drop n)
 |_,_,0,r=>r
 |_,_,_+1,.nil=>.nil
 |_,_,n+1,.cons _ t=>Vals.drop n t
def kD:Option V->Option zt->Prop
 |some v,some u=>RelV v u
 |none,none=>True
 |_,_=>False
def KV{κ:Type}:List (κ×V)->List (κ×zt)->Prop:=Paired λ(p:κ×V)(q:κ×zt)=>p.1=q.1/\RelV p.2 q.2
def kV:Key->V
 | .inl i=>.int i
 | .inr x=>.str x
inductive HO where
 |lst (xs:List V)
 |tup (xs:List V)
 |dK (kvs:List (Key×V))|dT (kvs:List (List Key×V))
 |set (S:Int->Bool) (n:Nat)
 |ins (C dx:jp) (fs:List (Str×V))
 |own (x:jp)
 |xd (fs:List (Str×V))
 |met (f x:jp)
 |Ja (lo hi:Int)
 |uC (o:Obj) (u:HO)
 |lZ (ps:Array zt)
 |ext (φ:ll->Prop)
abbrev Hp:=jp->Option HO
def upd(H:Hp)(a:jp)(o:HO):Hp:=λb=>if b=a then some o else H b
theorem qu{H:Hp}{a:jp}{o:HO}:upd H a o a=some o:=by unfold upd;rw[vb rfl]
theorem qm{H:Hp}{b:jp}{o:HO}(h:b≠a):upd H a o b=H b:=by unfold upd;rw[ke h]
theorem uL{H:Hp}{o u:HO}:upd (upd H a o) a u=upd H a u:=by
 funext b;unfold upd;split<;>rfl
theorem j9{H:Hp}{b:jp}{o u:HO}(h:H a=some o)(h':H b=some u)(d:o≠u):a≠b:=by
 intro e;subst e;rw[h]at h';exact d (xb h')
theorem zM{H:Hp}{b:jp}{o:HO}(h:H a=some o)(h':H b=none):a≠b:=by
 intro e;subst e;rw[h]at h';cases h'
section
variable (P:cv) (w:fe)
def jW(H:Hp)(h:ll)(a:jp):HO->Prop
 | .lst xs=>xs.length<=sizeLine/\∃(qy:List zt)(n:Nat),Vals xs qy/\h.get? a=some {cls:=.type "list",data:=.seq qy.toArray n}
 | .tup xs=>xs.length<=sizeLine/\∃qy:List zt,Vals xs qy/\IsTup h a qy.toArray
 | .dK kvs=>kvs.length<=sizeLine/\(a==ul)=false/\∃vs,KV kvs vs/\h.DictOf (xY P w) a vs
 | .dT kvs=>kvs.length<=sizeLine/\(a==ul)=false/\∃xs:List (List Key×jp×zt),
   Paired (λ(p:List Key×V)(q:List Key×jp×zt)=>p.1=q.1/\H q.2.1=some (.tup (p.1.map kV))/\RelV p.2 q.2.2) kvs xs/\
   ∃o es ep,h.get? a=some o/\o.ExactDict/\o.data= .dict es ep/\es.toList=xs.map (entryOfKey (qzt (xY P w)))/\(xs.map (·.1)).Nodup
 | .set S n=>h.SetOf (intKind P w) a S n
 | .ins C dx fs=>H dx=some (.own a)/\fs.length<=1000/\dx≠a/\h.get? a=some (PySem.W.instObj C dx)/\
   ∃mA,h.Ns1 dx mA/\(∀f,kD (fs.lookup f) (mA f))/\PySem.Within mA (fs.map (·.1))
 | .own _=>∃o,h.get? a=some o
 | .xd fs=>∃mA,h.Ns1 a mA/\∀f,kD (fs.lookup f) (mA f)
 | .Ja lo hi=>∃t u v,h.get? a=some {cls:=.type "range",data:=.fields #[.int lo t,.int hi u,.int 1 v]}
 | .uC o u=>h.get? a=some o/\jW H h a u
 | .lZ ps=>h.get? a=some {cls:=.none,data:=.fields ps}
 | .met f x=>h.get? a=some (PySem.W.methodObj (.ref f) (.ref x))
 | .ext φ=>φ h/\(∃o,h.get? a=some o)/\∀h1 h2:ll,φ h1->(∀o,h1.get? a=some o->h2.get? a=some o)->φ h2
def zF(H:Hp)(h:ll):Prop:=∀a o,H a=some o->jW P w H h a o
end
section
variable {H H':Hp} {o:HO}
theorem jW.lt(x:jW P w H h a o):a<h.objs.size:=by
 cases o with
 |lst xs=>obtain⟨_,_,_,_,e⟩:=x;exact zu e
 |tup xs=>obtain⟨_,_,_,p⟩:=x;exact p.lt
 |dK kvs=>obtain⟨_,_,_,_,o,_,_,e,_⟩:=x;exact zu e
 |dT kvs=>obtain⟨_,_,_,_,o,_,_,e,_⟩:=x;exact zu e
 |set S n=>obtain⟨o,_,_,_,e,_⟩:=x;exact zu e
 |ins C dx fs=>obtain⟨_,_,_,e,_⟩:=x;exact zu e
 |own y=>obtain⟨_,e⟩:=x;exact zu e
 |xd fs=>obtain⟨_,⟨_,_,_,e,_⟩,_⟩:=x;exact zu e
 |Ja lo hi=>obtain⟨_,_,_,e⟩:=x;exact zu e
 |uC ob u=>obtain⟨e,_⟩:=x;exact zu e
 |lZ ps=>exact zu (show h.get? a=some _ from x)
 |met f y=>exact zu (show h.get? a=some _ from x)
 |ext φ=>obtain⟨_,⟨_,e⟩,_⟩:=x;exact zu e
theorem Paired.Je{α β:Type}{F G:α->β->Prop}:∀{l₁:List α}{l₂:List β},Paired F l₁ l₂->(∀a b,F a b->G a b)->Paired G l₁ l₂
 |_,_,.nil,_=>.nil
 |_,_,.cons r t,f=>.cons (f _ _ r) (Paired.Je t f)
theorem jW.xP(x:jW P w H h a o)(k:∀b u,(b=a\/H b=some (.own a))->h.get? b=some u->h'.get? b=some u)
  (ho:∀b,H b=some (.own a)->H' b=some (.own a))(ht:∀b xs,H b=some (.tup xs)->H' b=some (.tup xs)):jW P w H' h' a o:=by
 induction o with
 |lst xs=>obtain⟨z,qy,n,r,e⟩:=x;exact⟨z,qy,n,r,k _ _ (.inl rfl) e⟩
 |tup xs=>obtain⟨z,qy,r,ob,e,c⟩:=x;exact⟨z,qy,r,ob,k _ _ (.inl rfl) e,c⟩
 |dK kvs=>obtain⟨z,y,vs,r,ob,es,ep,e,c⟩:=x;exact⟨z,y,vs,r,ob,es,ep,k _ _ (.inl rfl) e,c⟩
 |dT kvs=>
  obtain⟨z,y,xs,r,ob,es,ep,e,c⟩:=x
  exact⟨z,y,xs,Paired.Je r λp q z=>⟨z.1,ht _ _ z.2.1,z.2.2⟩,ob,es,ep,k _ _ (.inl rfl) e,c⟩
 |set S n=>obtain⟨ob,es,ep,t,e,c⟩:=x;exact⟨ob,es,ep,t,k _ _ (.inl rfl) e,c⟩
 |ins C dx fs=>
  obtain⟨d,z,ne,e,mA,⟨od,es,ep,e2,c⟩,r⟩:=x
  exact⟨ho _ d,z,ne,k _ _ (.inl rfl) e,mA,⟨od,es,ep,k _ _ (.inr d) e2,c⟩,r⟩
 |own y=>obtain⟨ob,e⟩:=x;exact⟨ob,k _ _ (.inl rfl) e⟩
 |xd fs=>obtain⟨mA,⟨od,es,ep,e,c⟩,r⟩:=x;exact⟨mA,⟨od,es,ep,k _ _ (.inl rfl) e,c⟩,r⟩
 |Ja lo hi=>obtain⟨t,u,v,e⟩:=x;exact⟨t,u,v,k _ _ (.inl rfl) e⟩
 |uC ob u ih=>obtain⟨e,q⟩:=x;exact⟨k _ _ (.inl rfl) e,ih q⟩
 |lZ ps=>
  have e:h.get? a=some {cls:=.none,data:=.fields ps}:=x
  show h'.get? a=some {cls:=.none,data:=.fields ps}
  exact k a _ (.inl rfl) e
 |met f y=>
  have e:h.get? a=some (PySem.W.methodObj (.ref f) (.ref y)):=x
  show h'.get? a=some (PySem.W.methodObj (.ref f) (.ref y))
  exact k a _ (.inl rfl) e
 |ext φ=>obtain⟨p,⟨o,e⟩,st⟩:=x;exact⟨st _ _ p λo q=>k _ _ (.inl rfl) q,⟨o,k _ _ (.inl rfl) e⟩,st⟩
theorem zF.lt(x:zF P w H h)(e:H a=some o):a<h.objs.size:=(x a o e).lt
theorem zF.fresh(x:zF P w H h)(e:h.objs.size<=a):H a=none:=by
 cases q:H a with
 |none=>rfl
 |some u=>exact absurd (vx (x.lt q) e) (bj _)
theorem zF.kept(x:zF P w H h)(k:∀b u,h.get? b=some u->h'.get? b=some u):zF P w H h':=λa o e=>
 (x a o e).xP (λb u _ q=>k b u q) (λ_ q=>q) λ_ _ q=>q
theorem zF.laid(x:zF P w H h)(k:∀b u,h.get? b=some u->h'.get? b=some u)(hp:h.objs.size<=a)(new:jW P w (upd H a o) h' a o):zF P w (upd H a o) h':=λb u e=>by
 have hn:=x.fresh hp
 by_cases hb:b=a
 ·subst hb;rw[qu]at e;cases e;exact new
 ·rw[qm hb]at e
  exact(x b u e).xP (λc v _ q=>k c v q) (λc q=>by rw[qm (zM q hn)];exact q) λc xs q=>by rw[qm (zM q hn)];exact q
end
def Rd(H:Hp)(a:jp)(u:HO):Prop:=H a=some u\/∃o,H a=some (.uC o u)
theorem Rd.ok{P:cv}{w:fe}{H:Hp}{h:ll}{a:jp}{u:HO}(r:Rd H a u)(x:zF P w H h):jW P w H h a u:=by
 rcases r with r|⟨o,r⟩
 ·exact x a u r
 ·obtain⟨_,q⟩:=x a _ r
  exact q
def yl:Option HO->Prop
 |some (.lst _)=>True
 |some (.dK _)=>True
 |some (.dT _)=>True
 |some (.set _ _)=>True
 |some (.ins _ _ _)=>True
 |some (.ext _)=>True
 |_=>False
section
variable {H:Hp} {x e:jp} {o':HO}
theorem zF.write(ok:zF P w H h)(mu:yl (H x))(he:e=x\/H e=some (.own x))(k:∀b u,b≠e->h.get? b=some u->h'.get? b=some u)(mW:∃u,h'.get? e=some u)
  (new:jW P w (upd H x o') h' x o'):zF P w (upd H x o') h':=λb u q=>by
 have NX:∀c y,H c=some (.own y)->c≠x:=λc y r z=>by subst z;rw[r]at mu;exact mu
 have qjv:∀c xs,H c=some (.tup xs)->c≠x:=λc xs r z=>by subst z;rw[r]at mu;exact mu
 by_cases hb:b=x
 ·subst hb;rw[qu]at q;cases q;exact new
 ·rw[qm hb]at q
  by_cases wG:b=e
  ·have q':H b=some (.own x):=by
    rcases he with z|z
    ·exact absurd (wG.trans z) hb
    ·rw[wG];exact z
   rw[q]at q';cases q'
   obtain⟨v,hv⟩:=mW
   exact⟨v,by rw[wG];exact hv⟩
  ·refine(ok b u q).xP (λc v hc r=>k c v ?_ r) (λc r=>by rw[qm (NX c b r)];exact r) λc xs r=>by rw[qm (qjv c xs r)];exact r
   rcases hc with rfl|hc
   ·exact wG
   ·rintro rfl
    rcases he with z|z
    ·exact NX c b hc z
    ·rw[hc]at z;cases z;exact hb rfl
end
structure Un(fs ex:List jp)(H H':Hp)(h h':ll):Prop where
 keep:∀b o,h.get? b=some o->H b=none->b∉fs->b∉ex->h'.get? b=some o
 slot:∀b o,h.get? b=some o->H b=none->b∈fs->b∉ex->∃sl,h'.get? b=some {o with slots:=sl}
 free:∀b o,h.get? b=some o->H b=none->b∉ex->H' b=none
 there:∀b o,h.get? b=some o->b∉ex->∃o',h'.get? b=some o'
 jv:∀b xs,H b=some (.tup xs)->H' b=some (.tup xs)
 vI:∀b o u,H b=some (.uC o u)->H' b=some (.uC o u)
 wo:∀b ps,H b=some (.lZ ps)->∃more,H' b=some (.lZ (ps++more))
section
variable {fs wc ex NK:List jp} {H H1 H2:Hp} {h1 h2:ll} {x e:jp} {o:HO}
theorem Un.any(u:Un fs ex H H1 h h1){b:jp}{ob:Obj}(q:h.get? b=some ob)(n:H b=none)(hx:b∉ex):∃sl,h1.get? b=some {ob with slots:=sl}:=by
 by_cases hb:b∈fs
 ·exact u.slot b ob q n hb hx
 ·exact⟨ob.slots,u.keep b ob q n hb hx⟩
theorem Un.kept(k:∀b u,h.get? b=some u->h'.get? b=some u):Un fs ex H H h h':=
 ⟨λb ob q _ _ _=>k b ob q,λb ob q _ _ _=>⟨ob.slots,k b ob q⟩,λ_ _ _ n _=>n,λb ob q _=>⟨ob,k b ob q⟩,λ_ _ q=>q,λ_ _ _ q=>q,λ_ ps q=>⟨#[],by rw[q];simp⟩⟩
theorem Un.refl:Un fs ex H H h h:=Un.kept λ_ _ q=>q
theorem Un.laid(k:∀b u,h.get? b=some u->h'.get? b=some u)(hp:h.objs.size<=a)(hn:H a=none):Un fs ex H (upd H a o) h h' where
 keep:=λb u q _ _ _=>k b u q
 slot:=λb u q _ _ _=>⟨u.slots,k b u q⟩
 free:=λb u q n _=>by rw[qm (zK (vx (zu q) hp))];exact n
 there:=λb u q _=>⟨u,k b u q⟩
 jv:=λb xs q=>by rw[qm (zM q hn)];exact q
 vI:=λb u xs q=>by rw[qm (zM q hn)];exact q
 wo:=λb ps q=>⟨#[],by rw[qm (zM q hn),q];simp⟩
theorem Un.write(mu:yl (H x))(he:e=x\/H e=some (.own x))(k:∀b u,b≠e->h.get? b=some u->h'.get? b=some u)(mW:∃u,h'.get? e=some u):Un fs ex H (upd H x o) h h':=by
 have hx:∀b,H b=none->b≠x:=λb n z=>by subst z;rw[n]at mu;exact mu
 have hb:∀b,H b=none->b≠e:=λb n z=>by
  subst z
  rcases he with r|r
  ·exact hx b n r
  ·rw[n]at r;cases r
 have hm:∀b u,H b=some u->¬yl (some u)->b≠x:=λb u q nm z=>by subst z;rw[q]at mu;exact nm mu
 refine⟨λb u q n _ _=>k b u (hb b n) q,λb u q n _ _=>⟨u.slots,k b u (hb b n) q⟩,λb u q n _=>by rw[qm (hx b n)];exact n,λb u q _=>?_,
  λb xs q=>by rw[qm (hm b _ q λz=>z)];exact q,λb u xs q=>by rw[qm (hm b _ q λz=>z)];exact q,λb ps q=>⟨#[],by rw[qm (hm b _ q λz=>z),q];simp⟩⟩
 by_cases wG:b=e
 ·subst wG;exact mW
 ·exact⟨u,k b u wG q⟩
end
def eV(h:ll)(H:Hp):List jp:=(qqv h.objs.size).filter λa=>(H a).isSome
def oM(h:ll)(H:Hp):ll:=PySem.W.hideAll h (eV h H)
theorem qjw(h:ll)(H:Hp):(oM h H).objs.size=h.objs.size:=PySem.W.hideAll_size _ _
theorem qjy{H:Hp}{b:jp}{o:Obj}(e:h.get? b=some o)(n:H b=none):(oM h H).get? b=some o:=
 PySem.W.hideAll_get _ e λhm=>by
  have q:(H b).isSome=true:=(W1.mp hm).2
  rw[n]at q;simp at q
theorem qju{H:Hp}{b:jp}{o:Obj}(e:(oM h H).get? b=some o):h.get? b=some o/\H b=none:=by
 have e':h.get? b=some o:=PySem.W.of_hideAll (eV h H) e
 refine⟨e',?_⟩
 cases q:H b with
 |none=>rfl
 |some x=>
  have hm:b∈eV h H:=W1.mpr ⟨qqE.mpr (zu e'),by simp[q]⟩
  have z:(oM h H).get? b=none:=PySem.W.hideAll_none (eV h H) hm
  rw[z]at e;cases e
def qh0(g h:ll)(L:jp):List (jp×Obj):=(qqv h.objs.size).filterMap λa=>if a=L\/(g.get? a).isSome=true then none else(h.get? a).map λo=>(a,o)
structure Mod(K:Fg)(mg:Str->Option zt)(base:ll):Prop where
 yN:K.In base
 glob:base.Ns xi mg
 blt:∃mb,base.Ns builtinsNs mb/\∀x:Str,x≠"__name__"->mb x=Dx x
 nolimit:base.NoLimit
structure Cx where
 prog:cv
 w:fe
 K:Fg
 mg:Str->Option zt
 base:ll
 A:si
 N:List Str
 s₀:zr
 H₀:Hp
 env:Env
 outer:List Env
 stack:List Env
 ex:List jp
 fn:Str->Bool
 calm:Bool
 pn:List (jp×Obj)
 xe:zt->zr->Prop
def xR(l:List Env):List jp:=l.filterMap (·.frame)
abbrev Cx.fs(X:Cx):List jp:=xR X.outer
def eW(sc:Scope)(x:Str):Prop:=sc.names.lookup x=some .local\/sc.names.lookup x=some .cell\/sc.names.lookup x=some .free
def Loc(sc:Scope)(x:Str):Prop:=sc.names.lookup x=some .local\/sc.names.lookup x=some .cell
def Look(env:Env)(h:ll)(m:Str->Option zt)(x:Str)(u:zt):Prop:=
 (env.kindOf x=some .local/\m x=some u)\/((env.kindOf x=some .cell\/env.kindOf x=some .free)/\∃c,env.cells.lookup x=some c/\h.IsCell c (some u))
structure Cx.Ok(X:Cx):Prop where
 mod:Mod X.K X.mg X.base
 kind:X.env.scope.kind= .function
 glob:X.env.globals=xi
 blt:X.env.builtins=builtinsNs
 above:X.s₀.heap.objs.size<=X.env.locals
 inj:∀x y c,X.env.cells.lookup x=some c->X.env.cells.lookup y=some c->x=y
 has:∀x,(X.env.kindOf x=some .cell\/X.env.kindOf x=some .free)->∃c,X.env.cells.lookup x=some c
 lJ:∀x c,X.fn x=true->X.env.cells.lookup x=some c->X.s₀.heap.objs.size<=c
 hd:X.calm=true->X.A.handled=none
 frames:X.A.frames=some X.stack
 qI:X.stack=X.outer\/(X.stack=X.env::X.outer/\X.env.frame=some X.env.locals)
 eY:∀b∈X.ex,b≠X.env.locals/\∀x c,X.env.cells.lookup x=some c->c≠b
 bs:∀b o,X.base.get? b=some o->X.s₀.heap.get? b=some o/\X.H₀ b=none
 yg:X.base.objs.size<=X.s₀.heap.objs.size
 lX:∀b o,X.base.get? b=some o->b∉X.ex
 mY:∀b∈X.ex,b∉X.fs
 vQ:X.s₀.heap.FunFrames X.base X.outer
 uG:∀b∈X.fs,X.H₀ b=none
structure Inv(X:Cx)(pins:List (jp×Obj))(σ:List (Option V))(H:Hp)(s:zr):Prop where
 ok:X.Ok
 os:s.os=X.s₀.os
 bare:Sr s.gens
 base:Un X.fs X.ex X.H₀ H X.s₀.heap s.heap
 loc:∃m,s.heap.Ns X.env.locals m/\∀(i:Nat)(x:Str)(v:V),X.N[i]? =some x->σ[i]? =some (some v)->eW X.env.scope x->∃u,RelV v u/\Look X.env s.heap m x u
 cell:∀x c,X.env.cells.lookup x=some c->∃v,s.heap.IsCell c v
 free:H X.env.locals=none
 ym:∀x c,X.env.cells.lookup x=some c->H c=none
 pin:∀p∈X.pn++pins,s.heap.get? p.1=some p.2/\H p.1=none/\p.1≠X.env.locals/\p.1∉X.fs/\∀v,p.2.data≠ .cell v
 qt:zF X.prog X.w H s.heap
 len:σ.length=X.N.length
section
variable {X:Cx} {σ:List (Option V)} {H H':Hp} {s:zr}
theorem Cx.Ok.qjo(ok:X.Ok){b:jp}{o:Obj}(e:X.base.get? b=some o):b∉X.fs:=λhb=>by
 have :=(ok.vQ.mem hb).1
 rw[e]at this;cases this
theorem Inv.bs(I:Inv X pins σ H s):∀b o,X.base.get? b=some o->s.heap.get? b=some o/\H b=none:=λb o e=>
 ⟨I.base.keep b o (I.ok.bs b o e).1 (I.ok.bs b o e).2 (I.ok.qjo e) (I.ok.lX b o e),I.base.free b o (I.ok.bs b o e).1 (I.ok.bs b o e).2 (I.ok.lX b o e)⟩
theorem Inv.bk(I:Inv X pins σ H s):∀b o,X.base.get? b=some o->s.heap.get? b=some o:=λb o e=>(I.bs b o e).1
theorem Inv.mod(I:Inv X pins σ H s):Mod X.K X.mg X.base:=I.ok.mod
theorem Inv.zZ(I:Inv X pins σ H s):X.K.In s.heap:=I.ok.mod.yN.keeps I.bk
theorem Inv.lt(I:Inv X pins σ H s):X.env.locals<(~~~s):=let⟨_,hn,_⟩:=I.loc;hn.lt
theorem Inv.sz(I:Inv X pins σ H s):X.s₀.heap.objs.size<=(~~~s):=vy I.ok.above (qqg I.lt)
theorem Inv.qji(I:Inv X pins σ H s)(h:(~~~s)<=a):a∉X.fs:=λhb=>by
 obtain⟨_,o,ho,_⟩:=I.ok.vQ.mem hb
 exact absurd (vx (zu ho) (vy I.sz h)) (bj _)
theorem Inv.iP(I:Inv X pins σ H s):∀x c,X.env.cells.lookup x=some c->c≠X.env.locals:=λx c e z=>by
 obtain⟨v,o,ho,hd⟩:=I.cell x c e
 obtain⟨m,⟨o',es,ep,yD,JQ,_⟩,_⟩:=I.loc
 rw[z,yD]at ho;cases ho;rw[JQ]at hd;cases hd
theorem Inv.vQ(I:Inv X pins σ H s):s.heap.FunFrames X.base X.outer:=by
 have all:∀(l:List Env),(∀b∈xR l,b∈X.fs)->X.s₀.heap.FunFrames X.base l->s.heap.FunFrames X.base l:=by
  intro l
  induction l with
  |nil=>intro _ _;trivial
  |cons env r ih=>
   intro hs hl
   obtain⟨hk,⟨L,o,hf,hn,ho,hd⟩,hr⟩:=hl
   have hL:L∈X.fs:=hs L (by unfold xR;rw[RF,hf];exact xK)
   obtain⟨sl,e⟩:=I.base.slot L o ho (I.ok.uG L hL) hL λz=>I.ok.mY L z hL
   exact⟨hk,⟨L,_,hf,hn,e,hd⟩,ih (λb hb=>hs b (by unfold xR;rw[RF,hf];exact jF _ hb)) hr⟩
 exact all X.outer (λ_ hb=>hb) I.ok.vQ
theorem Inv.stack(I:Inv X pins σ H s):s.heap.FunFrames X.base X.stack:=by
 rcases I.ok.qI with e|⟨e,hf⟩
 ·rw[e];exact I.vQ
 ·rw[e]
  obtain⟨m,hn,_⟩:=I.loc
  refine .cons (by rw[I.ok.kind];decide) hf hn ?_ I.vQ
  exact Heap.get?_none_of_le (vy I.ok.yg I.ok.above)
theorem Inv.dG(I:Inv X pins σ H s):∀b∈xR X.stack,b∈X.env.locals::X.fs:=λb hb=>by
 rcases I.ok.qI with e|⟨e,hf⟩
 ·rw[e]at hb;exact jF _ hb
 ·rw[e]at hb
  unfold xR at hb
  rw[RF,hf]at hb
  exact hb
theorem Inv.dM(I:Inv X pins σ H s):∀b∈xR X.stack,H b=none:=λb hb=>by
 rcases js.mp (I.dG b hb)with e|hb
 ·rw[e];exact I.free
 ·obtain⟨_,o,ho,_⟩:=I.ok.vQ.mem hb
  exact I.base.free b o ho (I.ok.uG b hb) λz=>I.ok.mY b z hb
theorem Inv.step{g':Array qqZ}{t':Nat}{d':Drawn}{ch:List jp}(I:Inv X pins σ H s)
  (uM:∀b∈ch,(b∈X.ex\/X.s₀.heap.objs.size<=b)/\b≠X.env.locals/\(∀x c,X.env.cells.lookup x=some c->c≠b)/\∀p∈X.pn++pins,p.1≠b)
  (keep:∀b o,b≠X.env.locals->b∉X.fs->b∉ch->s.heap.get? b=some o->H b=none->h'.get? b=some o)
  (slot:∀b o,b≠X.env.locals->b∈X.fs->b∉ch->s.heap.get? b=some o->H b=none->∃sl,h'.get? b=some {o with slots:=sl})(free:∀b o,b∉ch->s.heap.get? b=some o->H b=none->H' b=none)
  (there:∀b o,b∉ch->s.heap.get? b=some o->∃o',h'.get? b=some o')
  (jv:∀b xs,H b=some (.tup xs)->H' b=some (.tup xs))(vI:∀b o u,H b=some (.uC o u)->H' b=some (.uC o u))(wo:∀b ps,H b=some (.lZ ps)->∃more,H' b=some (.lZ (ps++more)))
  (ns:∀m,s.heap.Ns X.env.locals m->h'.Ns X.env.locals m)(qt:zF X.prog X.w H' h')(hg:Sr g'):
  Inv X pins σ H' {s with heap:=h',gens:=g',drawn:=d',toks:=t'}:=by
 have NV:∀b o,X.s₀.heap.get? b=some o->b≠X.env.locals:=λb o e=>zK (vx (zu e) I.ok.above)
 have lK:∀b o,X.s₀.heap.get? b=some o->b∉X.ex->b∉ch:=λb o e hx hb=>by
  rcases(uM b hb).1 with z|z
  ·exact hx z
  ·exact absurd (vx (zu e) z) (bj _)
 have cellK:∀x c,X.env.cells.lookup x=some c->∀v,s.heap.IsCell c v->h'.IsCell c v:=λx c e v⟨o,ho,hd⟩=>by
  have dD:c∉ch:=λz=>(uM c z).2.2.1 x c e rfl
  by_cases hc:c∈X.fs
  ·obtain⟨sl,q⟩:=slot c o (I.iP x c e) hc dD ho (I.ym x c e)
   exact⟨_,q,hd⟩
  ·exact⟨o,keep c o (I.iP x c e) hc dD ho (I.ym x c e),hd⟩
 refine⟨I.ok,I.os,hg,⟨λb o e n hb hx=>?_,λb o e n hb hx=>?_,λb o e n hx=>?_,λb o e hx=>?_,λb xs e=>jv b xs (I.base.jv b xs e),λb o xs e=>vI b o xs (I.base.vI b o xs e),λb ps e=>?_⟩,?_,λx c e=>?_,?_,λx c e=>?_,λp hp=>?_,qt,I.len⟩
 ·exact keep b o (NV b o e) hb (lK b o e hx) (I.base.keep b o e n hb hx) (I.base.free b o e n hx)
 ·obtain⟨sl,e1⟩:=I.base.slot b o e n hb hx
  obtain⟨iR,e2⟩:=slot b _ (NV b o e) hb (lK b o e hx) e1 (I.base.free b o e n hx)
  exact⟨iR,e2⟩
 ·obtain⟨o',e1⟩:=I.base.there b o e hx
  exact free b o' (lK b o e hx) e1 (I.base.free b o e n hx)
 ·obtain⟨o',e1⟩:=I.base.there b o e hx
  exact there b o' (lK b o e hx) e1
 ·obtain⟨m1,e1⟩:=I.base.wo b ps e
  obtain⟨m2,e2⟩:=wo b _ e1
  exact⟨m1++m2,by rw[e2,Array.append_assoc]⟩
 ·obtain⟨m,hn,hl⟩:=I.loc
  refine⟨m,ns m hn,λi x v e1 e2 e3=>?_⟩
  obtain⟨u,r,l⟩:=hl i x v e1 e2 e3
  refine⟨u,r,?_⟩
  rcases l with l|⟨k,c,e,z⟩
  ·exact .inl l
  ·exact .inr ⟨k,c,e,cellK x c e _ z⟩
 ·obtain⟨v,z⟩:=I.cell x c e
  exact⟨v,cellK x c e v z⟩
 ·obtain⟨m,⟨o,_,_,ho,_⟩,_⟩:=I.loc
  exact free _ o (λz=>(uM _ z).2.1 rfl) ho I.free
 ·obtain⟨v,o,ho,hd⟩:=I.cell x c e
  exact free c o (λz=>(uM c z).2.2.1 x c e rfl) ho (I.ym x c e)
 ·obtain⟨e,n,ne,nf,d⟩:=I.pin p hp
  have dD:p.1∉ch:=λz=>(uM p.1 z).2.2.2 p hp rfl
  exact⟨keep p.1 p.2 ne nf dD e n,free p.1 p.2 dD e n,ne,nf,d⟩
theorem Inv.un{t':Nat}(I:Inv X pins σ H s)(u:Un X.fs [] H H' s.heap h')(qt:zF X.prog X.w H' h'):Inv X pins σ H' {s with heap:=h',toks:=t'}:=by
 obtain⟨m,⟨o,es,ep,ho,r⟩,_⟩:=id I.loc
 obtain⟨sl,hL⟩:=u.any ho I.free (by simp)
 exact I.step (g':=s.gens) (d':=s.drawn) (ch:=[]) (λ_ z=>nomatch z) (λb o _ hb _ e n=>u.keep b o e n hb (by simp)) (λb o _ hb _ e n=>u.slot b o e n hb (by simp)) (λb o _ e n=>u.free b o e n (by simp)) (λb o _ e=>u.there b o e (by simp)) u.jv u.vI u.wo (λm' hm=>by
  obtain⟨o',JZ,JJ,yD,r'⟩:=hm
  rw[ho]at yD;cases yD
  exact⟨_,JZ,JJ,hL,r'⟩) qt I.bare
theorem Inv.call{g':Array qqZ}{t':Nat}{d':Drawn}{ch:List jp}(I:Inv X pins σ H s)(u:Un (xR X.stack) ch H H' s.heap h')(qt:zF X.prog X.w H' h')(hg:Sr g')
  (uM:∀b∈ch,(b∈X.ex\/X.s₀.heap.objs.size<=b)/\b≠X.env.locals/\(∀x c,X.env.cells.lookup x=some c->c≠b)/\∀p∈X.pn++pins,p.1≠b):
  Inv X pins σ H' {s with heap:=h',gens:=g',drawn:=d',toks:=t'}:=by
 obtain⟨m,⟨o,es,ep,ho,r⟩,_⟩:=id I.loc
 obtain⟨sl,hL⟩:=u.any ho I.free λz=>(uM _ z).2.1 rfl
 exact I.step (ch:=ch) uM (λb o hL hb hc e n=>u.keep b o e n (λz=>(js.mp (I.dG b z)).elim hL hb) hc) (λb o _ _ hc e n=>u.any e n hc) (λb o hc e n=>u.free b o e n hc) (λb o hc e=>u.there b o e hc) u.jv u.vI u.wo (λm' hm=>by
  obtain⟨o',JZ,JJ,yD,r'⟩:=hm
  rw[ho]at yD;cases yD
  exact⟨_,JZ,JJ,hL,r'⟩) qt hg
theorem Inv.turned{t':Nat}{it:jp}(I:Inv X pins σ H s)(k:∀b o,b≠it->s.heap.get? b=some o->h'.get? b=some o)(hn:H it=none)(hL:it≠X.env.locals)
  (h1:it∈X.ex\/X.s₀.heap.objs.size<=it)(h2:∀x c,X.env.cells.lookup x=some c->c≠it)(h3:∀p∈X.pn++pins,p.1≠it):Inv X pins σ H {s with heap:=h',toks:=t'}:=by
 have dF:∀b u,H b=some u->b≠it:=λb u e z=>by rw[z,hn]at e;cases e
 refine I.step (g':=s.gens) (d':=s.drawn) (ch:=[it]) (λb hb=>?_) (λb o _ _ hc e _=>k b o (λz=>hc (by simp[z])) e) (λb o _ _ hc e _=>⟨o.slots,k b o (λz=>hc (by simp[z])) e⟩) (λ_ _ _ _ n=>n)
  (λb o hc e=>⟨o,k b o (λz=>hc (by simp[z])) e⟩) (λ_ _ e=>e) (λ_ _ _ e=>e) (λb ps e=>⟨#[],by rw[e];simp⟩) (λm hm=>?_) (λb u e=>?_) I.bare
 ·have e:b=it:=by simpa using hb
  subst e
  exact⟨h1,hL,h2,h3⟩
 ·obtain⟨o,es,ep,ho,r⟩:=hm
  exact⟨o,es,ep,k _ o (y7 hL) ho,r⟩
 ·refine(I.qt b u e).xP (λc v hc q=>k c v ?_ q) (λ_ q=>q) λ_ _ q=>q
  rcases hc with z|z
  ·rw[z];exact dF b u e
  ·exact dF c _ z
theorem Inv.tok(I:Inv X pins σ H s)(t:Nat):Inv X pins σ H {s with toks:=t}:=I.un (h':=s.heap) (t':=t) Un.refl I.qt
theorem Inv.kept{t':Nat}(I:Inv X pins σ H s)(k:∀b u,s.heap.get? b=some u->h'.get? b=some u):Inv X pins σ H {s with heap:=h',toks:=t'}:=I.un (Un.kept k) (I.qt.kept k)
theorem Inv.laid{o:HO}{t':Nat}(I:Inv X pins σ H s)(k:∀b u,s.heap.get? b=some u->h'.get? b=some u)(hp:(~~~s)<=a)(new:jW X.prog X.w (upd H a o) h' a o):
  Inv X pins σ (upd H a o) {s with heap:=h',toks:=t'}:=I.un (Un.laid k hp (I.qt.fresh hp)) (I.qt.laid k hp new)
theorem Inv.write{x e:jp}{o:HO}{t':Nat}(I:Inv X pins σ H s)(mu:yl (H x))(he:e=x\/H e=some (.own x))(k:∀b u,b≠e->s.heap.get? b=some u->h'.get? b=some u)(mW:∃u,h'.get? e=some u)
  (new:jW X.prog X.w (upd H x o) h' x o):Inv X pins σ (upd H x o) {s with heap:=h',toks:=t'}:=I.un (Un.write mu he k mW) (I.qt.write mu he k mW new)
theorem Inv.NW{kF:List (jp×Obj)}(I:Inv X pins σ H s)(h:∀p∈kF,s.heap.get? p.1=some p.2/\H p.1=none/\p.1≠X.env.locals/\p.1∉X.fs/\∀v,p.2.data≠ .cell v):Inv X kF σ H s:=
 ⟨I.ok,I.os,I.bare,I.base,I.loc,I.cell,I.free,I.ym,λp hp=>(ip.mp hp).elim (λz=>I.pin p (tj _ z)) (h p),I.qt,I.len⟩
theorem NY(hN:N.Nodup)(a:N[i]? =some x)(b:N[j]? =some x):i=j:=by
 obtain⟨h1,e1⟩:=km.mp a
 obtain⟨h2,e2⟩:=km.mp b
 exact(List.getElem_inj hN).mp (e1.trans e2.symm)
theorem qjc{E:zt->zr->Prop}{v:V}{Q:Unit->zr->Prop}(I:Inv X pins σ H s)(hN:X.N.Nodup)(hi:X.N[i]? =some x)(hx:Loc X.env.scope x)(r:RelV v u)(h:∀s',Inv X pins (σ.set i (some v)) H s'->(∃a,rh a s.heap s'.heap/\(a=X.env.locals\/X.env.cells.lookup x=some a))->Q () s')(hf:X.fn x=true\/X.env.scope.names.lookup x=some .local:=by first|exact .inl rfl|exact .inr rfl|assumption):xI M A (storeName X.env x u) Q E s:=by
 obtain⟨m,hn,hl⟩:=id I.loc
 have dP:(X.env.scope.kind== .class||(X.env.scope.kind== .module&&X.env.locals !=X.env.globals))=false:=by rw[I.ok.kind];rfl
 have NU:i<σ.length:=by rw[I.len];exact(km.mp hi).1
 have iP:=I.iP
 have tracked:∀{a:jp}{h':ll},(∃o,s.heap.get? a=some o/\H a=none)->rh a s.heap h'->zF X.prog X.w H h':=fun {a h'}ha hs b ob e=>by
  obtain⟨_,_,d7⟩:=ha
  refine(I.qt b ob e).xP (λc w' hc q=>(hs.2 c ?_).trans q) (λ_ q=>q) λ_ _ q=>q
  rintro rfl
  rcases hc with rfl|hc
  ·rw[d7]at e;cases e
  ·rw[d7]at hc;cases hc
 rcases hx with hk|hk
 ·refine wpAny_storeName_local hk hn (λh' xS hs=>?_) dP
  obtain⟨oL,_,_,hoL,_⟩:=id hn
  refine h _ ⟨I.ok,I.os,I.bare,⟨λb o e n hb hx=>?_,λb o e n hb hx=>?_,I.base.free,λb o e hx=>?_,I.base.jv,I.base.vI,I.base.wo⟩,⟨_,xS,λj y v' e1 e2 e3=>?_⟩,λy c e=>?_,I.free,I.ym,λp hp=>?_,tracked ⟨oL,hoL,I.free⟩ hs,by simpa using I.len⟩ ⟨_,hs,.inl rfl⟩
  ·exact(hs.2 b (zK (vx (zu e) I.ok.above))).trans (I.base.keep b o e n hb hx)
  ·obtain⟨sl,e1⟩:=I.base.slot b o e n hb hx
   exact⟨sl,(hs.2 b (zK (vx (zu e) I.ok.above))).trans e1⟩
  ·obtain⟨o',e1⟩:=I.base.there b o e hx
   exact⟨o',(hs.2 b (zK (vx (zu e) I.ok.above))).trans e1⟩
  ·by_cases hj:j=i
   ·subst hj
    rw[hi]at e1;cases e1
    rw[qzb NU]at e2
    cases e2
    exact⟨u,r,.inl ⟨hk,by simp⟩⟩
   ·rw[qzI (y7 hj)]at e2
    obtain⟨u',r',q⟩:=hl j y v' e1 e2 e3
    refine⟨u',r',?_⟩
    rcases q with⟨k,e⟩|⟨k,c,e,z⟩
    ·refine .inl ⟨k,?_⟩
     have :y≠x:=λe=>hj (NY hN e1 (e▸hi))
     simp[this,e]
    ·exact .inr ⟨k,c,e,z.sameBut hs (iP y c e)⟩
  ·obtain⟨w',z⟩:=I.cell y c e
   exact⟨w',z.sameBut hs (iP y c e)⟩
  ·obtain⟨e,n,ne,nf,d⟩:=I.pin p hp
   exact⟨(hs.2 p.1 ne).trans e,n,ne,nf,d⟩
 ·have wM:X.fn x=true:=by
   rcases hf with z|z
   ·exact z
   ·rw[z]at hk;cases hk
  obtain⟨c,hc⟩:=I.ok.has x (.inl hk)
  obtain⟨w',z⟩:=I.cell x c hc
  refine wpAny_storeName_cell I.ok.kind hk hc z (λh' xq hs=>?_)
  obtain⟨oc,mO,qjg⟩:=id z
  refine h {s with heap:=h'} ⟨I.ok,I.os,I.bare,⟨λb o e n hb hx=>?_,λb o e n hb hx=>?_,I.base.free,λb o e hx=>?_,I.base.jv,I.base.vI,I.base.wo⟩,⟨m,hn.sameBut hs (y7 (iP x c hc)),λj y v' e1 e2 e3=>?_⟩,λy c' e=>?_,I.free,I.ym,λp hp=>?_,tracked ⟨oc,mO,I.ym x c hc⟩ hs,by simpa using I.len⟩ ⟨c,hs,.inr hc⟩
  ·exact(hs.2 b (zK (vx (zu e) (I.ok.lJ x c wM hc)))).trans (I.base.keep b o e n hb hx)
  ·obtain⟨sl,e1⟩:=I.base.slot b o e n hb hx
   exact⟨sl,(hs.2 b (zK (vx (zu e) (I.ok.lJ x c wM hc)))).trans e1⟩
  ·obtain⟨o',e1⟩:=I.base.there b o e hx
   exact⟨o',(hs.2 b (zK (vx (zu e) (I.ok.lJ x c wM hc)))).trans e1⟩
  ·by_cases hj:j=i
   ·subst hj
    rw[hi]at e1;cases e1
    rw[qzb NU]at e2
    cases e2
    exact⟨u,r,.inr ⟨.inl hk,c,hc,xq⟩⟩
   ·rw[qzI (y7 hj)]at e2
    obtain⟨u',r',q⟩:=hl j y v' e1 e2 e3
    refine⟨u',r',?_⟩
    rcases q with q|⟨k,c',e,z'⟩
    ·exact .inl q
    ·refine .inr ⟨k,c',e,z'.sameBut hs ?_⟩
     rintro rfl
     exact hj (NY hN e1 (I.ok.inj _ _ _ e hc▸hi))
  ·by_cases uN:c'=c
   ·subst uN;exact⟨_,xq⟩
   ·obtain⟨w2,z2⟩:=I.cell y c' e
    exact⟨w2,z2.sameBut hs uN⟩
  ·obtain⟨e,n,ne,nf,d⟩:=I.pin p hp
   refine⟨(hs.2 p.1 ?_).trans e,n,ne,nf,d⟩
   intro q
   rw[q,mO]at e
   have q':oc=p.2:=xb e
   exact d w' (by rw[<-q'];exact qjg)
theorem eU{E:zt->zr->Prop}{v:V}{Q:Unit->zr->Prop}(I:Inv X pins σ H s)(hN:X.N.Nodup)(hi:X.N[i]? =some x)(hx:Loc X.env.scope x)(r:RelV v u)(h:∀s',Inv X pins (σ.set i (some v)) H s'->Q () s')(hf:X.fn x=true\/X.env.scope.names.lookup x=some .local:=by first|exact .inl rfl|exact .inr rfl|assumption):xI M A (storeName X.env x u) Q E s:=
 qjc I hN hi hx r (λs' I' _=>h s' I') hf
theorem Inv.d8{ch:List jp}(I:Inv X pins σ H s)(ho:s'.os=s.os)(u:Un (xR X.stack) ch H H' s.heap s'.heap)(qt:zF X.prog X.w H' s'.heap)(hg:Sr s'.gens)(uM:∀b∈ch,(b∈X.ex\/X.s₀.heap.objs.size<=b)/\b≠X.env.locals/\(∀x c,X.env.cells.lookup x=some c->c≠b)/\∀p∈X.pn++pins,p.1≠b):Inv X pins σ H' s':=by
 obtain⟨h',g',d',t',o'⟩:=s'
 have e:o'=s.os:=ho
 subst e
 exact I.call (g':=g') (t':=t') (d':=d') u qt hg uM
end
abbrev XK:=zt->Option jp->Hp->Prop
abbrev St:=List (Option V)
abbrev VK:=V->Hp->Prop
abbrev TE:=St->Hp->VK->Prop
abbrev TT:=St->Hp->(Bool->Hp->Prop)->Prop
abbrev TA:=St->Hp->(List V->Hp->Prop)->Prop
structure Ends where
 nx:St->Hp->Prop
 rt:VK
 bk:St->Hp->Prop:=λ_ _=>False
 ct:St->Hp->Prop:=λ_ _=>False
abbrev TS:=Ends->St->Hp->Prop
variable {H H' H1 H0 H2:Hp} {X:Cx} {σ:St} {v y:V} {te ta tb tv:TE} {o:HO} {xs vs ys zW:List V} {t:TA} {D:Ends} {kvs:List (Key×V)} {tc:Option TT}
inductive EP(X:Cx)(pins:List (jp×Obj))(σ:St)(Q:VK)(u:zt)(s':zr):Prop
 |mk (v:V) (H':Hp) (qQ:Inv X pins σ H' s') (qZ:RelV v u) (qV:Q v H')
inductive TP(X:Cx)(pins:List (jp×Obj))(σ:St)(Q:Bool->Hp->Prop)(b:Bool)(s':zr):Prop
 |mk (H':Hp) (qQ:Inv X pins σ H' s') (qZ:Q b H')
inductive AP(X:Cx)(pins:List (jp×Obj))(σ:St)(Q:List V->Hp->Prop)(us:List zt)(s':zr):Prop
 |mk (vs:List V) (H':Hp) (qQ:Inv X pins σ H' s') (qZ:Vals vs us) (qV:Q vs H')
def SP(X:Cx)(pins:List (jp×Obj))(D:Ends)(f:Flow)(s':zr):Prop:=
 match f with
 | .next=>∃σ' H',Inv X pins σ' H' s'/\D.nx σ' H'
 | .brk=>∃σ' H',Inv X pins σ' H' s'/\D.bk σ' H'
 | .cont=>∃σ' H',Inv X pins σ' H' s'/\D.ct σ' H'
 | .ret u=>∃v σ' H',Inv X pins σ' H' s'/\RelV v u/\D.rt v H'
def PE(X:Cx)(e:hU)(t:TE):Prop:=
 ∀(pins:List (jp×Obj))(s:zr)(σ:St)(H:Hp)(Q:VK),Inv X pins σ H s->t σ H Q->xI (vk X.prog X.w) X.A (eval e X.env) (EP X pins σ Q) X.xe s
def PT(X:Cx)(e:hU)(t:TT):Prop:=
 ∀(pins:List (jp×Obj))(s:zr)(σ:St)(H:Hp)(Q:Bool->Hp->Prop),Inv X pins σ H s->t σ H Q->xI (vk X.prog X.w) X.A (isTrue e X.env (eval e X.env)) (TP X pins σ Q) X.xe s
def PW(X:Cx)(e:hU)(t:TT):Prop:=
 ∀(whole:Sem zt)(pins:List (jp×Obj))(s:zr)(σ:St)(H:Hp)(Q:Bool->Hp->Prop),Inv X pins σ H s->t σ H Q->xI (vk X.prog X.w) X.A (isTrue e X.env whole) (TP X pins σ Q) X.xe s
theorem PW.pt{t:TT}(h:PW X e t):PT X e t:=h _
def PA(X:Cx)(es:List hU)(t:TA):Prop:=
 ∀(pos:Pos)(pins:List (jp×Obj))(s:zr)(σ:St)(H:Hp)(Q:List V->Hp->Prop),Inv X pins σ H s->t σ H Q->xI (vk X.prog X.w) X.A (spliced (gN pos (ky es X.env))) (AP X pins σ Q) X.xe s
def PS(X:Cx)(st:cc)(t:TS):Prop:=
 ∀(pins:List (jp×Obj))(s:zr)(σ:St)(H:Hp)(D:Ends),Inv X pins σ H s->t D σ H->xI (vk X.prog X.w) X.A (exec st X.env) (SP X pins D) X.xe s
def xm(X:Cx)(st:List cc)(t:TS):Prop:=
 ∀(pins:List (jp×Obj))(s:zr)(σ:St)(H:Hp)(D:Ends),Inv X pins σ H s->t D σ H->xI (vk X.prog X.w) X.A (execs st X.env) (SP X pins D) X.xe s
theorem qX{α:Type}{t:Sem α}{Q Q':α->zr->Prop}{E:zt->zr->Prop}{s:zr}(h:xI M A t Q E s)(hQ:∀a s,Q a s->Q' a s):xI M A t Q' E s:=wb h hQ λ_ _ x=>x
section
theorem bin{a b:hU}(ha:PE X a ta)(hb:PE X b tb){s:zr}{R:V->V->Hp->Prop}(I:Inv X pins σ H s)(h:ta σ H λx H1=>tb σ H1 λy H2=>R x y H2){α:Type}{Q:α->zr->Prop}{f:zt->zt->Sem α}(hf:∀v u s2 x y H2,Inv X pins σ H2 s2->RelV x v->RelV y u->R x y H2->xI (vk X.prog X.w) X.A (f v u) Q X.xe s2):
  xI (vk X.prog X.w) X.A (eval a X.env) (λv s₁=>xI (vk X.prog X.w) X.A (eval b X.env) (λu s₂=>xI (vk X.prog X.w) X.A (f v u) Q X.xe s₂) X.xe s₁) X.xe s:=by
 refine qX (ha pins s σ H _ I h) λv s1⟨x,H1,I1,r1,q1⟩=>?_
 refine qX (hb pins s1 σ H1 _ I1 q1) λu s2⟨y,H2,I2,r2,q2⟩=>?_
 exact hf v u s2 x y H2 I2 r1 r2 q2
inductive qjm(i:Nat)(σ:St)(H:Hp)(Q:VK):Prop
 |mk (v:_) (qQ:σ[i]? =some (some v)) (qZ:Q v H)
def zO(i:Nat):TE:=λσ H Q=>qjm i σ H Q
def tC(v:V):TE:=λ_ H Q=>Q v H
theorem qjn(hN:X.N[i]? =some x)(hv:eW X.env.scope x)(hd:(x==("__debug__":Str))=false:=by decide)(xT:(x==("__classdict__":Str))=false:=by decide):PE X (.Name x pos) (zO i):=by
 exfalso
 obtain⟨v,e,h⟩:=h
 obtain⟨m,hn,hl⟩:=I.loc
 obtain⟨u,r,l⟩:=hl i x v hN e hv
 have fin:EP X pins σ Q u s:=⟨v,H,I,r,h⟩
 rcases l with⟨hk,hm⟩|⟨hk,c,hc,mG⟩
 ·exact wpAny_Name (wpAny_loadName_local I.ok.kind hk hn hm fin) hd
 ·rcases hk with hk|hk
  ·exact wpAny_Name (wpAny_loadName_cell I.ok.kind hk hc mG fin) hd
  ·exact wpAny_Name (wpAny_loadName_free I.ok.kind hk hc mG fin xT) hd
theorem qe{i j pos}:PE X (.Constant (.int i) j pos) (tC (.int i)):=λ_ _ _ H _ I h=>wpAny_Constant_int ⟨.int i,H,I.tok _,⟨_,rfl⟩,h⟩
theorem lV{b j pos}:PE X (.Constant (.bool b) j pos) (tC (.bl b)):=λ_ _ _ H _ I h=>Constant_bool ⟨.bl b,H,I,rfl,h⟩
theorem d9{j pos}:PE X (.Constant .none j pos) (tC .qd):=λ_ _ _ H _ I h=>Constant_none ⟨.qd,H,I,rfl,h⟩
theorem qh{x j pos}:PE X (.Constant (.str x) j pos) (tC (.str x)):=λ_ _ _ H _ I h=>Calls.Constant_str ⟨.str x,H,I.tok _,⟨_,rfl⟩,h⟩
def Gl(X:Cx)(x:Str):Prop:=X.env.kindOf x=some .globalImplicit
theorem wl{E:zt->zr->Prop}{s:zr}{Q:zt->zr->Prop}(I:Inv X pins σ H s)(hg:Gl X x)(hm:X.mg x=some u)(h:Q u s)(hd:(x==("__debug__":Str))=false:=by decide):xI (vk X.prog X.w) X.A (eval (.Name x pos) X.env) Q E s:=
 qqU I.ok.kind hg (Calls.loadGlobal_global (by rw[I.ok.glob];exact I.mod.glob.keeps I.bk) hm h) hd
theorem oF{E:zt->zr->Prop}{s:zr}{Q:zt->zr->Prop}(I:Inv X pins σ H s)(hg:Gl X x)(hm:X.mg x=none)(hv:Dx x=some u)(h:Q u s)(hn:x≠"__name__":=by decide)(hd:(x==("__debug__":Str))=false:=by decide):xI (vk X.prog X.w) X.A (eval (.Name x pos) X.env) Q E s:=by
 obtain⟨mb,h1,h2⟩:=I.mod.blt
 exact qqU I.ok.kind hg (Calls.loadGlobal_builtin (by rw[I.ok.glob];exact I.mod.glob.keeps I.bk) hm (by rw[I.ok.blt];exact h1.keeps I.bk) ((h2 x hn).trans hv) h) hd
theorem zf(hg:Gl X x)(hm:X.mg x=some u)(r:RelV v u)(hd:(x==("__debug__":Str))=false:=by decide):PE X (.Name x pos) (tC v):=
 λ_ _ _ H _ I h=>wl I hg hm ⟨v,H,I,r,h⟩ hd
theorem eO(hg:Gl X x)(hm:X.mg x=none)(hv:Dx x=some u)(r:RelV v u)(hn:x≠"__name__":=by decide)(hd:(x==("__debug__":Str))=false:=by decide):PE X (.Name x pos) (tC v):=
 λ_ _ _ H _ I h=>oF I hg hm hv ⟨v,H,I,r,h⟩ hn hd
variable {a b:hU}
def PC(X:Cx)(op:CmpOp)(a b:hU)(t:TE):Prop:=
 ∀(pins:List (jp×Obj))(s:zr)(σ:St)(H:Hp)(Q:VK),Inv X pins σ H s->t σ H Q->
  xI (vk X.prog X.w) X.A (eval a X.env) (λv s₁=>xI (vk X.prog X.w) X.A (eval b X.env) (λu s₂=>xI (vk X.prog X.w) X.A (cq op v u) (EP X pins σ Q) X.xe s₂) X.xe s₁) X.xe s
theorem qjb(b:hU)(h:op≠ .In)(h2:op≠ .NotIn):Qb op b=false:=by
 have e1:(op==CmpOp.In)=false:=by cases op<;>first|rfl|exact absurd rfl h
 have e2:(op==CmpOp.NotIn)=false:=by cases op<;>first|rfl|exact absurd rfl h2
 cases b<;>simp[Qb,e1,e2]
def qjd(ta:TE):TE:=λσ H Q=>ta σ H λx H1=>Q (.bl (decide (x= .qd))) H1
theorem RelV.qjf{x:V}{v:zt}(r:RelV x v):(v==Value.none)=decide (x= .qd):=by
 cases x with
 |qd=>cases r;rfl
 |bl _=>cases r;rfl
 |int _=>obtain⟨t,rfl⟩:=r;rfl
 |str _=>obtain⟨t,rfl⟩:=r;rfl
 |vU _=>obtain⟨t,rfl⟩:=r;rfl
 |dO _=>obtain⟨t,rfl⟩:=r;rfl
 |ref _=>cases r;rfl
 |ty _=>cases r;rfl
theorem JX{j pos'}(ha:PE X a ta):PC X .Is a (.Constant .none j pos') (qjd ta):=by
 exfalso
 refine qX (ha pins s σ H _ I h) λv s1⟨x,H1,I1,r1,q1⟩=>?_
 exact Constant_none (is_none_gen ⟨.bl _,H1,I1,by rw[r1.qjf];rfl,q1⟩)
inductive NO(Q:Bool->Hp->Prop)(x:V)(H1:Hp):Prop
 |mk (c:_) (qQ:x= .bl c) (qZ:Q c H1):NO Q x H1
def tB(t:TE):TT:=λσ H Q=>t σ H λx H1=>NO Q x H1
theorem eL{t:TE}(h:PC X op a b t)(h1:Qb op b=false:=by first|exact qjb _ (by decide) (by decide)|rfl):PT X (.Compare a [op] [b] pos) (tB t):=by
 intro pins s σ H Q I hw
 refine wpAny_isTrue_Compare1 (qX (h pins s σ H _ I hw) λv s1 h1=>qX h1 λu s2 h2=>qX h2 λc s3⟨x,H1,I1,r1,q1⟩=>?_) h1
 obtain⟨d,rfl,q⟩:=q1
 cases r1
 exact lx ⟨H1,I1,q⟩
theorem ku{t:TE}(h:PE X e t)(he:∀whole,isTrue e X.env whole=(do let v<-whole;standAt e.pos;holding [v] (truthy v)):=by intro _;rfl):PT X e (tB t):=by
 intro pins s σ H Q I hw
 refine isTrue_plain (qX (h pins s σ H _ I hw) λv s1⟨x,H1,I1,r1,q1⟩=>?_) (he _)
 obtain⟨d,rfl,q⟩:=q1
 cases r1
 exact lx ⟨H1,I1,q⟩
variable {tA eG:TT} {rest:List hU}
def qjh(t u:TT):TT:=λσ H Q=>t σ H λc H1=>if c=true then u σ H1 Q else Q false H1
def tOr(t u:TT):TT:=λσ H Q=>t σ H λc H1=>if c=true then Q true H1 else u σ H1 Q
def qjr(t:TT):TT:=λσ H Q=>t σ H λc H1=>Q (!c) H1
theorem lW(ha:PT X a tA):PW X (.BoolOp .And [a] pos) tA:=by
 intro wh pins s σ H Q I h
 refine isTrue_and (qX (ha pins s σ H Q I h) λc s1 e=>?_)
 cases c with
 |true=>exact isTrue_and_nil e
 |false=>exact e
theorem iS(ha:PT X a tA):PW X (.BoolOp .Or [a] pos) tA:=by
 intro wh pins s σ H Q I h
 refine isTrue_or (qX (ha pins s σ H Q I h) λc s1 e=>?_)
 cases c with
 |false=>exact isTrue_or_nil e
 |true=>exact e
theorem lY(ha:PT X a tA)(hb:PW X (.BoolOp .And (b::rest) pos) eG):PW X (.BoolOp .And (a::b::rest) pos) (qjh tA eG):=by
 intro wh pins s σ H Q I h
 refine isTrue_and (qX (ha pins s σ H _ I h) λc s1⟨H1,I1,q1⟩=>?_)
 cases c with
 |true=>exact hb wh pins s1 σ H1 Q I1 q1
 |false=>exact⟨H1,I1,q1⟩
theorem yb(ha:PT X a tA)(hb:PW X (.BoolOp .Or (b::rest) pos) eG):PW X (.BoolOp .Or (a::b::rest) pos) (tOr tA eG):=by
 intro wh pins s σ H Q I h
 refine isTrue_or (qX (ha pins s σ H _ I h) λc s1⟨H1,I1,q1⟩=>?_)
 cases c with
 |true=>exact⟨H1,I1,q1⟩
 |false=>exact hb wh pins s1 σ H1 Q I1 q1
theorem fq(ha:PT X a tA):PT X (.UnaryOp .Not a pos) (qjr tA):=by
 exfalso
 exact isTrue_not (qX (ha pins s σ H (λc H1=>Q (!c) H1) I h) λc s1⟨H1,I1,q1⟩=>⟨H1,I1,q1⟩)
inductive qjs(tb:TE)(σ:St)(Q:VK)(x:V)(H1:Hp):Prop
 |mk (c:_) (qQ:x= .bl c) (qZ:if c=true then tb σ H1 Q else Q (.bl false) H1)
def qjt(ta tb:TE):TE:=λσ H Q=>ta σ H λx H1=>qjs tb σ Q x H1
inductive qja(tb:TE)(σ:St)(Q:VK)(x:V)(H1:Hp):Prop
 |mk (c:_) (qQ:x= .bl c) (qZ:if c=true then Q (.bl true) H1 else tb σ H1 Q)
def NI(ta tb:TE):TE:=λσ H Q=>ta σ H λx H1=>qja tb σ Q x H1
theorem eN{op}{t:TE}(h:PE X a t):PE X (.BoolOp op [a] pos) t:=λpins s σ H Q I hw=>BoolOp_one (h pins s σ H Q I hw)
theorem NC(ha:PE X a ta)(hb:PE X (.BoolOp .And (b::rest) pos) tb):PE X (.BoolOp .And (a::b::rest) pos) (qjt ta tb):=by
 exfalso
 refine BoolOp_and (qX (ha pins s σ H _ I h) λv s1⟨x,H1,I1,r1,q1⟩=>?_)
 obtain⟨c,rfl,q1⟩:=q1
 cases r1
 refine lx ?_
 cases c with
 |true=>exact hb pins s1 σ H1 Q I1 q1
 |false=>exact⟨.bl false,H1,I1,rfl,q1⟩
theorem fj(ha:PE X a ta)(hb:PE X (.BoolOp .Or (b::rest) pos) tb):PE X (.BoolOp .Or (a::b::rest) pos) (NI ta tb):=by
 exfalso
 refine BoolOp_or (qX (ha pins s σ H _ I h) λv s1⟨x,H1,I1,r1,q1⟩=>?_)
 obtain⟨c,rfl,q1⟩:=q1
 cases r1
 refine lx ?_
 cases c with
 |false=>exact hb pins s1 σ H1 Q I1 q1
 |true=>exact⟨.bl true,H1,I1,rfl,q1⟩
def NG(t:TT)(ta tb:TE):TE:=λσ H Q=>t σ H λc H1=>if c=true then ta σ H1 Q else tb σ H1 Q
theorem lU(hc:PT X c tA)(ha:PE X a ta)(hb:PE X b tb):PE X (.IfExp c a b pos) (NG tA ta tb):=by
 exfalso
 refine wpAny_IfExp (qX (hc pins s σ H _ I h) λd s1⟨H1,I1,q1⟩=>?_)
 cases d with
 |true=>exact ha pins s1 σ H1 Q I1 q1
 |false=>exact hb pins s1 σ H1 Q I1 q1
end
def qp(K:Fg)(H:Hp)(a:jp)(xs:List V):Prop:=
 Rd H a (.lst xs)\/
  ∃(o:Obj)(qy:Array zt)(n:Nat),K.lookup a=some o/\o.cls= .type "list"/\o.dict=none/\o.data= .seq qy n/\qy.size<=sizeLine/\Vals xs qy.toList
def qb(K:Fg)(H:Hp)(a:jp)(xs:List V):Prop:=
 Rd H a (.tup xs)\/
  ∃(o:Obj)(qy:Array zt)(n:Nat),K.lookup a=some o/\o.cls= .type "tuple"/\o.data= .seq qy n/\qy.size<=sizeLine/\Vals xs qy.toList
def qje:zt->Option V
 | .none=>some .qd
 | .bool b=>some (.bl b)
 | .int i _=>some (.int i)
 | .str x _=>some (.str x)
 | .bytes b _=>some (.vU b)
 | .float b _=>some (.dO b)
 | .ref a=>some (.ref a)
 | .type n=>some (.ty n)
 |_=>none
theorem RelV.abs{x:V}(r:RelV x u):qje u=some x:=by
 cases x with
 |qd=>cases r;rfl
 |bl _=>cases r;rfl
 |int _=>obtain⟨t,rfl⟩:=r;rfl
 |str _=>obtain⟨t,rfl⟩:=r;rfl
 |vU _=>obtain⟨t,rfl⟩:=r;rfl
 |dO _=>obtain⟨t,rfl⟩:=r;rfl
 |ref _=>cases r;rfl
 |ty _=>cases r;rfl
theorem RelV.inj{x:V}(r:RelV x u)(q:RelV y u):x=y:=xb (r.abs.symm.trans q.abs)
theorem Vals.inj:∀{xs ys:List V}{us:List zt},Vals xs us->Vals ys us->xs=ys
 |_,_,_,.nil,.nil=>rfl
 |_,_,_,.cons r t,.cons r' t'=>by rw[r.inj r',Vals.inj t t']
section
variable {s:zr}
theorem qp.of(h:H a=some (.lst xs)):qp K H a xs:=.inl (.inl h)
theorem qb.of(h:H a=some (.tup xs)):qb K H a xs:=.inl (.inl h)
theorem Inv.list(I:Inv X pins σ H s)(h:qp X.K H a xs):∃qy:List zt,Vals xs qy/\PlainL s.heap a qy.toArray/\xs.length<=sizeLine:=by
 rcases h with h|⟨o,qy,n,hk,hc,hd,hs,hz,r⟩
 ·obtain⟨z,qy,n,r,e⟩:=h.ok I.qt
  exact⟨qy,r,⟨_,n,e,rfl,rfl,rfl⟩,z⟩
 ·refine⟨qy.toList,r,⟨o,n,I.zZ a o hk,hc,hd,by simpa using hs⟩,?_⟩
  have e:=r.length
  simp only[ax]at e
  lia
theorem Inv.tuple(I:Inv X pins σ H s)(h:qb X.K H a xs):∃qy:List zt,Vals xs qy/\IsTup s.heap a qy.toArray/\xs.length<=sizeLine:=by
 rcases h with h|⟨o,qy,n,hk,hc,hs,hz,r⟩
 ·obtain⟨z,qy,r,p⟩:=h.ok I.qt
  exact⟨qy,r,p,z⟩
 ·refine⟨qy.toList,r,⟨o,I.zZ a o hk,hc,n,by simpa using hs⟩,?_⟩
  have e:=r.length
  simp only[ax]at e
  lia
theorem Inv.JK(I:Inv X pins σ H s)(h:qp X.K H a xs)(h':qp X.K H a ys):xs=ys:=by
 obtain⟨qy,r,⟨o,n,e,_,_,d⟩,_⟩:=I.list h
 obtain⟨its',r',⟨o',n',e',_,_,d'⟩,_⟩:=I.list h'
 rw[e]at e';cases e'
 rw[d]at d'
 injection d' with d1 _
 have :qy=its':=by simpa using ag Array.toList d1
 subst this
 exact r.inj r'
theorem Inv.NB(I:Inv X pins σ H s)(h:qb X.K H a xs)(h':qb X.K H a ys):xs=ys:=by
 obtain⟨qy,r,⟨o,e,_,n,d⟩,_⟩:=I.tuple h
 obtain⟨its',r',⟨o',e',_,n',d'⟩,_⟩:=I.tuple h'
 rw[e]at e';cases e'
 rw[d]at d'
 injection d' with d1 _
 have :qy=its':=by simpa using ag Array.toList d1
 subst this
 exact r.inj r'
end
abbrev Cx.yF(X:Cx)(E:zt->zr->Prop):Cx:={X with xe:=E}
abbrev Cx.yd(X:Cx):Cx:=X.yF λ_ _=>False
theorem Cx.Ok.yF(ok:X.Ok)(E:zt->zr->Prop):(X.yF E).Ok:=
 ⟨ok.mod,ok.kind,ok.glob,ok.blt,ok.above,ok.inj,ok.has,ok.lJ,ok.hd,ok.frames,ok.qI,ok.eY,ok.bs,ok.yg,ok.lX,ok.mY,ok.vQ,ok.uG⟩
theorem Cx.Ok.uB{E:zt->zr->Prop}(ok:(X.yF E).Ok):X.Ok:=
 ⟨ok.mod,ok.kind,ok.glob,ok.blt,ok.above,ok.inj,ok.has,ok.lJ,ok.hd,ok.frames,ok.qI,ok.eY,ok.bs,ok.yg,ok.lX,ok.mY,ok.vQ,ok.uG⟩
section
variable {s:zr} {E:zt->zr->Prop}
theorem Inv.yF(I:Inv X pins σ H s)(E:zt->zr->Prop):Inv (X.yF E) pins σ H s:=⟨I.ok.yF E,I.os,I.bare,I.base,I.loc,I.cell,I.free,I.ym,I.pin,I.qt,I.len⟩
theorem Inv.uB(I:Inv (X.yF E) pins σ H s):Inv X pins σ H s:=⟨I.ok.uB,I.os,I.bare,I.base,I.loc,I.cell,I.free,I.ym,I.pin,I.qt,I.len⟩
theorem SP.uB{f:Flow}(h:SP (X.yF E) pins D f s'):SP X pins D f s':=by
 cases f with
 |next=>obtain⟨σ',H',I,q⟩:=h;exact⟨σ',H',I.uB,q⟩
 |brk=>obtain⟨σ',H',I,q⟩:=h;exact⟨σ',H',I.uB,q⟩
 |cont=>obtain⟨σ',H',I,q⟩:=h;exact⟨σ',H',I.uB,q⟩
 |ret u=>obtain⟨v,σ',H',I,r,q⟩:=h;exact⟨v,σ',H',I.uB,r,q⟩
theorem xm.yd{st:List cc}{t:TS}(h:xm X.yd st t):xm X st t:=λpins s σ H D I hw=>
 wb (h pins s σ H D (I.yF _) hw) (λ_ _ q=>q.uB) λ_ _ z=>iq z
end
section
variable {rest:List cc} {t u:TS}
def qjQ:TS:=λD σ H=>D.nx σ H
def vC(t u:TS):TS:=λD σ H=>t {D with nx:=u D} σ H
theorem zq:xm X [] qjQ:=λ_ _ σ H _ I h=>Q1 ⟨σ,H,I,h⟩
theorem qc(h1:PS X st t)(h2:xm X rest u):xm X (st::rest) (vC t u):=by
 intro pins s σ H D I h
 refine qzy (qX (h1 pins s σ H {D with nx:=u D} I h) λf s1 q=>?_)
 cases f with
 |next=>
  obtain⟨σ',H',I',q⟩:=q
  exact h2 pins s1 σ' H' D I' q
 |ret v=>exact q
 |brk=>exact q
 |cont=>exact q
theorem qg(h1:PS X st t):xm X [st] t:=by
 intro pins s σ H D I h
 refine qzy (qX (h1 pins s σ H D I h) λf s1 q=>?_)
 cases f with
 |next=>exact Q1 q
 |ret v=>exact q
 |brk=>exact q
 |cont=>exact q
def qjZ:TS:=λD σ H=>D.ct σ H
theorem qjJ:PS X (.Continue pos) qjZ:=λ_ _ σ H _ I h=>wpAny_Continue ⟨σ,H,I,h⟩
theorem Inv.quiet{s:zr}(I:Inv X pins σ H s):interactive X.env=false:=by simp[interactive,I.ok.kind]
def JV(te:TE):TS:=λD σ H=>te σ H λ_ H1=>D.nx σ H1
theorem zG(he:PE X e te)(hs:Nw e none pos.line X.env=pure false:=by rfl):PS X (.Expr e pos) (JV te):=by
 intro pins s σ H D I h
 exact wpAny_Expr_any (qX (he pins s σ H _ I h) λv s1⟨x,H1,I1,r1,q1⟩=>⟨σ,H1,I1,q1⟩) I.quiet hs
def fk(te:TE):TS:=λD σ H=>te σ H D.rt
theorem qW(he:PE X e te):PS X (.Return (some e) pos) (fk te):=by
 intro pins s σ H D I h
 exact wpAny_Return_some (qX (he pins s σ H _ I h) λv s1⟨x,H1,I1,r1,q1⟩=>⟨x,σ,H1,I1,r1,q1⟩)
def qjX:TS:=λD _ H=>D.rt .qd H
theorem qjK:PS X (.Return none pos) qjX:=λ_ _ σ H _ I h=>wpAny_Return_none ⟨.qd,σ,H,I,rfl,h⟩
def NF(c:TT)(t u:TS):TS:=λD σ H=>c σ H λb H1=>if b=true then t D σ H1 else u D σ H1
theorem qP{a b:List cc}{tc:TT}(hc:PT X c tc)(ha:xm X a t)(hb:xm X b u):PS X (.If c a b pos) (NF tc t u):=by
 intro pins s σ H D I h
 refine wpAny_If (qX (hc pins s σ H _ I h) λd s1⟨H1,I1,q1⟩=>?_)
 cases d with
 |true=>exact ha pins s1 σ H1 D I1 q1
 |false=>exact hb pins s1 σ H1 D I1 q1
def qjV:TS:=λ_ _ _=>False
theorem wg{sts:List cc}:xm X sts qjV:=λ_ _ _ _ _ _ h=>h.elim
end
abbrev TG:=V->St->Hp->(St->Hp->Prop)->Prop
abbrev oH:=List V->St->Hp->(St->Hp->Prop)->Prop
def PG(X:Cx)(target:hU)(t:TG):Prop:=
 ∀(pins:List (jp×Obj))(s:zr)(σ:St)(H:Hp)(v:V)(u:zt)(Q:St->Hp->Prop),Inv X pins σ H s->RelV v u->t v σ H Q->
  xI (vk X.prog X.w) X.A (assign target X.env u) (λ_ s'=>∃σ' H',Inv X pins σ' H' s'/\Q σ' H') X.xe s
def eB(X:Cx)(ts:List hU)(t:oH):Prop:=
 ∀(pins:List (jp×Obj))(s:zr)(σ:St)(H:Hp)(vs:List V)(us:List zt)(Q:St->Hp->Prop),Inv X pins σ H s->Vals vs us->t vs σ H Q->
  xI (vk X.prog X.w) X.A (assignInOrder ((TB ts X.env).map (·.2)) us) (λ_ s'=>∃σ' H',Inv X pins σ' H' s'/\Q σ' H') X.xe s
abbrev fu:=V->V->Hp->VK->Prop
def JW(X:Cx)(op:Operator)(t:fu):Prop:=
 ∀(pins:List (jp×Obj))(s:zr)(σ:St)(H:Hp)(x y:V)(v u:zt)(Q:VK),Inv X pins σ H s->RelV x v->RelV y u->t x y H Q->
  xI (vk X.prog X.w) X.A (inplaceOp op v u) (EP X pins σ Q) X.xe s
def xF(i:Nat):TG:=λv σ H Q=>Q (σ.set i (some v)) H
theorem xU(hN:X.N.Nodup)(hi:X.N[i]? =some x)(hx:Loc X.env.scope x)(hf:X.fn x=true\/X.env.scope.names.lookup x=some .local:=by first|exact .inl rfl|exact .inr rfl|assumption):PG X (.Name x pos) (xF i):=by
 intro pins s σ H v u Q I r h
 exact wpAny_assign_Name (eU I hN hi hx r (λs' I'=>⟨_,H,I',h⟩) hf)
def JY:oH:=λvs σ H Q=>vs=[]/\Q σ H
inductive qjY(t:TG)(u:oH)(vs:List V)(σ:St)(H:Hp)(Q:St->Hp->Prop):Prop
 |mk (v:_) (r:_) (qQ:vs=v::r) (qZ:t v σ H λσ' H'=>u r σ' H' Q)
def fc(t:TG)(u:oH):oH:=λvs σ H Q=>qjY t u vs σ H Q
theorem fm:eB X [] JY:=by
 intro pins s σ H vs us Q I r h
 obtain⟨e,h⟩:=h
 subst e
 cases r
 exact assignInOrder_nil ⟨σ,H,I,h⟩
theorem uD{t:TG}{u:oH}(h1:PG X e t)(h2:eB X es u)(hs:(TB (e::es) X.env).map (·.2)=assign e X.env::(TB es X.env).map (·.2):=by rfl):eB X (e::es) (fc t u):=by
 intro pins s σ H vs us Q I r h
 obtain⟨v,vr,e1,h⟩:=h
 subst e1
 cases r with
 |cons r rr=>
  rw[hs]
  refine assignInOrder_cons (qX (h1 pins s σ H _ _ _ I r h) λ_ s1⟨σ1,H1,I1,q1⟩=>?_)
  exact h2 pins s1 σ1 H1 _ _ Q I1 rr q1
inductive qjU(K:Fg)(n:Nat)(t:oH)(v:V)(σ:St)(H:Hp)(Q:St->Hp->Prop):Prop
 |mk (a:_) (xs:_) (qQ:v= .ref a) (qZ:qb K H a xs) (qV:xs.length=n) (qG:t xs σ H Q)
def JU(K:Fg)(n:Nat)(t:oH):TG:=λv σ H Q=>qjU K n t v σ H Q
theorem fh{k:Nat}{t:oH}(hc:X.calm=true)(h:eB X es t)(hn:(TB es X.env).length=n:=by rfl)(jq:(TB es X.env).findIdx? (·.1)=none:=by rfl):PG X (.Tuple es k pos) (JU X.K n t):=by
 intro pins s σ H v u Q I r hw
 obtain⟨a,xs,e1,hq,hl,hw⟩:=hw
 subst e1
 cases r
 obtain⟨qy,rv,ht,hz⟩:=I.tuple hq
 refine assign_Tuple_tuple (I.ok.hd hc) ht (by simp[hn,<-hl,rv.length]) jq λh' hx=>?_
 have I1:Inv X pins σ H {s with heap:=h'}:=I.kept (t':=s.toks) λb o e=>hx b o (zK (zu e)) e
 exact h pins _ σ H xs _ Q I1 (by simpa using rv) hw
def uF(te:TE)(g:TG):TS:=λD σ H=>te σ H λx H1=>g x σ H1 D.nx
theorem qjO{g:TG}(he:PE X e te)(hg:PG X tg g)(hs:swapsWithSole [tg] e pos.line X.env=pure false:=by rfl)(hw:swappedStores [tg] e X.env=pure none:=by rfl)(h1:(TB [tg] X.env).map (·.2)=[assign tg X.env]:=by rfl):PS X (.Assign [tg] e pos) (uF te g):=by
 intro pins s σ H D I h
 refine wpAny_Assign_stores (qX (he pins s σ H _ I h) λv s1⟨x,H1,I1,r1,q1⟩=>?_) hs hw
 rw[h1]
 exact qX (hg pins s1 σ H1 x v _ I1 r1 q1) λ_ s2 q=>q
theorem qC(hN:X.N.Nodup)(hi:X.N[i]? =some x)(hx:Loc X.env.scope x)(he:PE X e te)(hs:Nw e (some (.Name x pos')) pos.line X.env=pure false:=by rfl)(hf:X.fn x=true\/X.env.scope.names.lookup x=some .local:=by first|exact .inl rfl|exact .inr rfl|assumption):
  PS X (.Assign [.Name x pos'] e pos) (uF te (xF i)):=by
 intro pins s σ H D I h
 refine wpAny_Assign_Name (qX (he pins s σ H _ I h) λv s1⟨y,H1,I1,r1,q1⟩=>?_) hs
 exact eU I1 hN hi hx r1 (λs2 I2=>⟨_,H1,I2,q1⟩) hf
inductive qjI(i:Nat)(te:TE)(ti:fu)(N_:St->Hp->Prop)(σ:St)(H:Hp):Prop
 |mk (x:_) (qQ:σ[i]? =some (some x)) (qZ:te σ H λy H1=>ti x y H1 λz H2=>N_ (σ.set i (some z)) H2)
def qjC(i:Nat)(te:TE)(ti:fu):TS:=λD σ H=>qjI i te ti D.nx σ H
theorem eS{op:Operator}{ti:fu}(hN:X.N.Nodup)(hi:X.N[i]? =some x)(hx:Loc X.env.scope x)(he:PE X e te)(ho:JW X op ti)(hf:X.fn x=true\/X.env.scope.names.lookup x=some .local:=by first|exact .inl rfl|exact .inr rfl|assumption):
  PS X (.AugAssign (.Name x pos') op e pos) (qjC i te ti):=by
 intro pins s σ H D I h
 obtain⟨v,e1,h⟩:=h
 obtain⟨m,hn,hl⟩:=I.loc
 have vis:eW X.env.scope x:=by rcases hx with k|k;exact .inl k;exact .inr (.inl k)
 obtain⟨u,r,l⟩:=hl i x v hi e1 vis
 refine wpAny_AugAssign_Name ?_
 have go:xI (vk X.prog X.w) X.A (eval e X.env) (λw s₂=>xI (vk X.prog X.w) X.A (inplaceOp op u w) (λr s₃=>xI (vk X.prog X.w) X.A (storeName X.env x r) (λ_=>SP X pins D .next) X.xe s₃) X.xe s₂) X.xe s:=by
  refine qX (he pins s σ H _ I h) λw s1⟨y,H1,I1,r1,q1⟩=>?_
  refine qX (ho pins s1 σ H1 v y u w _ I1 r r1 q1) λz s2⟨zv,H2,I2,r2,q2⟩=>?_
  exact eU I2 hN hi hx r2 (λs3 I3=>⟨_,H2,I3,q2⟩) hf
 rcases l with⟨hk,hm⟩|⟨hk,c,hc,mG⟩
 ·exact wpAny_loadName_local I.ok.kind hk hn hm go
 ·rcases hk with hk|hk
  ·exact wpAny_loadName_cell I.ok.kind hk hc mG go
  ·rcases hx with k|k
   ·have :X.env.scope.names.lookup x=some .free:=hk
    rw[k]at this;cases this
   ·have :X.env.scope.names.lookup x=some .free:=hk
    rw[k]at this;cases this
def NH(f:Int->Int->Int):fu:=λx y H Q=>∃i j,x= .int i/\y= .int j/\Q (.int (f i j)) H
theorem NP:JW X .Add (NH λi j=>i+j):=by
 intro pins s σ H x y v u Q I r1 r2 h
 obtain⟨i,j,e1,e2,q⟩:=h
 subst e1;subst e2
 obtain⟨t,rfl⟩:=r1
 obtain⟨t',rfl⟩:=r2
 exact iadd_int ⟨.int _,H,I.tok _,⟨_,rfl⟩,q⟩
theorem NR:JW X .Sub (NH λi j=>i-j):=by
 intro pins s σ H x y v u Q I r1 r2 h
 obtain⟨i,j,e1,e2,q⟩:=h
 subst e1;subst e2
 obtain⟨t,rfl⟩:=r1
 obtain⟨t',rfl⟩:=r2
 exact isub_int ⟨.int _,H,I.tok _,⟨_,rfl⟩,q⟩
def qjG(c:TT)(tb:TS):TS:=λD σ H=>∃W:Nat->St->Hp->Prop,(∃m,W m σ H)/\∀m σ H,W m σ H->
 c σ H λb H1=>if b=true then∃N:St->Hp->Prop,(∀σ' H',N σ' H'->∃m',m'<m/\W m' σ' H')/\tb {D with nx:=N,ct:=N,bk:=D.nx} σ H1 else D.nx σ H1
theorem lO{tc:TT}{tb:TS}(hp:PassesOwn (vk X.prog X.w) X.A X.env X.xe)(hc:PT X c tc)(hb:xm X body tb):PS X (.While c body [] pos) (qjG tc tb):=by
 intro pins s σ H D I h
 obtain⟨W,⟨m0,w0⟩,turn⟩:=h
 refine wpAny_While (codeAny_whileLoop (λn s'=>∃σ' H',Inv X pins σ' H' s'/\W n σ' H') ?_ m0 ⟨σ,H,I,w0⟩)
 rintro n s1 ⟨σ1,H1,I1,w1⟩
 refine tI hp (qX (hc pins s1 σ1 H1 _ I1 (turn n σ1 H1 w1)) λb s2⟨H2,I2,q2⟩=>?_)
 cases b with
 |true=>
  obtain⟨N,hN,q2⟩:=q2
  rw[vb rfl]
  refine tI hp (qX (hb pins s2 σ1 H2 _ I2 q2) λf s3 q3=>?_)
  cases f with
  |next=>
   obtain⟨σ3,H3,I3,n3⟩:=q3
   obtain⟨m',hm,w3⟩:=hN σ3 H3 n3
   exact⟨m',hm,σ3,H3,I3,w3⟩
  |cont=>
   obtain⟨σ3,H3,I3,n3⟩:=q3
   obtain⟨m',hm,w3⟩:=hN σ3 H3 n3
   exact⟨m',hm,σ3,H3,I3,w3⟩
  |brk=>exact q3
  |ret v=>exact q3
 |false=>
  rw[ke kf]
  exact Q1 ⟨σ1,H2,I2,q2⟩
structure It where
 go:Nat->Hp->Prop
 vZ:Nat->Hp->V->Hp->Prop
 stop:Nat->Hp->Prop
def xA(X:Cx)(pins:List (jp×Obj))(H:Hp)(b:jp):Prop:=
 H b=none/\b≠X.env.locals/\b∉X.fs/\(b∈X.ex\/X.s₀.heap.objs.size<=b)/\(∀x c,X.env.cells.lookup x=some c->c≠b)/\∀p∈X.pn++pins,p.1≠b
theorem Inv.yH{s:zr}{b:jp}(I:Inv X pins σ H s)(hb:(~~~s)<=b)(hn:H' b=none):xA X pins H' b:=by
 refine⟨hn,qqe (vx I.lt hb),I.qji hb,.inr (vy I.sz hb),λx c e z=>?_,λp hp z=>?_⟩
 ·obtain⟨v,q⟩:=I.cell x c e
  exact absurd (vx q.lt (by rw[z];exact hb)) (bj _)
 ·exact absurd (vx (zu (I.pin p hp).1) (by rw[z];exact hb)) (bj _)
structure Turn(P:cv)(w:fe)(K:Fg)(tg:hU)(J:It)(fp:List jp)(it:jp)(tn:Nat->ll->Prop):Prop where
 mem:it∈fp
 obj:∀i h,tn i h->∀b∈fp,∃o,h.get? b=some o/\∀v,o.data≠ .cell v
 keep:∀i h h',tn i h->(∀b∈fp,∀o,h.get? b=some o->h'.get? b=some o)->tn i h'
 item:∀(X:Cx),X.prog=P->X.w=w->X.K=K->X.calm=true->∀(i:Nat)(pins:List (jp×Obj))(s:zr)(σ:St)(H:Hp)(E:zt->zr->Prop),Inv X pins σ H s->(∀b∈fp,xA X pins H b)->tn i s.heap->J.go i H->
  xI (vk P w) X.A (pyNext (.ref it)) (λr s1=>∃u,r=some u/\
   xI (vk P w) X.A (Mo tg (.ref it) u) (λ_ s2=>∃x H',Inv X pins σ H' s2/\RelV x u/\J.vZ i H x H'/\tn (i+1) s2.heap/\∀b∈fp,H' b=none) E s1) E s
 done:∀(X:Cx),X.prog=P->X.w=w->X.K=K->X.calm=true->∀(i:Nat)(pins:List (jp×Obj))(s:zr)(σ:St)(H:Hp)(E:zt->zr->Prop),Inv X pins σ H s->(∀b∈fp,xA X pins H b)->tn i s.heap->J.stop i H->
  xI (vk P w) X.A (pyNext (.ref it)) (λr s1=>r=none/\Inv X pins σ H s1) E s
 self:∀(A:si)(i:Nat)(s:zr)(Q:zt->zr->Prop)(E:zt->zr->Prop),tn i s.heap->Q (.ref it) s->xI (vk P w) A (pyIter (.ref it)) Q E s
abbrev TI:=St->Hp->(It->Hp->Prop)->Prop
inductive JO(X:Cx)(pins:List (jp×Obj))(σ:St)(tg:hU)(R:It->Hp->Prop)(eT:zt)(s2:zr):Prop
 |mk (it:jp) (fp:List jp) (tn:Nat->ll->Prop) (J:It) (H':Hp) (qQ:eT= .ref it) (qZ:Inv X pins σ H' s2) (qV:Turn X.prog X.w X.K tg J fp it tn) (qG:tn 0 s2.heap) (zm:∀b∈fp,xA X pins H' b) (je:R J H')
def PI(X:Cx)(tg iter:hU)(wi:TI):Prop:=
 ∀(pins:List (jp×Obj))(s:zr)(σ:St)(H:Hp)(R:It->Hp->Prop),Inv X pins σ H s->wi σ H R->
  xI (vk X.prog X.w) X.A (eval iter X.env) (λv s1=>xI (vk X.prog X.w) X.A (pyIter v) (JO X pins σ tg R) X.xe s1) X.xe s
theorem JI{E:zt->zr->Prop}{s:zr}{it:jp}{o:Obj}{n:String}{vs:Array zt}{Q:Unit->zr->Prop}(ho:s.heap.get? it=some o)(hc:o.cls= .type n)(hd:o.data= .fields vs)(hn:["enumerate","zip","dict_itemiterator","dict_reverseitemiterator","odict_iterator","itertools.zip_longest","itertools.pairwise"].contains n=false)(hQ:Q () s):xI M A (Mo tg (.ref it) u) Q E s:=by
 unfold Mo
 cases tg<;>first
  |exact xk hQ
  |(cases u<;>first
    |exact xk hQ
    |(refine qr (wpAny_load ho ?_)
      rw[hc,hd]
      show xI M A (if(["enumerate","zip","dict_itemiterator","dict_reverseitemiterator","odict_iterator","itertools.zip_longest","itertools.pairwise"].contains n&&vs[0]? ==some (ro _))=true then _ else _) Q E s
      rw[ke (by intro h;rw[hn,Bool.false_and]at h;cases h)]
      exact xk hQ))
def iT(K:Fg)(a:jp):It:=
 ⟨λi H=>∃xs x,qp K H a xs/\xs[i]? =some x,λi H x H'=>H'=H/\∀xs,qp K H a xs->xs[i]? =some x,λi H=>∃xs,qp K H a xs/\xs.length<=i⟩
def wm(K:Fg)(a:jp):It:=
 ⟨λi H=>∃xs x,qb K H a xs/\xs[i]? =some x,λi H x H'=>H'=H/\∀xs,qb K H a xs->xs[i]? =some x,λi H=>∃xs,qb K H a xs/\xs.length<=i⟩
def m9(lo:Int)(n:Nat):It:=⟨λi _=>i<n,λi H x H'=>H'=H/\x= .int (lo+i),λi _=>n<=i⟩
theorem qjM(a it:jp):Turn P w K tg (iT K a) [it] it (λi h=>h.IsListIter it a i)where
 mem:=by simp
 obj:=λi h st b hb=>by
  have e:b=it:=by simpa using hb
  subst e
  obtain⟨o,e,c,d⟩:=st
  exact⟨o,e,λv z=>by rw[d]at z;cases z⟩
 keep:=λi h h' st k=>st.at λo e=>k it (by simp) o e
 item:=by
  intro X hP hw hK hc i pins s σ H E I hf st hg
  subst hP hw hK
  obtain⟨xs,x,hq,hx⟩:=hg
  obtain⟨qy,rv,p,hz⟩:=I.list hq
  obtain⟨u,hu,ru⟩:=rv.get hx
  obtain⟨f0,f1,f2,f3,f4,f5⟩:=hf it (by simp)
  refine wpAny_pyNext_list_item st p.isList (x:=u) (by simpa using hu) λh' vL sb=>?_
  have I1:Inv X pins σ H {s with heap:=h'}:=I.turned (t':=s.toks) (λb o hb e=>(sb.2 b hb).trans e) f0 f1 f3 f4 f5
  obtain⟨o,e,c,d⟩:=id vL
  exact⟨u,rfl,JI (s:={s with heap:=h'}) e c d (by decide) ⟨x,H,I1,ru,⟨rfl,λys hy=>by rw[I.JK hy hq];exact hx⟩,vL,λb hb=>(hf b hb).1⟩⟩
 done:=by
  intro X hP hw hK hc i pins s σ H E I hf st hg
  subst hP hw hK
  obtain⟨xs,hq,hx⟩:=hg
  obtain⟨qy,rv,p,hz⟩:=I.list hq
  obtain⟨f0,f1,f2,f3,f4,f5⟩:=hf it (by simp)
  have hl:=rv.length
  exact wpAny_pyNext_list_end (I.ok.hd hc) st p.isList (by simp;lia) λh' eb=>⟨rfl,I.turned (t':=s.toks) (λb o hb e=>eb b o hb e) f0 f1 f3 f4 f5⟩
 self:=λ_ _ _ _ _ st h=>wpAny_pyIter_listiter st h
theorem qjN(a it:jp):Turn P w K tg (wm K a) [it] it (λi h=>h.IsTupleIter it a i)where
 mem:=by simp
 obj:=λi h st b hb=>by
  have e:b=it:=by simpa using hb
  subst e
  obtain⟨o,e,c,d⟩:=st
  exact⟨o,e,λv z=>by rw[d]at z;cases z⟩
 keep:=λi h h' st k=>st.at λo e=>k it (by simp) o e
 item:=by
  intro X hP hw hK hc i pins s σ H E I hf st hg
  subst hP hw hK
  obtain⟨xs,x,hq,hx⟩:=hg
  obtain⟨qy,rv,p,hz⟩:=I.tuple hq
  obtain⟨u,hu,ru⟩:=rv.get hx
  obtain⟨f0,f1,f2,f3,f4,f5⟩:=hf it (by simp)
  refine wpAny_pyNext_tuple_item st (show s.heap.IsTuple a qy.toArray from p) (x:=u) (by simpa using hu) λh' vL sb=>?_
  have I1:Inv X pins σ H {s with heap:=h'}:=I.turned (t':=s.toks) (λb o hb e=>(sb.2 b hb).trans e) f0 f1 f3 f4 f5
  obtain⟨o,e,c,d⟩:=id vL
  exact⟨u,rfl,JI (s:={s with heap:=h'}) e c d (by decide) ⟨x,H,I1,ru,⟨rfl,λys hy=>by rw[I.NB hy hq];exact hx⟩,vL,λb hb=>(hf b hb).1⟩⟩
 done:=by
  intro X hP hw hK hc i pins s σ H E I hf st hg
  subst hP hw hK
  obtain⟨xs,hq,hx⟩:=hg
  obtain⟨qy,rv,p,hz⟩:=I.tuple hq
  obtain⟨f0,f1,f2,f3,f4,f5⟩:=hf it (by simp)
  have hl:=rv.length
  exact wpAny_pyNext_tuple_end (I.ok.hd hc) st (show s.heap.IsTuple a qy.toArray from p) (by simp;lia) λh' eb=>⟨rfl,I.turned (t':=s.toks) (λb o hb e=>eb b o hb e) f0 f1 f3 f4 f5⟩
 self:=λ_ _ _ _ _ st h=>wpAny_pyIter_tupleiter st h
theorem qjB(it:jp)(lo:Int)(n:Nat):Turn P w K tg (m9 lo n) [it] it (λi h=>IsRangeIter h it (lo+(i:Nat)*1) ((n:Int)-(i:Nat)) 1)where
 mem:=by simp
 obj:=λi h st b hb=>by
  have e:b=it:=by simpa using hb
  subst e
  exact⟨_,st,λv z=>by
   have z':Data.fields _=Data.cell v:=z
   cases z'⟩
 keep:=λi h h' st k=>k it (by simp) _ st
 item:=by
  intro X hP hw hK hc i pins s σ H E I hf st hg
  subst hP hw hK
  obtain⟨f0,f1,f2,f3,f4,f5⟩:=hf it (by simp)
  have W:=Walks.range (prog:=X.prog) (w:=X.w) (I.ok.hd hc) it lo 1 n
  refine W.item i s _ _ hg st λv h' tk hv vL kk=>?_
  obtain⟨t,rfl⟩:=hv
  have I1:Inv X pins σ H {s with heap:=h',toks:=tk}:=I.turned (λb o hb e=>kk b o (by simpa using hb) e) f0 f1 f3 f4 f5
  refine⟨_,rfl,JI (s:={s with heap:=h',toks:=tk}) (n:="range_iterator") vL rfl rfl (by decide) ⟨.int (lo+i),H,I1,⟨t,?_⟩,⟨rfl,rfl⟩,vL,λb hb=>(hf b hb).1⟩⟩
  rw[Int.mul_one]
 done:=by
  intro X hP hw hK hc i pins s σ H E I hf st hg
  subst hP hw hK
  obtain⟨f0,f1,f2,f3,f4,f5⟩:=hf it (by simp)
  exact wpAny_pyNext_range_end (I.ok.hd hc) st (by have :n<=i:=hg;lia) λh' eb=>⟨rfl,I.turned (t':=s.toks) (λb o hb e=>eb b o hb e) f0 f1 f3 f4 f5⟩
 self:=λ_ _ _ _ _ st h=>wpAny_pyIter_rangeiter st h
def qjD(K:Fg)(tl:TE):TI:=λσ H R=>tl σ H λx H1=>∃a,x= .ref a/\(∃xs,qp K H1 a xs)/\R (iT K a) H1
def qjF(K:Fg)(tl:TE):TI:=λσ H R=>tl σ H λx H1=>∃a,x= .ref a/\(∃xs,qb K H1 a xs)/\R (wm K a) H1
theorem eE{l:hU}{tl:TE}(hl:PE X l tl):PI X tg l (qjD X.K tl):=by
 intro pins s σ H R I h
 refine qX (hl pins s σ H _ I h) λv s1⟨x,H1,I1,r1,q1⟩=>?_
 obtain⟨a,e,⟨xs,hq⟩,q⟩:=q1
 subst e
 cases r1
 obtain⟨qy,rv,p,hz⟩:=I1.list hq
 refine Ki p.isList ?_
 refine⟨(~~~s1),[(~~~s1)],_,_,H1,rfl,I1.kept (t':=s1.toks) λb o e=>qF _ e,qjM a _,⟨_,jg _ rfl,rfl,rfl⟩,λb hb=>?_,q⟩
 have e:b=(~~~s1):=by simpa using hb
 subst e
 exact I1.yH (qL _) (I1.qt.fresh (qL _))
theorem JC{l:hU}{tl:TE}(hl:PE X l tl):PI X tg l (qjF X.K tl):=by
 intro pins s σ H R I h
 refine qX (hl pins s σ H _ I h) λv s1⟨x,H1,I1,r1,q1⟩=>?_
 obtain⟨a,e,⟨xs,hq⟩,q⟩:=q1
 subst e
 cases r1
 obtain⟨qy,rv,p,hz⟩:=I1.tuple hq
 refine qqY (show s1.heap.IsTuple a qy.toArray from p) ?_
 refine⟨(~~~s1),[(~~~s1)],_,_,H1,rfl,I1.kept (t':=s1.toks) λb o e=>qF _ e,qjN a _,⟨_,jg _ rfl,rfl,rfl⟩,λb hb=>?_,q⟩
 have e:b=(~~~s1):=by simpa using hb
 subst e
 exact I1.yH (qL _) (I1.qt.fresh (qL _))
theorem qjH{s:zr}{R:It->Hp->Prop}{E:zt->zr->Prop}{lo hi:Int}{t u v:Tok}{tk:Nat}(I:Inv X pins σ H s)(h1: -(2^62)<=lo)(h2:lo<2^62)(h3: -(2^62)<=hi)(h4:hi<2^62)(q:R (m9 lo (hi-lo).toNat) H):xI (vk X.prog X.w) X.A (pyIter (.ref (~~~s))) (JO X pins σ tg R) E {s with heap:=s.heap.push {cls:=.type "range",data:=.fields #[.int lo t,.int hi u,.int 1 v]},toks:=tk}:=by
 refine wpAny_pyIter_range (IsRange.new ..) (small_one h1 h2 h3 h4) ?_
 have I1:Inv X pins σ H {s with heap:=s.heap.push {cls:=.type "range",data:=.fields #[.int lo t,.int hi u,.int 1 v]},toks:=tk}:=I.kept λb o e=>qF _ e
 refine⟨(s.heap.push {cls:=.type "range",data:=.fields #[.int lo t,.int hi u,.int 1 v]}).objs.size,[(s.heap.push {cls:=.type "range",data:=.fields #[.int lo t,.int hi u,.int 1 v]}).objs.size],_,_,H,rfl,
  I1.kept (t':=tk) λb o e=>qF _ e,qjB _ lo (hi-lo).toNat,?_,λb hb=>?_,q⟩
 ·have e1:lo+((0:Nat):Int)*1=lo:=by simp
  have e2:(((hi-lo).toNat:Nat):Int)-((0:Nat):Int)=Builtin.Range.rangeSize lo hi 1:=by rw[rangeSize_one];split<;>lia
  show IsRangeIter _ _ (lo+((0:Nat):Int)*1) ((((hi-lo).toNat:Nat):Int)-((0:Nat):Int)) 1
  rw[e1,e2]
  exact jg _ rfl
 ·have e:b=(s.heap.push {cls:=.type "range",data:=.fields #[.int lo t,.int hi u,.int 1 v]}).objs.size:=by simpa using hb
  subst e
  exact I1.yH (qL _) (I1.qt.fresh (qL _))
def qjP(ta:TA):TI:=λσ H R=>ta σ H λvs H1=>∃j:Int,vs=[.int j]/\ -(2^62)<=j/\j<2^62/\R (m9 0 j.toNat) H1
theorem qjR{a:hU}{ta:TA}{p:Pos}(hg:Gl X "range")(hm:X.mg "range"=none)(ha:PA X [a] ta)(hs:ky [a] X.env=[(false,eval a X.env)]:=by rfl):PI X tg (.Call (.Name "range" p) [a] [] pos) (qjP ta):=by
 intro pins s σ H R I h
 refine Call_ (oF I hg hm boot_range (cx (qX (ha pos pins s σ H _ I h) λus s1⟨vs,H1,I1,r1,q1⟩=>?_) hs rfl))
 obtain⟨j,e,q1,q2,q⟩:=q1
 subst e
 cases r1 with
 |cons r rr=>
  cases rr
  obtain⟨t,rfl⟩:=r
  exact call_range_1 (qjH I1 (by lia) (by lia) q1 q2 (by simpa using q))
def qjS(wi:TI)(g:TG)(tb:TS):TS:=λD σ H=>wi σ H λJ H1=>∃W:Nat->Nat->St->Hp->Prop,(∃m,W 0 m σ H1)/\∀i m σ H,W i m σ H->
 (J.stop i H/\D.nx σ H)\/(J.go i H/\∃N:St->Hp->Prop,(∀σ' H',N σ' H'->∃m',m'<m/\W (i+1) m' σ' H')/\∀x H',J.vZ i H x H'->g x σ H' λσ2 H2=>tb {D with nx:=N,ct:=N,bk:=D.nx} σ2 H2)
def fQ(fp:List jp)(h:ll):List (jp×Obj):=fp.filterMap λb=>(h.get? b).map λo=>(b,o)
theorem nq{b:jp}{o:Obj}(hb:b∈fp)(e:h.get? b=some o):(b,o)∈fQ fp h:=List.mem_filterMap.mpr ⟨b,hb,by rw[e];rfl⟩
theorem qjT{p:jp×Obj}(hp:p∈fQ fp h):p.1∈fp/\h.get? p.1=some p.2:=by
 obtain⟨b,hb,e⟩:=List.mem_filterMap.mp hp
 cases q:h.get? b with
 |none=>rw[q]at e;cases e
 |some o=>
  rw[q]at e
  have e':(b,o)=p:=xb e
  subst e'
  exact⟨hb,q⟩
theorem Inv.pinned{s:zr}(I:Inv X pins σ H s)(hf:∀b∈fp,xA X pins H b)(ho:∀b∈fp,∃o,s.heap.get? b=some o/\∀v,o.data≠ .cell v):Inv X (pins++fQ fp s.heap) σ H s:=
 I.NW λp hp=>(ip.mp hp).elim (λz=>I.pin p (kL _ z)) λz=>by
  obtain⟨hb,e⟩:=qjT z
  obtain⟨f0,f1,f2,_⟩:=hf p.1 hb
  obtain⟨o,e',d⟩:=ho p.1 hb
  rw[e]at e';cases e'
  exact⟨e,f0,f1,f2,d⟩
theorem Inv.fZ{pl:List (jp×Obj)}{s:zr}(I:Inv X (pins++pl) σ H s):Inv X pins σ H s:=I.NW λp hp=>I.pin p (kL _ (tj _ hp))
theorem nj{iter:hU}{wi:TI}{g:TG}{tb:TS}(hp:PassesOwn (vk X.prog X.w) X.A X.env X.xe)(hc:X.calm=true)(hi:PI X tg iter wi)(hg:PG X tg g)(hb:xm X body tb)(hs:∀x,mn iter X.env x=pure x:=by intro _;rfl):PS X (.For tg iter body [] pos) (qjS wi g tb):=by
 intro pins s σ H D I h
 refine wpAny_For (qX (hi pins s σ H _ I h) λv s1 h1=>qX h1 λeT s2 h2=>?_) hs
 obtain⟨it,fp,tn,J,H2,e,I2,T,yP,f2,W,⟨m0,w0⟩,turn⟩:=h2
 subst e
 have lI:∀{H':Hp},(∀b∈fp,H' b=none)->∀b∈fp,xA X pins H' b:=λhn b hb=>⟨hn b hb,(f2 b hb).2⟩
 refine codeAny_forLoop_any (λn s'=>∃i σ' H',Inv X pins σ' H' s'/\tn i s'.heap/\(∀b∈fp,H' b=none)/\W i n σ' H') ?_ m0 ⟨0,σ,H2,I2,yP,λb hb=>(f2 b hb).1,w0⟩
 rintro n s3 ⟨i,σ3,H3,I3,st3,fr3,w3⟩
 rcases turn i n σ3 H3 w3 with⟨stop,qn⟩|⟨go,N,hN,step⟩
 ·refine tI hp (qX (T.done X rfl rfl rfl hc i pins s3 σ3 H3 X.xe I3 (lI fr3) st3 stop) λr s4⟨hr,I4⟩=>?_)
  subst hr
  exact Q1 ⟨σ3,H3,I4,qn⟩
 ·refine tI hp (qX (T.item X rfl rfl rfl hc i pins s3 σ3 H3 X.xe I3 (lI fr3) st3 go) λr s4⟨u,hr,h4⟩=>?_)
  subst hr
  refine tI hp (qX h4 λ_ s5⟨x,H5,I5,r5,y5,st5,JL⟩=>?_)
  have I5':=I5.pinned (lI JL) (T.obj _ _ st5)
  refine tI hp (qX (hg _ s5 σ3 H5 x u _ I5' r5 (step x H5 y5)) λ_ s6⟨σ6,H6,I6,q6⟩=>?_)
  refine tI hp (qX (hb _ s6 σ6 H6 _ I6 q6) λf s7 q7=>?_)
  have again:∀{σ7:St}{H7:Hp},Inv X (pins++fQ fp s5.heap) σ7 H7 s7->N σ7 H7->∃m,m<n/\∃i σ' H',Inv X pins σ' H' s7/\tn i s7.heap/\(∀b∈fp,H' b=none)/\W i m σ' H':=fun {σ7 H7}I7 n7=>by
   obtain⟨m',hm,w7⟩:=hN σ7 H7 n7
   refine⟨m',hm,i+1,σ7,H7,I7.fZ,T.keep _ _ _ st5 λb hb o e=>(I7.pin (b,o) (kL _ (kL _ (nq hb e)))).1,λb hb=>?_,w7⟩
   obtain⟨o,e,d⟩:=T.obj _ _ st5 b hb
   exact(I7.pin (b,o) (kL _ (kL _ (nq hb e)))).2.1
  cases f with
  |next=>obtain⟨σ7,H7,I7,n7⟩:=q7;exact again I7 n7
  |cont=>obtain⟨σ7,H7,I7,n7⟩:=q7;exact again I7 n7
  |brk=>obtain⟨σ7,H7,I7,q7⟩:=q7;exact⟨σ7,H7,I7.fZ,q7⟩
  |ret v=>obtain⟨x7,σ7,H7,I7,r7,q7⟩:=q7;exact⟨x7,σ7,H7,I7.fZ,r7,q7⟩
theorem qjE{g:TG}{tb:TS}(Pv:Nat->St->Hp->Prop)(h0:Pv 0 σ H)(hl:∀i σ H,i<=xs.length->Pv i σ H->qp K H a xs)(hs:∀i x σ H,xs[i]? =some x->Pv i σ H->g x σ H λσ2 H2=>tb {D with nx:=Pv (i+1),ct:=Pv (i+1),bk:=D.nx} σ2 H2)(hd:∀σ H,Pv xs.length σ H->D.nx σ H):
  ∃W:Nat->Nat->St->Hp->Prop,(∃m,W 0 m σ H)/\∀i m σ H,W i m σ H->
   ((iT K a).stop i H/\D.nx σ H)\/((iT K a).go i H/\∃N:St->Hp->Prop,(∀σ' H',N σ' H'->∃m',m'<m/\W (i+1) m' σ' H')/\∀x H',(iT K a).vZ i H x H'->g x σ H' λσ2 H2=>tb {D with nx:=N,ct:=N,bk:=D.nx} σ2 H2):=by
 refine⟨λi m σ H=>m=xs.length-i/\i<=xs.length/\Pv i σ H,⟨xs.length,by simp,io _,h0⟩,?_⟩
 rintro i m σ H ⟨rfl,hi,p⟩
 have q:=hl i σ H hi p
 by_cases jM:i<xs.length
 ·refine .inr ⟨⟨xs,xs[i],q,by simp[jM]⟩,Pv (i+1),λσ' H' p'=>⟨xs.length-(i+1),by lia,rfl,jM,p'⟩,λx H' y=>?_⟩
  obtain⟨e,y⟩:=y
  subst e
  exact hs i x σ _ (y xs q) p
 ·have e:i=xs.length:=by lia
  subst e
  exact .inl ⟨⟨xs,q,qL _⟩,hd σ H p⟩
theorem qj0{g:TG}{tb:TS}(Pv:Nat->St->Hp->Prop)(h0:Pv 0 σ H)(hl:∀i σ H,i<=xs.length->Pv i σ H->qb K H a xs)(hs:∀i x σ H,xs[i]? =some x->Pv i σ H->g x σ H λσ2 H2=>tb {D with nx:=Pv (i+1),ct:=Pv (i+1),bk:=D.nx} σ2 H2)(hd:∀σ H,Pv xs.length σ H->D.nx σ H):
  ∃W:Nat->Nat->St->Hp->Prop,(∃m,W 0 m σ H)/\∀i m σ H,W i m σ H->
   ((wm K a).stop i H/\D.nx σ H)\/((wm K a).go i H/\∃N:St->Hp->Prop,(∀σ' H',N σ' H'->∃m',m'<m/\W (i+1) m' σ' H')/\∀x H',(wm K a).vZ i H x H'->g x σ H' λσ2 H2=>tb {D with nx:=N,ct:=N,bk:=D.nx} σ2 H2):=by
 refine⟨λi m σ H=>m=xs.length-i/\i<=xs.length/\Pv i σ H,⟨xs.length,by simp,io _,h0⟩,?_⟩
 rintro i m σ H ⟨rfl,hi,p⟩
 have q:=hl i σ H hi p
 by_cases jM:i<xs.length
 ·refine .inr ⟨⟨xs,xs[i],q,by simp[jM]⟩,Pv (i+1),λσ' H' p'=>⟨xs.length-(i+1),by lia,rfl,jM,p'⟩,λx H' y=>?_⟩
  obtain⟨e,y⟩:=y
  subst e
  exact hs i x σ _ (y xs q) p
 ·have e:i=xs.length:=by lia
  subst e
  exact .inl ⟨⟨xs,q,qL _⟩,hd σ H p⟩
theorem qj1{lo:Int}{g:TG}{tb:TS}(Pv:Nat->St->Hp->Prop)(h0:Pv 0 σ H)(hs:∀i σ H,i<n->Pv i σ H->g (.int (lo+i)) σ H λσ2 H2=>tb {D with nx:=Pv (i+1),ct:=Pv (i+1),bk:=D.nx} σ2 H2)(hd:∀σ H,Pv n σ H->D.nx σ H):
  ∃W:Nat->Nat->St->Hp->Prop,(∃m,W 0 m σ H)/\∀i m σ H,W i m σ H->
   ((m9 lo n).stop i H/\D.nx σ H)\/((m9 lo n).go i H/\∃N:St->Hp->Prop,(∀σ' H',N σ' H'->∃m',m'<m/\W (i+1) m' σ' H')/\∀x H',(m9 lo n).vZ i H x H'->g x σ H' λσ2 H2=>tb {D with nx:=N,ct:=N,bk:=D.nx} σ2 H2):=by
 refine⟨λi m σ H=>m=n-i/\i<=n/\Pv i σ H,⟨n,by simp,io _,h0⟩,?_⟩
 rintro i m σ H ⟨rfl,hi,p⟩
 by_cases jM:i<n
 ·refine .inr ⟨jM,Pv (i+1),λσ' H' p'=>⟨n-(i+1),by lia,rfl,jM,p'⟩,λx H' y=>?_⟩
  obtain⟨e,y⟩:=y
  subst e y
  exact hs i σ _ jM p
 ·have e:i=n:=by lia
  subst e
  exact .inl ⟨qL _,hd σ H p⟩
abbrev R2:=V->V->Hp->VK->Prop
def jf(X:Cx)(f:zt->zt->Sem zt)(r:R2):Prop:=
 ∀(pins:List (jp×Obj))(s:zr)(σ:St)(H:Hp)(x y:V)(v u:zt)(Q:VK),Inv X pins σ H s->RelV x v->RelV y u->r x y H Q->
  xI (vk X.prog X.w) X.A (f v u) (EP X pins σ Q) X.xe s
def JG(X:Cx)(f:zt->Sem zt)(r:V->Hp->VK->Prop):Prop:=
 ∀(pins:List (jp×Obj))(s:zr)(σ:St)(H:Hp)(x:V)(v:zt)(Q:VK),Inv X pins σ H s->RelV x v->r x H Q->
  xI (vk X.prog X.w) X.A (f v) (EP X pins σ Q) X.xe s
def vG(X:Cx)(f:zt)(r:List V->Hp->VK->Prop):Prop:=
 ∀(pins:List (jp×Obj))(s:zr)(σ:St)(H:Hp)(xs:List V)(us:List zt)(Q:VK),Inv X pins σ H s->Vals xs us->r xs H Q->
  xI (vk X.prog X.w) X.A (call f us) (EP X pins σ Q) X.xe s
def qj2(X:Cx)(r:V->Hp->(Bool->Hp->Prop)->Prop):Prop:=
 ∀(pins:List (jp×Obj))(s:zr)(σ:St)(H:Hp)(x:V)(v:zt)(Q:Bool->Hp->Prop),Inv X pins σ H s->RelV x v->r x H Q->
  xI (vk X.prog X.w) X.A (truthy v) (TP X pins σ Q) X.xe s
def vM(r:R2)(ta tb:TE):TE:=λσ H Q=>ta σ H λx H1=>tb σ H1 λy H2=>r x y H2 Q
def tUn(r:V->Hp->VK->Prop)(ta:TE):TE:=λσ H Q=>ta σ H λx H1=>r x H1 Q
inductive rI_(C:Int->Int->Prop)(g:Int->Int->V)(x:V)(y:V)(H:Hp)(Q:VK):Prop
 |mk (i:_) (j:_) (qQ:x= .int i) (qZ:y= .int j) (qV:C i j) (qG:Q (g i j) H)
def rI(C:Int->Int->Prop)(g:Int->Int->V):R2:=λx y H Q=>rI_ C g x y H Q
inductive qj5(g:Int->Int->V)(x:V)(y:V)(H:Hp)(Q:VK):Prop
 |mk (i:_) (j:_) (qQ:x= .int i) (qZ:y= .int j) (qV:Q (g i j) H)
def uH(g:Int->Int->V):R2:=λx y H Q=>qj5 g x y H Q
inductive rU_(g:Int->V)(x:V)(H:Hp)(Q:VK):Prop
 |mk (i:_) (qQ:x= .int i) (qZ:Q (g i) H)
def rU(g:Int->V):V->Hp->VK->Prop:=λx H Q=>rU_ g x H Q
section
variable {a b:hU} {tc:TE}
theorem JM(ha:PE X a ta)(hb:PE X b tb){s:zr}{R:V->V->Hp->Prop}(I:Inv X pins σ H s)(h:ta σ H λx H1=>tb σ H1 λy H2=>R x y H2){Q:zt->zr->Prop}{f:zt->zt->Sem zt}(hf:∀v u s2 x y H2,Inv X pins σ H2 s2->RelV x v->RelV y u->R x y H2->xI (vk X.prog X.w) X.A (f v u) Q X.xe s2):
  xI (vk X.prog X.w) X.A (eval a X.env) (λv s₁=>xI (vk X.prog X.w) X.A (eval b X.env) (λu s₂=>xI (vk X.prog X.w) X.A (f v u) Q X.xe s₂) X.xe s₁) X.xe s:=by
 refine qX (ha pins s σ H _ I h) λv s1⟨x,H1,I1,r1,q1⟩=>?_
 refine qX (hb pins s1 σ H1 _ I1 q1) λu s2⟨y,H2,I2,r2,q2⟩=>?_
 exact hf v u s2 x y H2 I2 r1 r2 q2
theorem zV{op:Operator}{r:R2}(ho:jf X (HI op) r)(ha:PE X a ta)(hb:PE X b tb):PE X (.BinOp a op b pos) (vM r ta tb):=by
 exfalso
 exact wpAny_BinOp (JM ha hb I h λv u s2 x y H2 I2 rx ry q=>ho pins s2 σ H2 x y v u Q I2 rx ry q)
theorem e9{op:UnaryOp}{r:V->Hp->VK->Prop}(ho:JG X (unaryOp op) r)(ha:PE X a ta):PE X (.UnaryOp op a pos) (tUn r ta):=by
 exfalso
 exact UnaryOp_ (qX (ha pins s σ H _ I h) λv s1⟨x,H1,I1,r1,q1⟩=>ho pins s1 σ H1 x v Q I1 r1 q1)
theorem Qq{f:zt->zt->Sem zt}{C:Int->Int->Prop}{g:Int->Int->Int}
  (rule:∀(i j:Int)(t u:Tok)(s:zr)(Q:zt->zr->Prop)(E:zt->zr->Prop),C i j->Q (.int (g i j) s.toks) {s with toks:=s.toks+1}->xI (vk X.prog X.w) X.A (f (.int i t) (.int j u)) Q E s):
  jf X f (rI C λi j=>.int (g i j)):=by
 intro pins s σ H x y v u Q I rx ry h
 obtain⟨i,j,rfl,rfl,hc,q⟩:=h
 obtain⟨t,rfl⟩:=rx
 obtain⟨t',rfl⟩:=ry
 exact rule i j t t' s _ _ hc ⟨.int (g i j),H,I.tok _,⟨_,rfl⟩,q⟩
theorem NS{f:zt->zt->Sem zt}{g:Int->Int->Int}
  (rule:∀(i j:Int)(t u:Tok)(s:zr)(Q:zt->zr->Prop)(E:zt->zr->Prop),Q (.int (g i j) s.toks) {s with toks:=s.toks+1}->xI (vk X.prog X.w) X.A (f (.int i t) (.int j u)) Q E s):
  jf X f (uH λi j=>.int (g i j)):=by
 intro pins s σ H x y v u Q I rx ry h
 obtain⟨i,j,rfl,rfl,q⟩:=h
 obtain⟨t,rfl⟩:=rx
 obtain⟨t',rfl⟩:=ry
 exact rule i j t t' s _ _ ⟨.int (g i j),H,I.tok _,⟨_,rfl⟩,q⟩
theorem Qz{f:zt->zt->Sem zt}{g:Int->Int->Bool}
  (rule:∀(i j:Int)(t u:Tok)(s:zr)(Q:zt->zr->Prop)(E:zt->zr->Prop),Q (.bool (g i j)) s->xI (vk X.prog X.w) X.A (f (.int i t) (.int j u)) Q E s):
  jf X f (uH λi j=>.bl (g i j)):=by
 intro pins s σ H x y v u Q I rx ry h
 obtain⟨i,j,rfl,rfl,q⟩:=h
 obtain⟨t,rfl⟩:=rx
 obtain⟨t',rfl⟩:=ry
 exact rule i j t t' s _ _ ⟨.bl (g i j),H,I,rfl,q⟩
def qj7(i j:Int):Prop:=0<j/\j<1073741824
def JN(i j:Int):Prop:=(-(2^64)<i/\i<2^64)\/(-(2^64)<j/\j<2^64)
theorem JN.ok{i j:Int}(h:JN i j):IntMulOk i j:=by
 rcases h with⟨h1,h2⟩|⟨h1,h2⟩
 ·exact .of_left (intBits_le_64 h1 h2)
 ·exact .of_right (intBits_le_64 h1 h2)
theorem oR:jf X (HI .Add) (uH λi j=>.int (i+j)):=NS λ_ _ _ _ _ _ _ q=>add_int q
theorem JB:jf X (HI .Sub) (uH λi j=>.int (i-j)):=NS λ_ _ _ _ _ _ _ q=>sub_int q
theorem Qj:jf X (HI .Mult) (rI JN λi j=>.int (i*j)):=Qq λ_ _ _ _ _ _ _ hc q=>mul_int q hc.ok
theorem qj8:jf X (HI .FloorDiv) (rI qj7 λi j=>.int (i/j)):=Qq λi j _ _ _ _ _ hc q=>by
 have h1:(0:Int)<j:=hc.1
 have h2:j<1073741824:=hc.2
 exact floordiv_int (by lia) (by rw[Int.fdiv_eq_ediv_of_nonneg i (by lia)];exact q) (.inl (PyProof.noPylong_small (by lia)))
theorem fJ:jf X (HI .Mod) (rI (λ_ j=>0<j) λi j=>.int (i%j)):=Qq λi j _ _ _ _ _ hc q=>by
 have h1:(0:Int)<j:=hc
 exact mod_int' (by lia) (by rw[Int.fmod_eq_emod_of_nonneg i (by lia)];exact q)
theorem unI{f:zt->Sem zt}{g:Int->Int}
  (rule:∀(i:Int)(t:Tok)(s:zr)(Q:zt->zr->Prop)(E:zt->zr->Prop),Q (.int (g i) s.toks) {s with toks:=s.toks+1}->xI (vk X.prog X.w) X.A (f (.int i t)) Q E s):
  JG X f (rU λi=>.int (g i)):=by
 intro pins s σ H x v Q I rx h
 obtain⟨i,rfl,q⟩:=h
 obtain⟨t,rfl⟩:=rx
 exact rule i t s _ _ ⟨.int (g i),H,I.tok _,⟨_,rfl⟩,q⟩
theorem Qx:JG X (unaryOp .USub) (rU λi=>.int (-i)):=unI λ_ _ _ _ _ q=>neg_int q
end
def NT:V->V->Bool
 | .qd,.qd=>true| .qd,.int _=>true| .int _,.qd=>true| .qd,.bl _=>true| .bl _,.qd=>true| .qd,.str _=>true| .str _,.qd=>true
 | .int _,.int _=>true| .bl _,.bl _=>true| .str _,.str _=>true| .vU _,.vU _=>true
 | .int _,.str _=>true| .str _,.int _=>true| .bl _,.str _=>true| .str _,.bl _=>true
 |_,_=>false
def NE:R2:=λx y H Q=>NT x y=true/\Q (.bl (decide (x=y))) H
def N3:R2:=λx y H Q=>NT x y=true/\Q (.bl (!decide (x=y))) H
theorem N4{i j:Int}:decide (V.int i=V.int j)=(i==j):=by
 rw[mi]
 simp
theorem N5{i j:Bool}:decide (V.bl i=V.bl j)=(i==j):=by
 rw[mi]
 simp
theorem N6{i j:Str}:decide (V.str i=V.str j)=(i==j):=by
 rw[mi]
 simp
theorem N7{i j:Array UInt8}:decide (V.vU i=V.vU j)=(i.toList==j.toList):=by
 rw[mi]
 cases i
 cases j
 simp
section
variable {a b:hU} {tc:TE}
theorem jY{s:zr}{Q:VK}{k k':Bool}(I:Inv X pins σ H s)(q:Q (.bl k) H)(e:k=k'):EP X pins σ Q (.bool k') s:=by
 subst e
 exact⟨.bl k,H,I,rfl,q⟩
theorem jb:jf X (cq .Eq) NE:=by
 intro pins s σ H x y v u Q I rx ry h
 obtain⟨hs,q⟩:=h
 cases x with
 |qd=>
  cases rx
  cases y with
  |qd=>cases ry;exact PySem.EqNone.eq_none_none (jY I q (by simp))
  |bl j=>cases ry;exact PySem.EqNone.eq_none_bool (jY I q (by simp))
  |int j=>obtain⟨t',rfl⟩:=ry;exact PySem.EqNone.eq_none_int (jY I q (by simp))
  |str j=>obtain⟨t',rfl⟩:=ry;exact PySem.EqNone.eq_none_str (jY I q (by simp))
  |_=>exact absurd (show false=true from hs) kf
 |bl i=>
  cases rx
  cases y with
  |qd=>cases ry;exact PySem.EqNone.eq_bool_none (jY I q (by simp))
  |bl j=>cases ry;exact eq_bool (jY I q N5)
  |str j=>obtain⟨t',rfl⟩:=ry;exact PySem.EqMixed.eq_bool_str (jY I q (by simp))
  |_=>exact absurd (show false=true from hs) kf
 |int i=>
  obtain⟨t,rfl⟩:=rx
  cases y with
  |qd=>cases ry;exact PySem.EqNone.eq_int_none (jY I q (by simp))
  |int j=>obtain⟨t',rfl⟩:=ry;exact eq_int (jY I q N4)
  |str j=>obtain⟨t',rfl⟩:=ry;exact PySem.EqMixed.eq_int_str (jY I q (by simp))
  |_=>exact absurd (show false=true from hs) kf
 |str i=>
  obtain⟨t,rfl⟩:=rx
  cases y with
  |qd=>cases ry;exact PySem.EqNone.eq_str_none (jY I q (by simp))
  |bl j=>cases ry;exact PySem.EqMixed.eq_str_bool (jY I q (by simp))
  |int j=>obtain⟨t',rfl⟩:=ry;exact PySem.EqMixed.eq_str_int (jY I q (by simp))
  |str j=>obtain⟨t',rfl⟩:=ry;exact eq_str (jY I q N6)
  |_=>exact absurd (show false=true from hs) kf
 |vU i=>
  obtain⟨t,rfl⟩:=rx
  cases y with
  |vU j=>obtain⟨t',rfl⟩:=ry;exact PySem.W.eq_bytes (jY I q N7)
  |_=>exact absurd (show false=true from hs) kf
 |_=>cases y<;>exact absurd (show false=true from hs) kf
theorem fX:jf X (cq .NotEq) N3:=by
 intro pins s σ H x y v u Q I rx ry h
 obtain⟨hs,q⟩:=h
 cases x with
 |qd=>
  cases rx
  cases y with
  |qd=>cases ry;exact PySem.EqNone.ne_none_none (jY I q (by simp))
  |bl j=>cases ry;exact PySem.EqNone.ne_none_bool (jY I q (by simp))
  |int j=>obtain⟨t',rfl⟩:=ry;exact PySem.EqNone.ne_none_int (jY I q (by simp))
  |str j=>obtain⟨t',rfl⟩:=ry;exact PySem.EqNone.ne_none_str (jY I q (by simp))
  |_=>exact absurd (show false=true from hs) kf
 |bl i=>
  cases rx
  cases y with
  |qd=>cases ry;exact PySem.EqNone.ne_bool_none (jY I q (by simp))
  |bl j=>cases ry;exact ne_bool (jY I q (ag not N5))
  |str j=>obtain⟨t',rfl⟩:=ry;exact PySem.EqMixed.ne_bool_str (jY I q (by simp))
  |_=>exact absurd (show false=true from hs) kf
 |int i=>
  obtain⟨t,rfl⟩:=rx
  cases y with
  |qd=>cases ry;exact PySem.EqNone.ne_int_none (jY I q (by simp))
  |int j=>obtain⟨t',rfl⟩:=ry;exact ne_int (jY I q (ag not N4))
  |str j=>obtain⟨t',rfl⟩:=ry;exact PySem.EqMixed.ne_int_str (jY I q (by simp))
  |_=>exact absurd (show false=true from hs) kf
 |str i=>
  obtain⟨t,rfl⟩:=rx
  cases y with
  |qd=>cases ry;exact PySem.EqNone.ne_str_none (jY I q (by simp))
  |bl j=>cases ry;exact PySem.EqMixed.ne_str_bool (jY I q (by simp))
  |int j=>obtain⟨t',rfl⟩:=ry;exact PySem.EqMixed.ne_str_int (jY I q (by simp))
  |str j=>obtain⟨t',rfl⟩:=ry;exact ne_str (jY I q (ag not N6))
  |_=>exact absurd (show false=true from hs) kf
 |vU i=>
  obtain⟨t,rfl⟩:=rx
  cases y with
  |vU j=>obtain⟨t',rfl⟩:=ry;exact PySem.W.ne_bytes (jY I q (ag not N7))
  |_=>exact absurd (show false=true from hs) kf
 |_=>cases y<;>exact absurd (show false=true from hs) kf
theorem nk:jf X (cq .Lt) (uH λi j=>.bl (decide (i<j))):=Qz λ_ _ _ _ _ _ _ q=>lt_int q
theorem JD:jf X (cq .LtE) (uH λi j=>.bl (decide (i<=j))):=Qz λ_ _ _ _ _ _ _ q=>le_int q
theorem yf:jf X (cq .Gt) (uH λi j=>.bl (decide (j<i))):=Qz λ_ _ _ _ _ _ _ q=>gt_int q
theorem N8:jf X (cq .GtE) (uH λi j=>.bl (decide (j<=i))):=Qz λ_ _ _ _ _ _ _ q=>ge_int q
theorem qxq:jf X (cq .In) (λx y H Q=>∃i j,x= .str i/\y= .str j/\Q (.bl (!(Ya j i 0 j.length 1).isEmpty)) H):=by
 intro pins s σ H x y v u Q I rx ry h
 obtain⟨i,j,rfl,rfl,q⟩:=h
 obtain⟨t,rfl⟩:=rx
 obtain⟨t',rfl⟩:=ry
 exact in_str (jY I q rfl)
theorem qR(b:hU)(h:op≠ .In:=by decide)(h2:op≠ .NotIn:=by decide):Qb op b=false:=by
 have e1:(op==CmpOp.In)=false:=by cases op<;>first|rfl|exact absurd rfl h
 have e2:(op==CmpOp.NotIn)=false:=by cases op<;>first|rfl|exact absurd rfl h2
 cases b<;>simp[Qb,e1,e2]
theorem ki{r:R2}(ho:jf X (cq op) r)(ha:PE X a ta)(hb:PE X b tb)(hm:Qb op b=false):PE X (.Compare a [op] [b] pos) (vM r ta tb):=by
 exfalso
 exact wpAny_Compare1 (JM ha hb I h λv u s2 x y H2 I2 rx ry q=>ho pins s2 σ H2 x y v u Q I2 rx ry q) hm
inductive N9(Q:Bool->Hp->Prop)(x:V)(H':Hp):Prop
 |mk (k:_) (qQ:x= .bl k) (qZ:Q k H'):N9 Q x H'
def Qk(t:TE):TT:=λσ H Q=>t σ H λx H'=>N9 Q x H'
theorem qM{r:R2}(ho:jf X (cq op) r)(ha:PE X a ta)(hb:PE X b tb)(hm:Qb op b=false):PT X (.Compare a [op] [b] pos) (Qk (vM r ta tb)):=by
 exfalso
 refine wpAny_isTrue_Compare1 (qX (ha pins s σ H _ I h) λv s1⟨x,H1,I1,r1,q1⟩=>qX (hb pins s1 σ H1 _ I1 q1) λu s2⟨y,H2,I2,r2,q2⟩=>
  qX (ho pins s2 σ H2 x y v u _ I2 r1 r2 q2) λc s3⟨z,H3,I3,r3,k,e,q3⟩=>?_) hm
 subst e
 cases r3
 exact lx ⟨H3,I3,q3⟩
def qxz(r r':R2)(ta tb tc:TE):TE:=λσ H Q=>ta σ H λx H1=>tb σ H1 λy H2=>r x y H2 λz H3=>∃k,z= .bl k/\
 (if k=true then tc σ H3 λw' H4=>r' y w' H4 Q else Q (.bl false) H3)
theorem qxj{JF:CmpOp}{r r':R2}(ho:jf X (cq op) r)(yD:jf X (cq JF) r')(ha:PE X a ta)(hb:PE X b tb)(hc:PE X c tc)(hm:lastMarks [op,JF] [b,c]=false:=by with_unfolding_all rfl):PE X (.Compare a [op,JF] [b,c] pos) (qxz r r' ta tb tc):=by
 exfalso
 refine Compare_chain (qX (ha pins s σ H _ I h) λv s1⟨x,H1,I1,r1,q1⟩=>chain_link (qX (hb pins s1 σ H1 _ I1 q1) λu s2⟨y,H2,I2,r2,q2⟩=>
  qX (ho pins s2 σ H2 x y v u _ I2 r1 r2 q2) λd s3⟨z,H3,I3,r3,k,e,q3⟩=>?_)) hm
 subst e
 cases r3
 refine lx ?_
 cases k with
 |false=>exact ite_ff ⟨.bl false,H3,I3,rfl,q3⟩
 |true=>exact ite_tt (chain_last (qX (hc pins s3 σ H3 _ I3 q3) λw' s4⟨z',H4,I4,r4,q4⟩=>yD pins s4 σ H4 y z' u w' Q I4 r2 r4 q4))
def Bq(K:Fg)(x:V)(H:Hp)(k:Bool):Prop:=
 match x with
 | .qd=>k=false
 | .bl b=>k=b
 | .int i=>k=(i !=0)
 | .str y=>y.length<=sizeLine/\k=((y.length:Int) !=0)
 | .vU y=>y.size<=sizeLine/\k=((y.size:Int) !=0)
 | .ref p=>(∃xs,qp K H p xs/\k= !xs.isEmpty)\/(∃xs,qb K H p xs/\k= !xs.isEmpty)\/∃kvs,H p=some (.dK kvs)/\k= !kvs.isEmpty
 |_=>False
theorem qxx{κ:Type}{kvs:List (κ×V)}{vs:List (κ×zt)}(r:KV kvs vs):(!vs.isEmpty)= !kvs.isEmpty:=by
 cases r<;>rfl
theorem Bj{qy:List zt}(r:Vals xs qy):(!qy.toArray.isEmpty)= !xs.isEmpty:=by
 cases r<;>simp
theorem nv:(sizeLine:Nat)<2^63:=by rw[xt];decide
theorem qxk:qj2 X (λx H Q=>∃k,Bq X.K x H k/\Q k H):=by
 intro pins s σ H x v Q I rx h
 obtain⟨k,e,q⟩:=h
 have hl:=nv
 have hs:sizeLine=16777216:=xt
 cases x with
 |qd=>
  cases rx
  have e':k=false:=e
  subst e'
  exact truthy_none ⟨H,I,q⟩
 |bl b=>
  cases rx
  have e':k=b:=e
  subst e'
  exact lx ⟨H,I,q⟩
 |int i=>
  obtain⟨t,rfl⟩:=rx
  have e':k=(i !=0):=e
  subst e'
  exact PySem.P.truthy_int ⟨H,I,q⟩
 |str y=>
  obtain⟨t,rfl⟩:=rx
  obtain⟨hy,e'⟩:y.length<=sizeLine/\k=((y.length:Int) !=0):=e
  subst e'
  exact PySem.P.truthy_str (by lia) ⟨H,I.tok _,q⟩
 |vU y=>
  obtain⟨t,rfl⟩:=rx
  obtain⟨hy,e'⟩:y.size<=sizeLine/\k=((y.size:Int) !=0):=e
  subst e'
  exact PySem.W.truthy_bytes (by lia) ⟨H,I.tok _,q⟩
 |ref p=>
  cases rx
  have e':(∃xs,qp X.K H p xs/\k= !xs.isEmpty)\/(∃xs,qb X.K H p xs/\k= !xs.isEmpty)\/∃kvs,H p=some (.dK kvs)/\k= !kvs.isEmpty:=e
  rcases e' with⟨xs,hx,e'⟩|⟨xs,hx,e'⟩|⟨kvs,hx,e'⟩
  ·subst e'
   obtain⟨qy,r,pl,hz⟩:=I.list hx
   have hlen:=r.length
   exact wpAny_truthy_list pl.isList (by simp only[jd];lia) ⟨H,I.tok _,by rw[Bj r];exact q⟩
  ·subst e'
   obtain⟨qy,r,pl,hz⟩:=I.tuple hx
   have hlen:=r.length
   exact truthy_tuple pl (by simp only[jd];lia) ⟨H,I.tok _,by rw[Bj r];exact q⟩
  ·subst e'
   obtain⟨hz,hS,vs,r,m⟩:kvs.length<=sizeLine/\(p==ul)=false/\∃vs,KV kvs vs/\s.heap.DictOf (xY X.prog X.w) p vs:=I.qt p _ hx
   have hlen:kvs.length=vs.length:=Paired.length r
   exact wpAny_truthy_dict hS m (by lia) ⟨H,I.tok _,by rw[qxx r];exact q⟩
 |_=>exact(show False from e).elim
theorem JH(ha:PE X a ta)(he:∀whole,isTrue a X.env whole=(do let v<-whole;standAt a.pos;holding [v] (truthy v))):
  PT X a (λσ H Q=>ta σ H λx H'=>∃k,Bq X.K x H' k/\Q k H'):=by
 exfalso
 exact isTrue_plain (qX (ha pins s σ H _ I h) λv s1⟨x,H1,I1,r1,q1⟩=>qxk pins s1 σ H1 x v Q I1 r1 q1) (he _)
theorem qxv:jf X (HI .Add) (λx y H Q=>∃i j,x= .str i/\y= .str j/\i.length+j.length<=sizeLine/\Q (.str (i++j)) H):=by
 intro pins s σ H x y v u Q I rx ry h
 obtain⟨i,j,rfl,rfl,hz,q⟩:=h
 obtain⟨t,rfl⟩:=rx
 obtain⟨t',rfl⟩:=ry
 exact add_str (λt' tk=>⟨.str (i++j),H,I.tok _,⟨_,rfl⟩,q⟩) hz
theorem vals1{x:V}(r:Vals [x] us):∃u,us=[u]/\RelV x u:=by
 cases r with
 |cons r1 r2=>cases r2;exact⟨_,rfl,r1⟩
theorem vals2{x:V}(r:Vals [x,y] us):∃u w',us=[u,w']/\RelV x u/\RelV y w':=by
 cases r with
 |cons r1 r2=>
  cases r2 with
  |cons r3 r4=>cases r4;exact⟨_,_,rfl,r1,r3⟩
theorem qxw(hc:X.calm=true):vG X (.builtin "max") (λxs H Q=>∃i j,xs=[.int i,.int j]/\Q (.int (if j>i then j else i)) H):=by
 intro pins s σ H xs us Q I r h
 obtain⟨i,j,rfl,q⟩:=h
 obtain⟨u,w',rfl,⟨t,rfl⟩,⟨t',rfl⟩⟩:=vals2 r
 refine max_two_ints (I.ok.hd hc) λh' tk k=>⟨_,H,I.kept k,?_,q⟩
 by_cases hj:j>i
 ·rw[vb hj,vb hj];exact⟨_,rfl⟩
 ·rw[ke hj,ke hj];exact⟨_,rfl⟩
theorem Bx(hc:X.calm=true):vG X (.builtin "min") (λxs H Q=>∃i j,xs=[.int i,.int j]/\Q (.int (if j<i then j else i)) H):=by
 intro pins s σ H xs us Q I r h
 obtain⟨i,j,rfl,q⟩:=h
 obtain⟨u,w',rfl,⟨t,rfl⟩,⟨t',rfl⟩⟩:=vals2 r
 refine min_two_ints (I.ok.hd hc) λh' tk k=>⟨_,H,I.kept k,?_,q⟩
 by_cases hj:j<i
 ·rw[vb hj,vb hj];exact⟨_,rfl⟩
 ·rw[ke hj,ke hj];exact⟨_,rfl⟩
theorem Bk:vG X (.type "str") (λxs H Q=>∃i,xs=[.int i]/\i.natAbs.log2<1920/\Q (.str (toString i)) H):=by
 intro pins s σ H xs us Q I r h
 obtain⟨i,rfl,hz,q⟩:=h
 obtain⟨u,rfl,t,rfl⟩:=vals1 r
 exact PySem.P.str_of_int hz ⟨.str _,H,I.tok _,⟨_,rfl⟩,q⟩
end
structure lG(h:ll)(x dx C:jp)(mA:Str->Option zt):Prop where
 obj:h.get? x=some (PySem.W.instObj C dx)
 ns:h.Ns1 dx mA
 ne:dx≠x
theorem qxy(n:h.Ns1 dx mA):∃od,h.get? dx=some od/\∀name,PySem.W.lookIn name od=some (mA name):=by
 obtain⟨o,es,ep,ho,hd,hk,_,hm⟩:=n
 refine⟨o,ho,λname=>?_⟩
 have e:=hm name
 unfold nsFind findBy at e
 rw[<-Array.find?_toList]at e
 unfold PySem.W.lookIn
 rw[hd]
 dsimp only
 split
 ·rename_i y q
  rw[q]at e
  exact ag some e
 ·rename_i q
  rw[q]at e
  have a:es.toList.any (·.refKey)=false:=by
   rw[List.any_eq_false]
   intro y hy
   obtain⟨z,t,qxu⟩:=hk y (Array.mem_toList_iff.mp hy)
   simp[DictEntry.refKey,qxu]
  have a':¬es.toList.any (·.refKey)=true:=by rw[a];exact kf
  rw[ke a']
  exact ag some e
theorem lG.look{x:jp}(I:lG h x dx C mA):∃od,PySem.W.InstAt h x (PySem.W.instObj C dx) C (some od)/\∀name,PySem.W.lookIn name od=some (mA name):=
 let⟨od,ho,hl⟩:=qxy I.ns
 ⟨od,⟨I.obj,rfl,rfl,ho⟩,hl⟩
section
variable {E:zt->zr->Prop} {s:zr} {x:jp} {v:zt}
theorem get_map{expr:Bool}{Q:zt->zr->Prop}(X:K.In s.heap)(I:lG s.heap x dx C mA)(hg:PySem.W.plainGet K C name=true)(hh:PySem.W.hasDictIn K C=true)
  (ha:PySem.W.findIn K (.ref C) name=some none)(hv:mA name=some v)(yh:PySem.W.handedIn v=true)(h:Q v {s with toks:=s.toks+1}):
  xI (vk prog w) A (getAttr (.ref x) name expr) Q E s:=by
 obtain⟨od,J,hl⟩:=I.look
 exact PySem.W.get_value X J (PySem.W.plainGet_of hg).1 (PySem.W.findObj_own hh ha rfl (by rw[hl,hv])) yh h
theorem qxo{Q:zt×List zt->zr->Prop}(X:K.In s.heap)(I:lG s.heap x dx C mA)(hg:PySem.W.plainGet K C name=true)(hf:PySem.W.findIn K (.ref C) name=some (some (.ref f)))(ht:PySem.W.isFn K (.ref f)=true)(hv:mA name=none)(h:Q (.ref f,[.ref x]) s):
  xI (vk prog w) A (qqK (.ref x) name pl) Q E s:=by
 obtain⟨od,J,hl⟩:=I.look
 exact PySem.W.method_fn X J (PySem.W.plainGet_of hg).1 (PySem.W.plainGet_of hg).2 hf (XB.mp ht) (by show(PySem.W.lookIn name od).map (·.isSome)=some false;rw[hl,hv];rfl) h
theorem qxi{ns:List Str}{Q:Unit->zr->Prop}(X:K.In s.heap)(I:lG s.heap x dx C mA)
  (hs:PySem.W.findIn K (.ref C) "__setattr__"=some (some (.builtin "object.__setattr__")))(hp:PySem.W.plainOver K C=true)(ht:PySem.W.takerIn K C name=some none)(hh:PySem.W.hasDictIn K C=true)
  (hw:PySem.Within mA ns)(hsz:ns.length<=sizeLine)
  (h:∀h',lG h' x dx C (λy=>if y=name then some v else mA y)->rh dx s.heap h'->Q () {s with heap:=h',toks:=s.toks+2}):
  xI (vk prog w) A (setAttr (.ref x) name v) Q E s:=by
 obtain⟨od,J,hl⟩:=I.look
 refine PySem.W.set_plain X J hs (PySem.W.osa_open (s:={s with toks:=s.toks+1}) (r:=none) X J hp ht λb=>?_)
 obtain⟨cd,hc,JQ⟩:=PySem.W.any_some hh
 have hx:s.heap.get? x=some ⟨.ref C,some dx,.plain,#[]⟩:=I.obj
 refine qr (xk (qr (qr (wpAny_loadPart hx (qr (PySem.W.Looks.here (s:={s with toks:=s.toks+1}) (PySem.W.looks_clsIn X hc) ?_))))))
 rw[JQ]
 refine xk (a:=some dx) (qr (xk (qr ?_)))
 refine wpAny_nsSet1 (s:={s with toks:=s.toks+1}) I.ns λh' Qv kJ=>?_
 obtain⟨oD,esD,epD,JP,JR,JS⟩:=Qv.count (PySem.Within.cons name v hw)
 refine qr (wpAny_lookBehind JP (by rw[JR];exact pastItsLine_dict (vy JS (by rw[zH];lia))) ?_)
 exact xk (h _ ⟨(kJ.2 _ (y7 I.ne)).trans I.obj,Qv,I.ne⟩ kJ)
theorem qxg{R:qz1->zr->Prop}{vs:List zt}(X:K.In s.heap)(hm:PySem.W.makesIn K C=true)(hi:PySem.W.findIn K (.ref C) "__init__"=some (some (.ref f)))(hf:PySem.W.typeIn K (.ref f)=some (.type "function"))(h:Qr (vk prog w) (A.under (.builtin "type.__call__" ⟨.ref C::vs,kw⟩)) (.call (.ref f) ⟨.ref ((~~~s)+1)::vs,kw⟩) (PySem.W.InitBack ((~~~s)+1) R)
   {s with heap:=(s.heap.push PySem.W.emptyDict).push (PySem.W.instObj C (~~~s))}):
  Qr (vk prog w) A (.call (.ref C) ⟨vs,kw⟩) R s:=by
 obtain⟨hh,g,d,t,os⟩:=s
 exact PySem.W.make_core (PySem.W.makes_of X hm) (PySem.W.looks_findIn X hi) (λself=>PySem.W.bind_fn X self hf) (.inl rfl) h
end
def zP(f:Str)(v:V):List (Str×V)->List (Str×V)
 |[]=>[(f,v)]
 |(g,x)::r=>if g=f then(g,v)::r else(g,x)::zP f v r
theorem Bv(f g:Str)(v:V):∀fs:List (Str×V),(zP f v fs).lookup g=if g=f then some v else fs.lookup g
 |[]=>by
  show i5 g [(f,v)]=_
  by_cases h:g=f
  ·have hb:(g==f)=true:=XB.mpr h
   simp only[i5,hb,vb h]
  ·have hb:(g==f)=false:=kS.mpr h
   simp only[i5,hb,ke h]
 |(k,x)::r=>by
  have ih:=Bv f g v r
  rw[show zP f v ((k,x)::r)=(if k=f then(k,v)::r else(k,x)::zP f v r)from rfl]
  by_cases hk:k=f
  ·rw[vb hk]
   by_cases h:g=k
   ·have hb:(g==k)=true:=XB.mpr h
    simp only[i5,hb,vb (h.trans hk)]
   ·have hb:(g==k)=false:=kS.mpr h
    simp only[i5,hb,ke (λe:g=f=>h (e.trans hk.symm))]
  ·rw[ke hk]
   by_cases h:g=k
   ·have hb:(g==k)=true:=XB.mpr h
    simp only[i5,hb,ke (λe:g=f=>hk (h.symm.trans e))]
   ·have hb:(g==k)=false:=kS.mpr h
    simp only[i5,hb]
    exact ih
theorem JT(f:Str)(v:V):∀fs:List (Str×V),f∈(zP f v fs).map (·.1)/\∀g,g∈fs.map (·.1)->g∈(zP f v fs).map (·.1)
 |[]=>⟨by simp[zP],λg h=>by simp at h⟩
 |(k,x)::r=>by
  obtain⟨i1,i2⟩:=JT f v r
  rw[show zP f v ((k,x)::r)=(if k=f then(k,v)::r else(k,x)::zP f v r)from rfl]
  by_cases hk:k=f
  ·rw[vb hk]
   subst hk
   exact⟨by simp,λg h=>by simpa using h⟩
  ·rw[ke hk]
   refine⟨?_,λg h=>?_⟩
   ·rw[wq]
    exact jF _ i1
   ·rw[wq]at h⊢
    rcases js.mp h with e|e
    ·exact js.mpr (.inl e)
    ·exact jF _ (i2 g e)
theorem JA(f:Str)(v:V):∀fs:List (Str×V),(zP f v fs).length<=fs.length+1
 |[]=>by simp[zP]
 |(k,x)::r=>by
  have ih:=JA f v r
  rw[show zP f v ((k,x)::r)=(if k=f then(k,v)::r else(k,x)::zP f v r)from rfl]
  by_cases hk:k=f
  ·rw[vb hk,zH,zH];lia
  ·rw[ke hk,zH,zH];lia
theorem kD.some_of{o:Option zt}(r:kD (some v) o):∃u,o=some u/\RelV v u:=by
 cases o with
 |none=>exact(show False from r).elim
 |some u=>exact⟨u,rfl,r⟩
theorem kD.none_of{o:Option zt}(r:kD none o):o=none:=by
 cases o with
 |none=>rfl
 |some u=>exact(show False from r).elim
theorem Bw(r:RelV v u):PySem.W.handedIn u=true:=by
 cases v with
 |qd=>cases (show u=Value.none from r);rfl
 |bl b=>cases (show u=Value.bool b from r);rfl
 |int i=>obtain⟨t,e⟩:=(show∃t,u=Value.int i t from r);cases e;rfl
 |str x=>obtain⟨t,e⟩:=(show∃t,u=Value.str x t from r);cases e;rfl
 |vU b=>obtain⟨t,e⟩:=(show∃t,u=Value.bytes b t from r);cases e;rfl
 |dO b=>obtain⟨t,e⟩:=(show∃t,u=Value.float b t from r);cases e;rfl
 |ref a=>cases (show u=Value.ref a from r);rfl
 |ty n=>cases (show u=Value.type n from r);rfl
section
variable {fs wc:List (Str×V)}
theorem JE(qt:zF P w H h)(e:H a=some (.ins C dx fs)):∃mA,lG h a dx C mA/\(∀f,kD (fs.lookup f) (mA f))/\PySem.Within mA (fs.map (·.1))/\fs.length<=1000/\H dx=some (.own a):=by
 obtain⟨d,z,ne,ob,mA,n,r,q⟩:=(show jW P w H h a (.ins C dx fs)from qt a _ e)
 exact⟨mA,⟨ob,n,ne⟩,r,q,z,d⟩
end
structure vJ(K:Fg)(C:jp):Prop where
 pg:PySem.W.plainGet K C ci=true
 hd:PySem.W.hasDictIn K C=true
 po:PySem.W.plainOver K C=true
 sa:PySem.W.findIn K (.ref C) "__setattr__"=some (some (.builtin "object.__setattr__"))
theorem vJ.get(c:vJ K C)(f:Str):PySem.W.plainGet K C f=true:=c.pg
def jO(K:Fg)(C:jp)(f:Str):Prop:=PySem.W.findIn K (.ref C) f=some none
theorem jO.qxm{f:Str}(n:jO K C f):PySem.W.takerIn K C f=some none:=by
 unfold PySem.W.takerIn
 rw[show PySem.W.findIn K (.ref C) f=some none from n]
 rfl
structure Meth(K:Fg)(C:jp)(m:Str)(f:jp):Prop where
 at_:PySem.W.findIn K (.ref C) m=some (some (.ref f))
 fn:PySem.W.isFn K (.ref f)=true
 kp:PySem.W.keepIn K (.ref f)=true
section
variable {s:zr} {fs:List (Str×V)} {f:Str} {E:zt->zr->Prop}
theorem By{b:Bool}{Q:zt->zr->Prop}(I:Inv X pins σ H s)(e:H a=some (.ins C dx fs))(c:vJ X.K C)(n:jO X.K C f)(l:fs.lookup f=some v)
  (h:∀u s',Inv X pins σ H s'->RelV v u->Q u s'):xI (vk X.prog X.w) A (getAttr (.ref a) f b) Q E s:=by
 obtain⟨mA,O,r,_,_,_⟩:=JE I.qt e
 obtain⟨u,hu,ru⟩:=kD.some_of (v:=v) (o:=mA f) (by rw[<-l];exact r f)
 exact get_map I.zZ O (c.get f) c.hd n hu (Bw ru) (h u _ (I.tok _) ru)
theorem J0{m:Str}{g:jp}{Q:zt×List zt->zr->Prop}(I:Inv X pins σ H s)(e:H a=some (.ins C dx fs))(c:vJ X.K C)(k:Meth X.K C m g)(l:fs.lookup m=none)(h:Q (.ref g,[.ref a]) s):xI (vk X.prog X.w) A (qqK (.ref a) m pl) Q E s:=by
 obtain⟨mA,O,r,_,_,_⟩:=JE I.qt e
 have hn:mA m=none:=kD.none_of (by rw[<-l];exact r m)
 exact qxo I.zZ O (c.get m) k.at_ k.fn hn h
theorem Bu{Q:Unit->zr->Prop}(I:Inv X pins σ H s)(e:H a=some (.ins C dx fs))(c:vJ X.K C)(n:jO X.K C f)(hl:fs.length<1000)(ry:RelV y u)(h:∀s',Inv X pins σ (upd H a (.ins C dx (zP f y fs))) s'->Q () s'):xI (vk X.prog X.w) A (setAttr (.ref a) f u) Q E s:=by
 obtain⟨mA,O,r,wi,_,ho⟩:=JE I.qt e
 have hz:(fs.map (·.1)).length<=sizeLine:=by rw[za,xt];lia
 refine qxi I.zZ O c.sa c.po n.qxm c.hd wi hz λh' O' sb=>h _ ?_
 have hd:∃o,h'.get? dx=some o:=let⟨o,_,_,e',_⟩:=O'.ns;⟨o,e'⟩
 refine I.write (x:=a) (e:=dx) (by rw[e];exact True.intro) (.inr ho) (λb q hb z=>(sb.2 b hb).trans z) hd ?_
 refine⟨by rw[qm O.ne];exact ho,?_,O.ne,O'.obj,_,O'.ns,λg=>?_,λg hg=>?_⟩
 ·have :=JA f y fs;lia
 ·show kD ((zP f y fs).lookup g) (if g=f then some u else mA g)
  rw[Bv]
  by_cases q:g=f
  ·rw[vb q,vb q];exact ry
  ·rw[ke q,ke q];exact r g
 ·by_cases q:g=f
  ·rw[q];exact(JT f y fs).1
  ·refine(JT f y fs).2 g (wi g λz=>hg ?_)
   show(if g=f then some u else mA g)=none
   rw[ke q];exact z
theorem Inv.made(I:Inv X pins σ H s):Inv X pins σ (upd (upd H (~~~s) (.own ((~~~s)+1))) ((~~~s)+1) (.ins C (~~~s) []))
  {s with heap:=(s.heap.push PySem.W.emptyDict).push (PySem.W.instObj C (~~~s))}:=by
 have e1:(s.heap.push PySem.W.emptyDict).get? (~~~s)=some PySem.W.emptyDict:=jg s.heap rfl
 have e2:((s.heap.push PySem.W.emptyDict).push (PySem.W.instObj C (~~~s))).get? ((~~~s)+1)=some (PySem.W.instObj C (~~~s)):=by
  have :=jg (s.heap.push PySem.W.emptyDict) (o:=PySem.W.instObj C (~~~s)) rfl
  rwa [ik]at this
 have e3:(s.heap.push PySem.W.emptyDict).Ns (~~~s) (λ_=>none):=⟨PySem.W.emptyDict,#[],_,e1,rfl,(λe he=>absurd he (by simp)),λ_=>rfl⟩
 have I1:=I.laid (a:=(~~~s)) (o:=.own ((~~~s)+1)) (h':=s.heap.push PySem.W.emptyDict) (t':=s.toks) (λb u q=>qF _ q) (qL _) ⟨_,e1⟩
 refine I1.laid (a:=(~~~s)+1) (o:=.ins C (~~~s) []) (t':=s.toks) (λb u q=>qF _ q) (qzC (ik _ _)) ?_
 have ne:(~~~s)≠(~~~s)+1:=zK (X2 _)
 refine⟨by rw[qm ne,qu],io _,ne,e2,λ_=>none,(qzJ e3).at λo q=>qF _ q,λ_=>True.intro,λy hy=>absurd rfl hy⟩
theorem Bo{f:Str}{s:zr}{Q:zt->zr->Prop}(hb:OK e f env (eval e env)=eval e env)(h:xI (vk prog w) A (eval e env) (λo s₁=>xI (vk prog w) A (getAttr o f true) Q E s₁) E s):xI (vk prog w) A (eval (.Attribute e f pos) env) Q E s:=
 Attribute_any_ h (by rw[arm_eval_Attribute,hb])
end
inductive qxn(K:Fg)(f:Str)(Q:VK)(x:V)(H1:Hp):Prop
 |mk (a:_) (C:_) (dx:_) (fs:_) (v:_) (qQ:x= .ref a) (qZ:H1 a=some (.ins C dx fs)) (qV:vJ K C) (qG:jO K C f) (zm:fs.lookup f=some v) (je:Q v H1)
def oS(K:Fg)(ta:TE)(f:Str):TE:=λσ H Q=>ta σ H λx H1=>qxn K f Q x H1
inductive qxb(K:Fg)(f:Str)(N_:St->Hp->Prop)(σ:St)(y:V)(x:V)(H2:Hp):Prop
 |mk (a:_) (C:_) (dx:_) (fs:_) (qQ:x= .ref a) (qZ:H2 a=some (.ins C dx fs)) (qV:vJ K C) (qG:jO K C f) (zm:fs.length<1000) (je:N_ σ (upd H2 a (.ins C dx (zP f y fs))))
def J1(K:Fg)(ta tv:TE)(f:Str):TS:=λD σ H=>tv σ H λy H1=>ta σ H1 λx H2=>qxb K f D.nx σ y x H2
def Bc(X:Cx)(op:Operator)(rd:V->V->Hp->VK->Prop):Prop:=
 ∀(pins:List (jp×Obj))(s:zr)(σ:St)(H:Hp)(x y:V)(u v:zt)(Q:VK),Inv X pins σ H s->RelV x u->RelV y v->rd x y H Q->xI (vk X.prog X.w) X.A (inplaceOp op u v) (EP X pins σ Q) X.xe s
inductive qxd(K:Fg)(tv:TE)(rd:V->V->Hp->VK->Prop)(f:Str)(N_:St->Hp->Prop)(σ:St)(x:V)(H1:Hp):Prop
 |mk (a:_) (C:_) (dx:_) (fs:_) (v:_) (qQ:x= .ref a) (qZ:H1 a=some (.ins C dx fs)) (qV:vJ K C) (qG:jO K C f) (zm:fs.lookup f=some v) (je:tv σ H1 λy H2=>rd v y H2 λz H3=>∃kH wc,H3 a=some (.ins C kH wc)/\wc.length<1000/\N_ σ (upd H3 a (.ins C kH (zP f z wc))))
def Bl(K:Fg)(ta tv:TE)(rd:V->V->Hp->VK->Prop)(f:Str):TS:=λD σ H=>ta σ H λx H1=>qxd K tv rd f D.nx σ x H1
section
variable {o value:hU} {f:Str} {Bg:Pos}
theorem qT(he:PE X e ta)(hb:OK e f X.env (eval e X.env)=eval e X.env):PE X (.Attribute e f pos) (oS X.K ta f):=by
 exfalso
 refine Bo hb (qX (he pins s σ H _ I h) λu s1⟨x,H1,I1,rx,a,C,dx,fs,v,ex,ea,c,n,l,q⟩=>?_)
 subst ex
 obtain rfl:u=Value.ref a:=rx
 exact By I1 ea c n l λu' s2 I2 ru=>⟨v,H1,I2,ru,q⟩
theorem xj(ha:PE X o ta)(hv:PE X value tv)(hs:Nw value (some (.Attribute o f pos')) pos.line X.env=pure false):PS X (.Assign [.Attribute o f pos'] value pos) (J1 X.K ta tv f):=by
 intro pins s σ H D I h
 refine qqH (qX (hv pins s σ H _ I h) λu s1⟨y,H1,I1,ry,q⟩=>qX (ha pins s1 σ H1 _ I1 q) λov s2⟨x,H2,I2,rx,a,C,dx,fs,ex,ea,c,n,l,q2⟩=>?_) hs
 subst ex
 obtain rfl:ov=Value.ref a:=rx
 exact Bu I2 ea c n l ry λs3 I3=>⟨σ,_,I3,q2⟩
theorem J6{op:Operator}{rd:V->V->Hp->VK->Prop}(ha:PE X o ta)(hv:PE X value tv)(fY:Bc X op rd):PS X (.AugAssign (.Attribute o f Bg) op value pos) (Bl X.K ta tv rd f):=by
 intro pins s σ H D I h
 refine wpAny_AugAssign_AttributeAny (qX (ha pins s σ H _ I h) λov s1⟨x,H1,I1,rx,a,C,dx,fs,v,ex,ea,c,n,l,q⟩=>?_)
 subst ex
 obtain rfl:ov=Value.ref a:=rx
 refine By I1 ea c n l λu s2 I2 ru=>qX (hv pins s2 σ H1 _ I2 q) λw3 s3⟨y,H2,I3,ry,q3⟩=>qX (fY pins s3 σ H2 v y u w3 _ I3 ru ry q3) λw4 s4⟨z,H3,I4,rz,kH,wc,J7,l',q4⟩=>?_
 exact Bu I4 J7 c n l' rz λs5 I5=>⟨σ,_,I5,q4⟩
inductive Bm(x:V)(y:V)(H:Hp)(Q:VK):Prop
 |mk (i:_) (j:_) (qQ:x= .int i) (qZ:y= .int j) (qV:Q (.int (i+j)) H):Bm x y H Q
def Qw:V->V->Hp->VK->Prop:=λx y H Q=>Bm x y H Q
theorem J8:Bc X .Add Qw:=by
 rintro pins s σ H x y u v Q I rx ry ⟨i,j,rfl,rfl,q⟩
 obtain⟨t,rfl⟩:=(show∃t,u=Value.int i t from rx)
 obtain⟨t',rfl⟩:=(show∃t',v=Value.int j t' from ry)
 exact PyProof.Rows.iadd_int ⟨.int (i+j),H,I.tok _,⟨_,rfl⟩,q⟩
theorem qh1{m:Str}{args:List hU}{s:zr}{Q:zt->zr->Prop}(he:PE X e te)(I:Inv X pins σ H s)(h:te σ H λx H1=>∃a C dx fs g,x= .ref a/\H1 a=some (.ins C dx fs)/\vJ X.K C/\Meth X.K C m g/\fs.lookup m=none/\
   ∀s1,Inv X pins σ H1 s1->xI (vk X.prog X.w) X.A (Pl pos (.ref g) [.ref a] (gN pos (ky args X.env)) (ac pos (gd [] X.env))) Q X.xe s1)(ht:eval (.Call (.Attribute e m apos) args [] pos) X.env=(do
   let ov<-eval e X.env
   standAt apos.atName
   let(f,first)<-holding [ov] (qqK ov m pl)
   Pl pos f first (gN pos (ky args X.env)) (ac pos (gd [] X.env)))):
  xI (vk X.prog X.w) X.A (eval (.Call (.Attribute e m apos) args [] pos) X.env) Q X.xe s:=by
 refine PySem.W.methodCall_KW (pl:=pl) (qX (he pins s σ H _ I h) λu s1⟨x,H1,I1,rx,a,C,dx,fs,g,ex,ea,c,k,l,q⟩=>?_) ht
 subst ex
 obtain rfl:u=Value.ref a:=rx
 exact J0 I1 ea c k l (q s1 I1)
end
section
variable {s:zr} {E:zt->zr->Prop} {Q:zt->zr->Prop} {c:zt} {b:Bool}
end
structure z7(k:Nat)(A:si):Prop where
 hd:A.handled=none
 dp:A.depth+3*k+5<qzF
 un:A.units+16*k+200<eI
theorem z7.mono{k:Nat}(r:z7 k A)(h:j<=k):z7 j A:=⟨r.hd,by have :=r.dp;lia,by have :=r.un;lia⟩
theorem z7.deeper{k:Nat}(r:z7 (k+1) A)(env:Env):z7 k (A.deeper env):=
 ⟨r.hd,by have :=r.dp;show A.depth+1+3*k+5<_;lia,by have :=r.un;show A.units+3+16*k+200<_;lia⟩
theorem qxf:(A.under (.builtin "type.__call__" ⟨.ref C::us,kw⟩)).depth=A.depth+1:=by
 first|rfl|simp[qzi,Code.weight,Code.isCreation,Code.isGuard,Code.isCaller,Code.frames,qzZ,guardIds]
theorem qxh:(A.under (.builtin "type.__call__" ⟨.ref C::us,kw⟩)).units=A.units+1:=by
 first|rfl|simp[qzi,Code.cUnits,Code.frames,qzZ]
theorem z7.make{k:Nat}(r:z7 (k+1) A)(C:jp)(us:List zt)(kw:List (Str×zt)):z7 k (A.under (.builtin "type.__call__" ⟨.ref C::us,kw⟩)):=
 ⟨r.hd,by have :=r.dp;rw[qxf];lia,by have :=r.un;rw[qxh];lia⟩
theorem z7.depth{k:Nat}(r:z7 k A):A.depth<qzF:=by have :=r.dp;lia
theorem z7.qxp{k:Nat}(r:z7 k A):A.units<eI:=by have :=r.un;lia
def xx:TA:=λ_ H Q=>Q [] H
def jQ(ta:TE)(tr:TA):TA:=λσ H Q=>ta σ H λx H1=>tr σ H1 λxs H2=>Q (x::xs) H2
theorem qk:PA X [] xx:=λ_ _ _ _ H Q I h=>Calls.spliced_nil ⟨[],H,I,.nil,h⟩
theorem qx(ha:PE X e te)(hr:PA X es t)(hs:ky (e::es) X.env=(false,eval e X.env)::ky es X.env:=by rfl):PA X (e::es) (jQ te t):=by
 intro pos pins s σ H Q I h
 rw[hs]
 show xI _ _ (spliced ((false,eval e X.env)::gN pos (ky es X.env))) _ _ s
 refine qzH (qX (ha pins s σ H _ I h) λu s1⟨x,H1,I1,r1,q1⟩=>?_)
 exact qX (hr pos pins s1 σ H1 _ I1 q1) λus s2⟨xs,H2,I2,r2,q2⟩=>⟨x::xs,H2,I2,.cons r1 r2,q2⟩
def J9(t:TA):TE:=λσ H Q=>t σ H λxs H1=>xs.length<=sizeLine/\∀p,H1 p=none->Q (.ref p) (upd H1 p (.tup xs))
def ny(t:TA):TE:=λσ H Q=>t σ H λxs H1=>xs.length<=sizeLine/\∀p,H1 p=none->Q (.ref p) (upd H1 p (.lst xs))
theorem zR{x1}(h:PA X es t):PE X (.Tuple es x1 pos) (J9 t):=by
 intro pins s σ H Q I hq
 refine wpAny_Tuple_spliced (qX (h pos pins s σ H _ I hq) λus s1⟨xs,H1,I1,r,z,q⟩=>⟨by rw[<-r.length];exact z,?_⟩)
 have hf:H1 (~~~s1)=none:=I1.qt.fresh (qL _)
 refine⟨.ref (~~~s1),upd H1 (~~~s1) (.tup xs),I1.laid (t':=s1.toks) (λb u e=>qF _ e) (qL _) ?_,rfl,q _ hf⟩
 exact⟨z,us,r,⟨_,jg _ rfl,rfl,_,rfl⟩⟩
theorem zQ(h:PA X es t):PE X (.List es pos) (ny t):=by
 intro pins s σ H Q I hq
 refine wpAny_List_spliced (qX (h pos pins s σ H _ I hq) λus s1⟨xs,H1,I1,r,z,q⟩=>⟨by rw[<-r.length];exact z,?_⟩)
 have hf:H1 (~~~s1)=none:=I1.qt.fresh (qL _)
 refine⟨.ref (~~~s1),upd H1 (~~~s1) (.lst xs),I1.laid (t':=s1.toks) (λb u e=>qF _ e) (qL _) ?_,rfl,q _ hf⟩
 exact⟨z,us,0,r,jg _ rfl⟩
abbrev Sp:=List V->Hp->VK->XK->Prop
abbrev vz:=List Env->Hp->zr->XK->zt->zr->Prop
structure oA(P:cv)(w:fe)(K:Fg)(mg:Str->Option zt)(base:ll)(A:si)(outer:List Env)(s:zr)(H:Hp):Prop where
 frames:A.frames=some outer
 mod:Mod K mg base
 bs:∀b o,base.get? b=some o->s.heap.get? b=some o/\H b=none
 yg:base.objs.size<=(~~~s)
 vQ:s.heap.FunFrames base outer
 uG:∀b∈xR outer,H b=none
 qt:zF P w H s.heap
 bare:Sr s.gens
def CE(outer:List Env)(P:cv)(w:fe)(H:Hp)(s:zr)(Q:VK)(u:zt)(s':zr):Prop:=
 ∃v H',s'.os=s.os/\Sr s'.gens/\Un (xR outer) [] H H' s.heap s'.heap/\zF P w H' s'.heap/\RelV v u/\Q v H'
def CR(CX:vz)(outer:List Env)(P:cv)(w:fe)(H:Hp)(s:zr)(Q:VK)(E:XK)(r:qz1)(s':zr):Prop:=
 match r with
 | .ok (.ret u)=>CE outer P w H s Q u s'
 | .ok _=>False
 | .error e=>CX outer H s E e s'
structure xg(P:cv)(w:fe)(K:Fg)(mg:Str->Option zt)(base:ll)(CX:vz)(k:Nat)(f:jp)(fd:ol)(ps:List Str)(sp:Sp):Prop where
 len:∀vs H Q E,sp vs H Q E->vs.length=ps.length
 run:∀(A:si)(outer:List Env)(s:zr)(H:Hp)(args:Args)(us:List zt)(vs:List V)(Q:VK)(E:XK),z7 k A->oA P w K mg base A outer s H->qqC s fd args (ps.zip us)->Vals vs us->sp vs H Q E->
  Qr (vk P w) A (.call (.ref f) args) (CR CX outer P w H s Q E) s
theorem xg.mono{base:ll}{CX:vz}{k:Nat}{sp:Sp}(F:xg P w K mg base CX j f fd ps sp)(h:j<=k):
  xg P w K mg base CX k f fd ps sp:=⟨F.len,λA outer s H args us vs Q E hr=>F.run A outer s H args us vs Q E (hr.mono h)⟩
theorem xg.imp{base:ll}{CX:vz}{k:Nat}{sp fG:Sp}(F:xg P w K mg base CX k f fd ps sp)(h:∀vs H Q E,fG vs H Q E->sp vs H Q E):xg P w K mg base CX k f fd ps fG:=
 ⟨λvs H Q E q=>F.len vs H Q E (h _ _ _ _ q),λA outer s H args us vs Q E hr he hb hv hs=>F.run A outer s H args us vs Q E hr he hb hv (h _ _ _ _ hs)⟩
theorem oA.make{base:ll}{s:zr}(e:oA P w K mg base A outer s H)(C:jp)(us:List zt)(kw:List (Str×zt)):
  oA P w K mg base (A.under (.builtin "type.__call__" ⟨.ref C::us,kw⟩)) outer s H:=⟨by first|exact e.frames|(simpa[qzi,Code.envs,qzZ,pushEnvs]using e.frames),e.mod,e.bs,e.yg,e.vQ,e.uG,e.qt,e.bare⟩
section
variable {s:zr}
theorem Inv.fD(I:Inv X pins σ H s):oA X.prog X.w X.K X.mg X.base X.A X.stack s H:=
 ⟨I.ok.frames,I.ok.mod,I.bs,vy I.ok.yg I.sz,I.stack,I.dM,I.qt,I.bare⟩
theorem Inv.after{Q:VK}(I:Inv X pins σ H s)(h:CE X.stack X.prog X.w H s Q u s'):EP X pins σ Q u s':=by
 obtain⟨v,H',os,bare,un,qt,r,q⟩:=h
 obtain⟨hh,g,d,t,os'⟩:=s'
 obtain rfl:os'=s.os:=os
 exact⟨v,H',I.call (h':=hh) (g':=g) (d':=d) (t':=t) (ch:=[]) un qt bare (λb z=>absurd z (by simp)),r,q⟩
end
def yR(sp:Sp)(zW:List V)(E:XK)(t:TA):TE:=λσ H Q=>t σ H λvs H1=>sp (vs++zW) H1 Q E
inductive qxs(C:jp)(m:Str)(sp:Sp)(zW:List V)(E:XK)(t:TA)(σ:St)(Q:VK)(x:V)(H1:Hp):Prop
 |mk (a:_) (dx:_) (fs:_) (qQ:x= .ref a) (qZ:H1 a=some (.ins C dx fs)) (qV:fs.lookup m=none) (qG:t σ H1 λvs H2=>sp (x::(vs++zW)) H2 Q E)
def Bb(C:jp)(m:Str)(sp:Sp)(zW:List V)(E:XK)(ta:TE)(t:TA):TE:=λσ H Q=>ta σ H λx H1=>qxs C m sp zW E t σ Q x H1
def Bd(C:jp)(sp:Sp)(zW:List V)(E:XK)(t:TA):TE:=λσ H Q=>t σ H λvs H1=>∀x dx,H1 x=none->H1 dx=none->dx≠x->
 sp (.ref x::(vs++zW)) (upd (upd H1 dx (.own x)) x (.ins C dx [])) (λv H2=>v= .qd/\Q (.ref x) H2) E
def Binds(K:Fg)(fd:ol)(ps:List Str)(ds:List zt):Prop:=
 ∀(s:zr)(us:List zt),K.In s.heap->(us++ds).length=ps.length->qqC s fd ⟨us,[]⟩ (ps.zip (us++ds))
def Passes(CX:vz)(X:Cx)(E:XK):Prop:=∀(pins:List (jp×Obj))(σ:St)(H:Hp)(s:zr)(e:zt)(s':zr),Inv X pins σ H s->CX X.stack H s E e s'->X.xe e s'
section
variable {CX:vz} {k:Nat} {sp:Sp} {ds:List zt} {E:XK} {m:Str} {p:Pos} {o:hU}
theorem fP{s:zr}{Q:VK}(F:xg X.prog X.w X.K X.mg X.base CX k f fd ps sp)(hr:z7 k X.A)(hb:Binds X.K fd ps ds)(hd:Vals zW ds)(hx:Passes CX X E)(I:Inv X pins σ H s)(r:Vals vs us)(h:sp (vs++zW) H Q E):xI (vk X.prog X.w) X.A (call (.ref f) us) (EP X pins σ Q) X.xe s:=by
 have r2:Vals (vs++zW) (us++ds):=r.append hd
 have hl:(us++ds).length=ps.length:=by rw[<-r2.length];exact F.len _ _ _ _ h
 refine sx (dE (F.run X.A X.stack s H ⟨us,[]⟩ (us++ds) (vs++zW) Q E hr I.fD (hb s us I.zZ hl) r2 h) λr s' hq=>?_)
 cases r with
 |error e=>exact hx pins σ H s e s' I hq
 |ok fl=>
  cases fl with
  |ret u=>exact I.after hq
  |next=>exact iq hq
  |brk=>exact iq hq
  |cont=>exact iq hq
theorem f9(F:xg X.prog X.w X.K X.mg X.base CX k f fd ps sp)(hr:z7 k X.A)(hg:Gl X x)(hm:X.mg x=some (.ref f))(hk:PySem.W.keepIn X.K (.ref f)=true)(hb:Binds X.K fd ps ds)(hd:Vals zW ds)(hx:Passes CX X E)
  (ha:PA X (e::es) t)(jw:(x==("__debug__":Str))=false:=by decide)(he:ky (e::es) X.env=(false,eval e X.env)::ky es X.env:=by rfl)(qH:(gN pos (ky es X.env)).any (·.1)=false:=by rfl):
  PE X (.Call (.Name x p) (e::es) [] pos) (yR sp zW E t):=by
 exfalso
 refine oP (wl I hg hm ?_ jw)
 refine PySem.W.callWith_K (h₀:=X.base) I.ok.mod.yN hk (qX (ha pos pins s σ H _ I h) λus s1⟨vs,H1,I1,r,q⟩=>⟨I1.zZ,?_⟩) he qH
 exact fP F hr hb hd hx I1 r q
theorem qxt(F:xg X.prog X.w X.K X.mg X.base CX k f fd ps sp)(hr:z7 k X.A)(hg:Gl X x)(hm:X.mg x=some (.ref f))(hk:PySem.W.keepIn X.K (.ref f)=true)(hb:Binds X.K fd ps ds)(hd:Vals zW ds)(hx:Passes CX X E)
  (jw:(x==("__debug__":Str))=false:=by decide):PE X (.Call (.Name x p) [] [] pos) (yR sp zW E xx):=by
 exfalso
 refine oP (wl I hg hm ?_ jw)
 exact PySem.W.callWith_K0 I.zZ hk (fP (us:=[]) F hr hb hd hx I .nil h)
theorem iA(he:PE X o ta)(c:vJ X.K C)(hm:Meth X.K C m f)(F:xg X.prog X.w X.K X.mg X.base CX k f fd ps sp)(hr:z7 k X.A)(hb:Binds X.K fd ps ds)(hd:Vals zW ds)(hx:Passes CX X E)(ha:PA X (e::es) t)(jq:ky (e::es) X.env=(false,eval e X.env)::ky es X.env:=by rfl)(qH:(gN pos (ky es X.env)).any (·.1)=false:=by rfl)(ht:eval (.Call (.Attribute o m apos) (e::es) [] pos) X.env=(do
   let ov<-eval o X.env
   standAt apos.atName
   let(f,first)<-holding [ov] (qqK ov m pl)
   Pl pos f first (gN pos (ky (e::es) X.env)) (ac pos (gd [] X.env))):=by rfl):
  PE X (.Call (.Attribute o m apos) (e::es) [] pos) (Bb C m sp zW E ta t):=by
 exfalso
 refine PySem.W.methodCall_KW (pl:=pl) (qX (he pins s σ H _ I h) λu s1⟨x,H1,I1,rx,a,dx,fs,ex,ea,l,q⟩=>?_) ht
 subst ex
 obtain rfl:u=Value.ref a:=rx
 refine J0 I1 ea c hm l ?_
 refine PySem.W.callWith_K (first:=[.ref a]) (h₀:=X.base) I.ok.mod.yN hm.kp (qX (ha pos pins s1 σ H1 _ I1 q) λus s2⟨vs,H2,I2,r,q2⟩=>⟨I2.zZ,?_⟩) jq qH
 exact fP (us:=.ref a::us) (vs:=.ref a::vs) F hr hb hd hx I2 (.cons rfl r) q2
theorem we(he:PE X o ta)(c:vJ X.K C)(hm:Meth X.K C m f)(F:xg X.prog X.w X.K X.mg X.base CX k f fd ps sp)(hr:z7 k X.A)(hb:Binds X.K fd ps ds)(hd:Vals zW ds)(hx:Passes CX X E)(ht:eval (.Call (.Attribute o m apos) [] [] pos) X.env=(do
   let ov<-eval o X.env
   standAt apos.atName
   let(f,first)<-holding [ov] (qqK ov m pl)
   Pl pos f first (gN pos (ky [] X.env)) (ac pos (gd [] X.env))):=by rfl):
  PE X (.Call (.Attribute o m apos) [] [] pos) (Bb C m sp zW E ta xx):=by
 exfalso
 refine PySem.W.methodCall_KW (pl:=pl) (qX (he pins s σ H _ I h) λu s1⟨x,H1,I1,rx,a,dx,fs,ex,ea,l,q⟩=>?_) ht
 subst ex
 obtain rfl:u=Value.ref a:=rx
 refine J0 I1 ea c hm l ?_
 exact PySem.W.callWith_K0 (first:=[.ref a]) I1.zZ hm.kp (fP (us:=[.ref a]) (vs:=[.ref a]) F hr hb hd hx I1 (.cons rfl .nil) q)
structure Mk(K:Fg)(C f:jp):Prop where
 makes:PySem.W.makesIn K C=true
 init:PySem.W.findIn K (.ref C) "__init__"=some (some (.ref f))
 fn:PySem.W.isFn K (.ref f)=true
 kp:PySem.W.keepIn K (.ref C)=true
theorem Bf{s:zr}{Q:VK}(M:Mk X.K C f)(F:xg X.prog X.w X.K X.mg X.base CX k f fd ps sp)(hr:z7 (k+1) X.A)(hb:Binds X.K fd ps ds)(hd:Vals zW ds)(hx:Passes CX X E)(I:Inv X pins σ H s)(r:Vals vs us)(h:∀x dx,H x=none->H dx=none->dx≠x->sp (.ref x::(vs++zW)) (upd (upd H dx (.own x)) x (.ins C dx [])) (λv H2=>v= .qd/\Q (.ref x) H2) E):
  xI (vk X.prog X.w) X.A (call (.ref C) us) (EP X pins σ Q) X.xe s:=by
 have hq:=h ((~~~s)+1) (~~~s) (I.qt.fresh (eA _)) (I.qt.fresh (qL _)) (zK (X2 _))
 have I2:=Inv.made (C:=C) I
 have r2:Vals (V.ref ((~~~s)+1)::(vs++zW)) (Value.ref ((~~~s)+1)::(us++ds)):=.cons rfl (r.append hd)
 have hl:(Value.ref ((~~~s)+1)::us++ds).length=ps.length:=by
  have e:=r2.length
  rw[F.len _ _ _ _ hq]at e
  exact e.symm
 refine sx (qxg (f:=f) I.zZ M.makes M.init (XB.mp M.fn) (dE (F.run _ X.stack _ _ ⟨Value.ref ((~~~s)+1)::us,[]⟩ (Value.ref ((~~~s)+1)::(us++ds)) _ _ E (hr.make C us [])
  (I2.fD.make C us []) (hb _ (Value.ref ((~~~s)+1)::us) I2.zZ hl) r2 hq) λr s' wN=>?_))
 cases r with
 |error e=>exact hx pins σ _ _ e s' I2 wN
 |ok fl=>
  cases fl with
  |ret u=>
   obtain⟨v,H',I3,rv,ev,q3⟩:=I2.after wN
   subst ev
   exact⟨rv,⟨V.ref ((~~~s)+1),H',I3,rfl,q3⟩⟩
  |next=>exact iq wN
  |brk=>exact iq wN
  |cont=>exact iq wN
theorem J'(M:Mk X.K C f)(F:xg X.prog X.w X.K X.mg X.base CX k f fd ps sp)(hr:z7 (k+1) X.A)(hg:Gl X x)(hm:X.mg x=some (.ref C))(hb:Binds X.K fd ps ds)(hd:Vals zW ds)(hx:Passes CX X E)
  (ha:PA X (e::es) t)(jw:(x==("__debug__":Str))=false:=by decide)(he:ky (e::es) X.env=(false,eval e X.env)::ky es X.env:=by rfl)(qH:(gN pos (ky es X.env)).any (·.1)=false:=by rfl):
  PE X (.Call (.Name x p) (e::es) [] pos) (Bd C sp zW E t):=by
 exfalso
 refine oP (wl I hg hm ?_ jw)
 refine PySem.W.callWith_K (h₀:=X.base) I.ok.mod.yN M.kp (qX (ha pos pins s σ H _ I h) λus s1⟨vs,H1,I1,r,q⟩=>⟨I1.zZ,?_⟩) he qH
 exact Bf M F hr hb hd hx I1 r q
theorem qxa(M:Mk X.K C f)(F:xg X.prog X.w X.K X.mg X.base CX k f fd ps sp)(hr:z7 (k+1) X.A)(hg:Gl X x)(hm:X.mg x=some (.ref C))(hb:Binds X.K fd ps ds)(hd:Vals zW ds)(hx:Passes CX X E)
  (jw:(x==("__debug__":Str))=false:=by decide):PE X (.Call (.Name x p) [] [] pos) (Bd C sp zW E xx):=by
 exfalso
 refine oP (wl I hg hm ?_ jw)
 exact PySem.W.callWith_K0 I.zZ M.kp (Bf (us:=[]) M F hr hb hd hx I .nil h)
end
section
variable {CX:vz} {k:Nat} {ks:List Str} {sp:Sp} {E:XK} {m:Str} {p qh2:Pos} {o:hU} {lM:List Keyword} {tk:TA} {nm:Option Str}
variable {g:List zt->List zt->List zt} {gV:List V->List V->List V}
end
structure qO(N P:List Str)(sc:Scope):Prop where
 kind:sc.kind= .function
 co:sc.isCoroutine=false
 gen:sc.isGenerator=false
 nd:N.Nodup
 pre:N.take P.length=P
 Xq:∀x∈P,sc.names.lookup x=some .local\/sc.names.lookup x=some .cell
 qxe:∀y∈sc.names,y.2≠ .free
theorem Bh{kindOf:Str->Option Hd}{x:Str}:∀{binds:List (Str×zt)}{m:Str->Option zt},(∀v,(x,v)∉binds)->bindL kindOf binds m x=m x
 |[],_,_=>rfl
 |(n,v)::r,m,h=>by
  unfold bindL
  rw[Bh λw hw=>h w (jF _ hw)]
  split
  ·have :x≠n:=by rintro rfl;exact h v xK
   simp[this]
  ·rfl
theorem Bp{kindOf:Str->Option Hd}{x:Str}:∀{binds:List (Str×zt)}{m:Str->Option zt},(∀v,(x,v)∉binds)->bindC kindOf binds m x=m x
 |[],_,_=>rfl
 |(n,v)::r,m,h=>by
  unfold bindC
  rw[Bp λw hw=>h w (jF _ hw)]
  split
  ·rfl
  ·have :x≠n:=by rintro rfl;exact h v xK
   simp[this]
theorem Br{kindOf:Str->Option Hd}{x:Str}{v:zt}:∀{P:List Str}{vs:List zt}{i:Nat}{m:Str->Option zt},P.Nodup->P[i]? =some x->vs[i]? =some v->kindOf x=some .local->
  bindL kindOf (P.zip vs) m x=some v
 |[],_,_,_,_,h,_,_=>by simp at h
 |_::_,[],_,_,_,_,h,_=>by simp at h
 |p::P,w::vs,0,m,nd,h1,h2,hk=>by
  simp at h1 h2;subst h1;subst h2
  show bindL kindOf ((p,w)::P.zip vs) m p=_
  unfold bindL
  rw[Bh λv hv=>(ra.mp nd).1 (FV hv).1,vb hk]
  simp
 |p::P,w::vs,i+1,m,nd,h1,h2,hk=>by
  show bindL kindOf ((p,w)::P.zip vs) m x=_
  unfold bindL
  exact Br (i:=i) (ra.mp nd).2 (by simpa using h1) (by simpa using h2) hk
theorem Bs{kindOf:Str->Option Hd}{x:Str}{v:zt}:∀{P:List Str}{vs:List zt}{i:Nat}{m:Str->Option zt},P.Nodup->P[i]? =some x->vs[i]? =some v->kindOf x≠some .local->
  bindC kindOf (P.zip vs) m x=some v
 |[],_,_,_,_,h,_,_=>by simp at h
 |_::_,[],_,_,_,_,h,_=>by simp at h
 |p::P,w::vs,0,m,nd,h1,h2,hk=>by
  simp at h1 h2;subst h1;subst h2
  show bindC kindOf ((p,w)::P.zip vs) m p=_
  unfold bindC
  rw[Bp λv hv=>(ra.mp nd).1 (FV hv).1,ke hk]
  simp
 |p::P,w::vs,i+1,m,nd,h1,h2,hk=>by
  show bindC kindOf ((p,w)::P.zip vs) m x=_
  unfold bindC
  exact Bs (i:=i) (ra.mp nd).2 (by simpa using h1) (by simpa using h2) hk
def start(N:List Str)(vs:List V):St:=vs.map some++px (N.length-vs.length) none
def jc(CX:vz)(P:cv)(w:fe)(K:Fg)(mg:Str->Option zt)(base:ll)(N:List Str)(qual:Str)(scope:Scope)(f:jp)(cd:zt)(A:si)(outer:List Env)(s:zr)(H:Hp)(E:XK):Cx where
 prog:=P
 w:=w
 K:=K
 mg:=mg
 base:=base
 A:=A.deeper (sg qual scope (~~~s) f cd)
 N:=N
 s₀:=s
 H₀:=H
 env:=sg qual scope (~~~s) f cd
 outer:=outer
 stack:=sg qual scope (~~~s) f cd::outer
 ex:=[]
 calm:=true
 fn:=λ_=>true
 pn:=[]
 xe:=λe s'=>xI (vk P w) (A.deeper (sg qual scope (~~~s) f cd)) (leaving (sg qual scope (~~~s) f cd) e) (λ_ Xz=>CX outer H s E e Xz) (λe' Xz=>CX outer H s E e' Xz) s'
theorem Bt{sc:Scope}(h:sc.names.lookup x=some .cell):∃c,(cellsFrom n sc.names []).lookup x=some c:=by
 have q:=PySem.W.cellsFrom_some sc.names n [] (.inl h)
 exact qqG.mp q
theorem Ba{CX:vz}{base:ll}{s s1:zr}{E:XK}(S:qO N ps scope)(hd:A.handled=none)(e0:oA P w K mg base A outer s H)(hl:vs.length=ps.length)(r:Vals vs us)(x:InCallC s (~~~s) (bindL (sg qual scope (~~~s) f cd).kindOf (ps.zip us) λ_=>none) (cellsFrom ((~~~s)+1) scope.names []) (bindC (sg qual scope (~~~s) f cd).kindOf (ps.zip us) λ_=>none) s1):
  Inv (jc CX P w K mg base N qual scope f cd A outer s H E) [] (start N vs) H s1:=by
 have qH:ps.length<=N.length:=by have :=ag R' S.pre;rw[i3]at this;lia
 obtain⟨h1,tk,rfl,hk⟩:=x.done
 have lF:∀b:jp,b∉(jc CX P w K mg base N qual scope f cd A outer s H E).ex:=λb z=>absurd (show b∈([]:List jp)from z) (by simp)
 refine⟨⟨e0.mod,S.kind,rfl,rfl,qL _,λy z c h1 h2=>?_,λy hy=>?_,λy c _ h=>?_,λ_=>hd,Around.frames_deeper e0.frames,.inr ⟨rfl,rfl⟩,λb z=>absurd z (lF b),e0.bs,e0.yg,λb _ _=>lF b,λb z=>absurd z (lF b),e0.vQ,e0.uG⟩,
  rfl,e0.bare,Un.kept hk,⟨_,x.toInCall.ns,λi y v h1 h2 h3=>?_⟩,λy c h=>⟨_,x.cell y c h⟩,e0.qt.fresh (qL _),λy c h=>?_,λp hp=>absurd (show p∈([]:List (jp×Obj))from hp) (by simp),e0.qt.kept hk,?_⟩
 ·exact name_of_addr x.apart (PySem.mem_of_lookup h1) (PySem.mem_of_lookup h2)
 ·have hy:scope.names.lookup y=some .cell\/scope.names.lookup y=some .free:=hy
  rcases hy with hy|hy
  ·exact Bt hy
  ·exact absurd rfl (S.qxe _ (PySem.mem_of_lookup hy))
 ·exact qqg (x.above y c (PySem.mem_of_lookup h))
 ·have hi:i<vs.length:=by
   unfold start at h2
   by_cases hi:i<vs.length
   ·exact hi
   ·rw[Y2 (by simpa using hi)]at h2
    rw[B1]at h2
    split at h2<;>cases h2
  have ha:vs[i]? =some v:=by
   unfold start at h2
   rw[qqT (by simpa using hi),xH]at h2
   cases e:vs[i]?with
   |none=>rw[e]at h2;cases h2
   |some a=>rw[e]at h2;cases h2;rfl
  obtain⟨u,hu,rv⟩:=r.get ha
  have hp:ps[i]? =some y:=by
   rw[<-S.pre,qzx (by lia)];exact h1
  have Be:ps.Nodup:=by rw[<-S.pre];exact S.nd.sublist (List.take_sublist _ _)
  refine⟨u,rv,?_⟩
  rcases S.Xq y (kM hp)with k|k
  ·exact .inl ⟨k,Br Be hp hu k⟩
  ·obtain⟨c,e⟩:=Bt (n:=(~~~s)+1) k
   refine .inr ⟨.inl k,c,e,?_⟩
   have q:=x.cell y c e
   rw[Bs Be hp hu (by show scope.names.lookup y≠_;rw[k];decide)]at q
   exact q
 ·exact e0.qt.fresh (qqg (x.above y c (PySem.mem_of_lookup h)))
 ·unfold start
  show _=N.length
  rw[va,za,Fs]
  lia
theorem qxQ{CX:vz}{base:ll}{k:Nat}{params:Arguments}{kV doc pm zy ct oc:zt}{an od:Option jp}{wB:Array (Option zt)}{sp:Sp}(lk:K.lookup f=some ⟨oc,od,.func (PySem.W.fnOf name qual params body scope dV kV doc pm an zy ct),wB⟩)(xT:PySem.W.codeIn K zy qual=true)(S:qO N ps scope)(len:∀vs H Q E,sp vs H Q E->vs.length=ps.length)(oE:∀(A:si)(outer:List Env)(s:zr)(H:Hp)(vs:List V)(Q:VK)(E:XK),z7 k (A.deeper (sg qual scope (~~~s) f zy))->sp vs H Q E->
   ∃t,xm (jc CX P w K mg base N qual scope f zy A outer s H E) body t/\t {nx:=λ_ H'=>Q .qd H',rt:=Q} (start N vs) H):
  xg P w K mg base CX (k+1) f (PySem.W.fnOf name qual params body scope dV kV doc pm an zy ct) ps sp:=by
 refine⟨len,λA outer s H args us vs Q E hr e0 hb r vN=>?_⟩
 have hl:=len _ _ _ _ vN
 have KX:K.In s.heap:=e0.mod.yN.keeps λb o e=>(e0.bs b o e).1
 have lim:s.heap.NoLimit:=e0.mod.nolimit.keeps λb o e=>(e0.bs b o e).1
 have Xj:∀y∈ps.zip us,scope.names.lookup y.1=some .local\/(scope.names.lookup y.1=some .cell/\((cellsFrom ((~~~s)+1) scope.names []).lookup y.1).isSome=true):=λ⟨n,v⟩hy=>by
  rcases S.Xq n (FV hy).1 with q|q
  ·exact .inl q
  ·exact .inr ⟨q,PySem.W.cellsFrom_some _ _ _ (.inl q)⟩
 refine codeAny_call_function hr.depth (KX _ _ lk) rfl S.co S.gen rfl (PySem.W.codeRec_of KX xT) (hb _ _ _ _ ?_)
 refine qzU S.kind Xj λenv he s1 x=>?_
 subst he
 refine⟨lim.keeps x.toInCall.keep,codeAny_func ?_⟩
 obtain⟨t,ht,hq⟩:=oE A outer s H vs Q E (hr.deeper _) vN
 have I:Inv (jc CX P w K mg base N qual scope f zy A outer s H E) [] (start N vs) H s1:=Ba S hr.hd e0 hl r x
 refine wb (ht [] s1 (start N vs) H _ I hq) (λfl s' hs=>?_) λe s' hs=>hs
 have fin:∀{σ':St}{H':Hp}{v:V}{u:zt},Inv (jc CX P w K mg base N qual scope f zy A outer s H E) [] σ' H' s'->RelV v u->Q v H'->CE outer P w H s Q u s':=
  fun {σ' H' v u}J rv q=>⟨v,H',J.os,J.bare,J.base,J.qt,rv,q⟩
 cases fl with
 |ret u=>
  obtain⟨v,σ',H',J,rv,q⟩:=hs
  exact fin J rv q
 |next=>
  obtain⟨σ',H',J,q⟩:=hs
  exact fin (v:=V.qd) (u:=Value.none) J rfl q
 |brk=>
  obtain⟨_,_,_,q⟩:=hs
  exact iq q
 |cont=>
  obtain⟨_,_,_,q⟩:=hs
  exact iq q
section
variable {p:Pos} {id:String} {r:List V->Hp->VK->Prop}
def Qy(r:List V->Hp->VK->Prop)(t:TA):TE:=λσ H Q=>t σ H λvs H1=>r vs H1 Q
theorem jZ(hc:vG X (.builtin id) r)(hg:Gl X x)(hm:X.mg x=none)(hv:Dx x=some (.builtin id))(ha:PA X (e::es) t)(hn:x≠"__name__":=by decide)(jw:(x==("__debug__":Str))=false:=by decide)
  (he:ky (e::es) X.env=(false,eval e X.env)::ky es X.env:=by rfl)(qH:(gN pos (ky es X.env)).any (·.1)=false:=by rfl):PE X (.Call (.Name x p) (e::es) [] pos) (Qy r t):=by
 exfalso
 refine oP (oF I hg hm hv ?_ hn jw)
 exact PyProof.Rows.callWith_builtin1 (qX (ha pos pins s σ H _ I h) λus s1⟨vs,H1,I1,r1,q1⟩=>hc pins s1 σ H1 vs us Q I1 r1 q1) he qH
theorem wD(hc:vG X (.type T) r)(hg:Gl X x)(hm:X.mg x=none)(hv:Dx x=some (.type T))(ha:PA X (e::es) t)(hn:x≠"__name__":=by decide)(jw:(x==("__debug__":Str))=false:=by decide)
  (he:ky (e::es) X.env=(false,eval e X.env)::ky es X.env:=by rfl)(qH:(gN pos (ky es X.env)).any (·.1)=false:=by rfl):PE X (.Call (.Name x p) (e::es) [] pos) (Qy r t):=by
 exfalso
 refine oP (oF I hg hm hv ?_ hn jw)
 exact cx (qX (ha pos pins s σ H _ I h) λus s1⟨vs,H1,I1,r1,q1⟩=>hc pins s1 σ H1 vs us Q I1 r1 q1) he qH
end
end L2
variable {H H' H1 H0 H2:L2.Hp} {X:L2.Cx} {σ:L2.St} {v y:L2.V} {te ta tb tv:L2.TE} {o:L2.HO} {xs vs ys zW:List L2.V} {t:L2.TA} {sp:L2.Sp} {D:L2.Ends} {kvs:List (L2.Key×L2.V)} {CX:L2.vz} {wi:L2.TI} {tc:Option L2.TT}
namespace HT
open PySem PyProof.Rows
section
open PySem.SeqAt
open PySem.AutoSeq1 (wpAny_loadPart')
open PySem.MeetsSeq PySem.MeetsSeq2 PySem.MeetsSeq3
end
section
variable {E:zt->zr->Prop} {s:zr}
def zk(n d:Nat):Option Int->Nat
 |none=>d
 |some v=>if v<0 then(v+(n:Int)).toNat else min v.toNat n
theorem qxZ(n d:Nat):zk n d none=d:=rfl
theorem qxJ(n d:Nat)(hd:d<=n)(o:Option Int):zk n d o<=n:=by
 cases o with
 |none=>exact hd
 |some v=>
  show(if v<0 then(v+(n:Int)).toNat else min v.toNat n)<=n
  by_cases hv:v<0
  ·rw[vb hv];lia
  ·rw[ke hv];exact Nat.min_le_right _ _
theorem BQ(v:Int)(n d:Nat):(if v<0 then max (v+(n:Int)) 0 else min v (n:Int))=((zk n d (some v):Nat):Int):=by
 show(if v<0 then max (v+(n:Int)) 0 else min v (n:Int))=(((if v<0 then(v+(n:Int)).toNat else min v.toNat n):Nat):Int)
 by_cases hv:v<0
 ·simp only[vb hv];lia
 ·simp only[ke hv];lia
theorem qxX(lo hi:Option Int)(n:Nat):Xt lo hi 1 (n:Int)=(((zk n 0 lo:Nat):Int),((zk n n hi:Nat):Int)):=by
 have h1:¬((1:Int)<0):=by lia
 unfold Xt
 simp only[h1,if_false]
 refine Prod.ext ?_ ?_
 ·cases lo with
  |none=>rfl
  |some v=>exact BQ v n 0
 ·cases hi with
  |none=>rfl
  |some v=>exact BQ v n n
theorem qxK(i j:Nat):pf (i:Int) (j:Int) 1=j-i:=by
 unfold pf
 have h1:(1:Int)>0:=by lia
 simp only[h1,qq9,Int.ediv_one]
 split<;>lia
theorem BZ{v:zt}{o:Option Int}{Q:Option Int->zr->Prop}(p:qzR v o)(h:Q o s):xI (vk prog w) A (Builtin.Slice.slicePartIndex v) Q E s:=by
 cases p with
 |none=>exact slicePart_none h
 |int i t=>exact slicePart_int h
theorem qxV{sl:jp}{vl vu:zt}{lo hi:Option Int}{Q:Int×Int×Nat->zr->Prop}(hs:s.heap.IsSliceOf sl vl vu .none)(pl:qzR vl lo)(pu:qzR vu hi)(h:Q (((zk n 0 lo:Nat):Int),1,zk n n hi-zk n 0 lo) s):xI (vk prog w) A (P' (.ref sl) (pure (n:Int))) Q E s:=by
 obtain⟨os,ph,iE,xw⟩:=id hs
 unfold P' Builtin.Slice.sliceFields
 refine qr (qr (oa ph xw (x:=vl) rfl (qr (oa ph xw (x:=vu) rfl (qr (oa ph xw (x:=.none) rfl (xk ?_)))))))
 refine qr (slicePart_none ?_)
 show xI _ _ (if((1:Int)==0)=true then _ else _) _ _ s
 rw[ke (by decide)]
 refine qr (BZ pl (qr (BZ pu (qr (xk ?_)))))
 show xI _ _ (match Xt lo hi 1 (n:Int)with |(lo,hi)=>pure (lo,(1:Int),pf lo hi 1)) _ _ s
 rw[qxX lo hi n]
 show xI _ _ (pure (((zk n 0 lo:Nat):Int),(1:Int),pf ((zk n 0 lo:Nat):Int) ((zk n n hi:Nat):Int) 1)) _ _ s
 rw[qxK]
 exact xk h
theorem qxW(xs:Array zt)(i k:Nat):((qqv k).filterMap λ(m:Nat)=>xs[((i:Int)+(m:Int)*1).toNat]?).toArray=((xs.toList.drop i).take k).toArray:=by
 have e:(λ(m:Nat)=>xs[((i:Int)+(m:Int)*1).toNat]?)=λm=>xs[i+m]? :=by
  funext m
  have :((i:Int)+(m:Int)*1).toNat=i+m:=by lia
  rw[this]
 rw[e]
 have :=pick_run xs i k
 rw[List.filterMap_map]at this
 have e2:((λx=>xs[x]?)∘λx=>i+x)=λm=>xs[i+m]? :=rfl
 rw[e2]at this
 rw[this]
theorem qxY{t sl:jp}{items:Array zt}{vl vu:zt}{lo hi:Option Int}{Q:zt->zr->Prop}(ht:IsTup s.heap t items)(hs:s.heap.IsSliceOf sl vl vu .none)(pl:qzR vl lo)(pu:qzR vu hi)
  (hw:¬(zk items.size 0 lo=0/\zk items.size items.size hi=items.size))
  (h:Q (.ref (~~~s)) {s with heap:=s.heap.push {cls:=.type "tuple",data:=.seq ((items.toList.drop (zk items.size 0 lo)).take (zk items.size items.size hi-zk items.size 0 lo)).toArray}})
  (hsz:items.size<=sizeLine):xI (vk prog w) A (qqF (.ref t) (.ref sl)) Q E s:=by
 have Qu:sizeOk (.seq ((items.toList.drop (zk items.size 0 lo)).take (zk items.size items.size hi-zk items.size 0 lo)).toArray):=by
  show((items.toList.drop (zk items.size 0 lo)).take (zk items.size items.size hi-zk items.size 0 lo)).toArray.size<=sizeLine
  rw[jd,i3,DD,ax]
  lia
 have hj:zk items.size items.size hi<=items.size:=qxJ _ _ (qL _) hi
 obtain⟨os,ph,iE,xw⟩:=id hs
 have hTs:s.TypeIs (.ref sl) "slice":=⟨os,ph,iE⟩
 unfold qqF
 try with_reducible refine mm ?_
 first|refine qr (xk ?_)|skip
 refine qr (wpAny_sequenceKey ht.typeIs (by decide) ?_)
 refine qr (p0 (name:=uk "__getitem__") ht.typeIs en
  (du en ht.typeIs entry_tuple_getitem ?_ (args_tuple_getitem _ _)))
 show xI _ _ (Builtin.Tuple.tupleItemsOf (.ref t)>>=_) _ _ s
 refine qr (tupleItemsOf_ ht ?_)
 refine qr (wpAny_typeOf hTs ?_)
 rw[vb (by decide)]
 refine qr (qxV hs pl pu ?_)
 have lH:¬((((zk items.size 0 lo:Nat):Int)==0&&(1:Int)==1&&(zk items.size items.size hi-zk items.size 0 lo)==items.size)=true):=by
  intro q
  rw[o3,o3]at q
  have q1:((zk items.size 0 lo:Nat):Int)=0:=eq_of_beq q.1.1
  have q2:zk items.size items.size hi-zk items.size 0 lo=items.size:=eq_of_beq q.2
  exact hw ⟨by lia,by lia⟩
 show xI _ _ (if(((zk items.size 0 lo:Nat):Int)==0&&(1:Int)==1&&(zk items.size items.size hi-zk items.size 0 lo)==items.size)=true then _ else _) _ _ s
 rw[ke lH,qxW]
 first
  |exact qr (m:=rb _) (gL (xk ⟨_,rfl,xk h⟩) Qu)
  |exact qr (m:=rb _) (gL (qr (xk (xk ⟨_,rfl,xk h⟩))) Qu)
  |exact qr (qr (m:=rb _) (gL (xk (xk ⟨_,rfl,xk h⟩)) Qu))
  |exact qr (qr (m:=rb _) (gL (xk ⟨_,rfl,xk h⟩) Qu))
end
end HT
namespace L2
open PySem PySem.Spec PyProof.Rows
abbrev TO:=St->Hp->(Option Int->Hp->Prop)->Prop
def PO(X:Cx)(e:Option hU)(t:TO):Prop:=
 ∀(pins:List (jp×Obj))(s:zr)(σ:St)(H:Hp)(Q:Option Int->Hp->Prop),Inv X pins σ H s->t σ H Q->
  xI (vk X.prog X.w) X.A (evalPart e X.env) (λu s'=>∃o H',Inv X pins σ H' s'/\qzR u o/\Q o H') X.xe s
def qxO:TO:=λ_ H Q=>Q none H
def qxI(t:TE):TO:=λσ H Q=>t σ H λx H1=>∃i,x= .int i/\Q (some i) H1
section
variable {lo hi:Option hU} {tl th:TO} {p2:Pos}
theorem pe:PO X none qxO:=by
 exfalso
 rw[evalPart_none]
 exact xk ⟨none,H,I,.none,h⟩
theorem lP(h:PE X e te):PO X (some e) (qxI te):=by
 intro pins s σ H Q I hw
 rw[evalPart_some]
 refine qX (h pins s σ H _ I hw) λu s1⟨x,H1,I1,r1,q1⟩=>?_
 obtain⟨i,rfl,q⟩:=q1
 obtain⟨t,rfl⟩:=r1
 exact⟨some i,H1,I1,.int i t,q⟩
def Qo(X:Cx)(r:V->Option Int->Option Int->Hp->VK->Prop):Prop:=
 ∀(pins:List (jp×Obj))(s:zr)(σ:St)(H:Hp)(x:V)(v vl vu:zt)(lo hi:Option Int)(sl:jp)(Q:VK),Inv X pins σ H s->RelV x v->s.heap.IsSliceOf sl vl vu .none->qzR vl lo->qzR vu hi->r x lo hi H Q->
  ∃T id,cp (.type T) "__getitem__"=pure (some (.builtin id))/\s.TypeIs v T/\xI (vk X.prog X.w) X.A (qqF v (.ref sl)) (EP X pins σ Q) X.xe s
def tSl(r:V->Option Int->Option Int->Hp->VK->Prop)(te:TE)(tl th:TO):TE:=λσ H Q=>te σ H λx H1=>tl σ H1 λl H2=>th σ H2 λu H3=>r x l u H3 Q
theorem nu{r:V->Option Int->Option Int->Hp->VK->Prop}(hr:Qo X r)(he:PE X e te)(hl:PO X lo tl)(hu:PO X hi th):PE X (.Subscript e (.Slice lo hi none p2) pos) (tSl r te tl th):=by
 exfalso
 refine Subscript_ (qX (he pins s σ H _ I h) λv s1⟨x,H1,I1,r1,q1⟩=>?_)
 refine wpAny_Slice (qX (hl pins s1 σ H1 _ I1 q1) λvl s2⟨l,H2,I2,pl,q2⟩=>qX (hu pins s2 σ H2 _ I2 q2) λvu s3⟨u,H3,I3,pu,q3⟩=>?_)
 rw[evalPart_none]
 refine xk ?_
 have I4:Inv X pins σ H3 {s3 with heap:=s3.heap.push {cls:=.type "slice",data:=.fields #[vl,vu,.none]}}:=I3.kept (t':=s3.toks) λb ob q=>qF _ q
 obtain⟨T,id,hT,ht,hg⟩:=hr pins {s3 with heap:=s3.heap.push {cls:=.type "slice",data:=.fields #[vl,vu,.none]}} σ H3 x v vl vu l u (~~~s3) Q I4 r1 (Heap.IsSliceOf.new ..) pl pu q3
 show xI (vk X.prog X.w) X.A (subscriptTail e (.Slice lo hi none p2) v (.ref (~~~s3))) (EP X pins σ Q) X.xe {s3 with heap:=s3.heap.push {cls:=.type "slice",data:=.fields #[vl,vu,.none]}}
 exact tail_any (ops:=[.ref (~~~s3),v]) ht hT hg (by with_unfolding_all rfl)
def yS(xs:List V)(lo hi:Option Int):List V:=(xs.drop (HT.zk xs.length 0 lo)).take (HT.zk xs.length xs.length hi-HT.zk xs.length 0 lo)
theorem BJ(xs:List V)(lo hi:Option Int):(yS xs lo hi).length<=xs.length:=by
 unfold yS
 rw[i3,DD]
 lia
def qxL(K:Fg):V->Option Int->Option Int->Hp->VK->Prop:=λx lo hi H Q=>∃a xs,x= .ref a/\qb K H a xs/\
 ¬(HT.zk xs.length 0 lo=0/\HT.zk xs.length xs.length hi=xs.length)/\∀p,H p=none->Q (.ref p) (upd H p (.tup (yS xs lo hi)))
theorem Xx:Qo X (qxL X.K):=by
 intro pins s σ H x v vl vu lo hi sl Q I rx hs pl pu h
 obtain⟨a,xs,rfl,hx,hw,q⟩:=h
 cases rx
 obtain⟨qy,r,ht,hz⟩:=I.tuple hx
 have hlen:qy.toArray.size=xs.length:=by rw[jd];exact r.length.symm
 refine⟨"tuple",_,en.lookup,ht.typeIs,?_⟩
 refine HT.qxY ht hs pl pu (by rw[hlen];exact hw) ?_ (by rw[hlen];exact hz)
 rw[hlen]
 refine⟨.ref (~~~s),_,I.laid (t':=s.toks) (o:=.tup (yS xs lo hi)) (λb ob q=>qF _ q) (qL _) ?_,rfl,q _ (I.qt.fresh (qL _))⟩
 exact⟨vy (BJ xs lo hi) hz,_,(r.drop (HT.zk xs.length 0 lo)).take (HT.zk xs.length xs.length hi-HT.zk xs.length 0 lo),IsTup.new _ _⟩
end
def uP(n:Nat)(i:Int):Option Nat:=if 0<=i then(if i<n then some i.toNat else none)else if -(n:Int)<=i then some (i+n).toNat else none
def vB{α:Type}(xs:List α)(i:Int):Option α:=(uP xs.length i).bind λj=>xs[j]?
theorem qxG{i:Int}(h:uP n i=some j):seqIndex? i n=some j/\j<n/\ -(n:Int)<=i/\i<n:=by
 unfold uP at h
 by_cases h0:0<=i
 ·rw[vb h0]at h
  by_cases h1:i<n
  ·rw[vb h1]at h
   have e:i.toNat=j:=xb h
   exact⟨by rw[seqIndex_of h0 h1,e],by lia,by lia,h1⟩
  ·rw[ke h1]at h;cases h
 ·rw[ke h0]at h
  by_cases h1: -(n:Int)<=i
  ·rw[vb h1]at h
   have e:(i+n).toNat=j:=xb h
   exact⟨by rw[seqIndex_neg (by lia) h1,e],by lia,h1,by lia⟩
  ·rw[ke h1]at h;cases h
theorem Xk{α:Type}{xs:List α}{i:Int}{v:α}(h:vB xs i=some v):∃j,seqIndex? i xs.length=some j/\xs[j]? =some v/\j<xs.length/\ -(xs.length:Int)<=i/\i<xs.length:=by
 unfold vB at h
 cases e:uP xs.length i with
 |none=>rw[e]at h;cases h
 |some j=>
  rw[e]at h
  obtain⟨h1,h2,h3,h4⟩:=qxG e
  exact⟨j,h1,h,h2,h3,h4⟩
theorem qY{α:Type}{xs:List α}{v:α}(h:xs[j]? =some v):vB xs (j:Int)=some v:=by
 have hj:j<xs.length:=(km.mp h).1
 have e:uP xs.length (j:Int)=some j:=by
  unfold uP
  rw[vb (by lia),vb (by lia)];simp
 unfold vB;rw[e];exact h
theorem Qi{α:Type}(xs:List α)(v:α):vB (xs++[v]) (-1)=some v:=by
 have hl:(xs++[v]).length=xs.length+1:=by simp
 have e:uP (xs++[v]).length (-1)=some xs.length:=by
  unfold uP
  rw[hl,ke (by decide),vb (by lia)]
  congr 1
  lia
 unfold vB
 rw[e]
 show(xs++[v])[xs.length]? =some v
 simp
def qxM(b:hU):Prop:=∀o i,qzs b false o i=operate [o,i] (qqF o i)
def pQ(X:Cx)(r:R2):Prop:=
 ∀(value slice:hU)(pins:List (jp×Obj))(s:zr)(σ:St)(H:Hp)(x y:V)(v u:zt)(Q:VK),Inv X pins σ H s->RelV x v->RelV y u->r x y H Q->
  qzs slice false v u=operate [v,u] (qqF v u)->xI (vk X.prog X.w) X.A (subscriptTail value slice v u) (EP X pins σ Q) X.xe s
def i6(X:Cx)(id:String)(r:V->List V->Hp->VK->Prop):Prop:=
 ∀(pins:List (jp×Obj))(s:zr)(σ:St)(H:Hp)(x:V)(xs:List V)(v:zt)(us:List zt)(Q:VK),Inv X pins σ H s->RelV x v->Vals xs us->r x xs H Q->
  xI (vk X.prog X.w) X.A (call (.builtin id) (v::us)) (EP X pins σ Q) X.xe s
section
variable {a b:hU}
theorem qU{r:R2}(hr:pQ X r)(ha:PE X a ta)(hb:PE X b tb)(hs:qxM b:=by exact λ_ _=>rfl):PE X (.Subscript a b pos) (vM r ta tb):=by
 exfalso
 exact Subscript_ (JM ha hb I h λv u s2 x y H2 I2 rx ry q=>hr a b pins s2 σ H2 x y v u Q I2 rx ry q (hs _ _))
inductive qxN(K:Fg)(x:V)(y:V)(H:Hp)(Q:VK):Prop
 |mk (p:_) (xs:_) (i:_) (v:_) (qQ:x= .ref p) (qZ:y= .int i) (qV:qp K H p xs) (qG:vB xs i=some v) (zm:Q v H)
def qxB(K:Fg):R2:=λx y H Q=>qxN K x y H Q
inductive qxD(K:Fg)(x:V)(y:V)(H:Hp)(Q:VK):Prop
 |mk (p:_) (xs:_) (i:_) (v:_) (qQ:x= .ref p) (qZ:y= .int i) (qV:qb K H p xs) (qG:vB xs i=some v) (zm:Q v H)
def qxF(K:Fg):R2:=λx y H Q=>qxD K x y H Q
inductive BX(x:V)(y:V)(H:Hp)(Q:VK):Prop
 |mk (z:_) (i:_) (c:_) (qQ:x= .str z) (qZ:y= .int i) (qV:z.length<=sizeLine) (qG:vB z.cps.toList i=some c) (zm:Q (.str ⟨#[c]⟩) H):BX x y H Q
def qxH:R2:=λx y H Q=>BX x y H Q
theorem jH:pQ X (qxB X.K):=by
 intro value slice pins s σ H x y v u Q I rx ry h hs
 obtain⟨p,xs,i,z,rfl,rfl,hq,he,q⟩:=h
 cases rx
 obtain⟨t,rfl⟩:=ry
 obtain⟨qy,r,pl,hz⟩:=I.list hq
 obtain⟨j,h1,h2,h3,h4,h5⟩:=Xk he
 obtain⟨w,ew,vD⟩:=r.get h2
 have hl:=r.length
 have hn:=nv
 have fin:EP X pins σ Q w s:=⟨z,H,I,vD,q⟩
 by_cases h0:0<=i
 ·have hj:i.toNat=j:=by
   rw[seqIndex_of h0 h5]at h1
   exact xb h1
  exact item_listR pl.isList h0 (by lia) (by rw[hj];simpa using ew) fin hs
 ·have hj:(i+(qy.toArray.size:Int)).toNat=j:=by
   rw[seqIndex_neg (by lia) h4]at h1
   rw[jd,<-hl]
   exact xb h1
  exact PP (x:=w) pl.isList.typeIs slot_list_getitem.lookup
   (wpAny_getItem_list_neg (Q:=λr s'=>r=w/\EP X pins σ Q r s') pl.isList (by lia) (by rw[jd]<;>lia) (by lia) (by rw[hj];simpa using ew) ⟨rfl,fin⟩) hs
theorem zc:pQ X (qxF X.K):=by
 intro value slice pins s σ H x y v u Q I rx ry h hs
 obtain⟨p,xs,i,z,rfl,rfl,hq,he,q⟩:=h
 cases rx
 obtain⟨t,rfl⟩:=ry
 obtain⟨qy,r,pl,hz⟩:=I.tuple hq
 obtain⟨j,h1,h2,h3,h4,h5⟩:=Xk he
 obtain⟨w,ew,vD⟩:=r.get h2
 have hl:=r.length
 have hn:=nv
 have fin:EP X pins σ Q w s:=⟨z,H,I,vD,q⟩
 exact PP (x:=w) pl.typeIs slot_tuple_getitem.lookup
  (getItem_tuple (j:=j) (Q:=λr s'=>r=w/\EP X pins σ Q r s') pl (by lia) (by lia) (by rw[jd,<-hl];exact h1) (by simpa using ew) ⟨rfl,fin⟩) hs
theorem Qc:pQ X qxH:=by
 intro value slice pins s σ H x y v u Q I rx ry h hs
 obtain⟨z,i,c,rfl,rfl,hz,he,q⟩:=h
 obtain⟨t,rfl⟩:=rx
 obtain⟨t',rfl⟩:=ry
 obtain⟨j,h1,h2,h3,h4,h5⟩:=Xk he
 have hl:z.cps.toList.length=z.length:=by simp[Str.length]
 rw[hl]at h1 h4 h5
 have hn:=nv
 exact tail_any (Kk s z t) slot_str_getitem.lookup (getItem_str (c:=c) (by
  have e1:decide (i< -(2^63:Int))=false:=xn (by lia)
  have e2:decide (i≥2^63)=false:=xn (by lia)
  rw[e1,e2,Ta]) (by rw[h1];simpa using h2) ⟨.str ⟨#[c]⟩,H,I.tok _,⟨_,rfl⟩,q⟩) hs
theorem qxP(lo hi:Option Int)(n:Nat):(M' lo hi none n).1=((HT.zk n 0 lo:Nat):Int)/\(M' lo hi none n).2.1=((HT.zk n n hi:Nat):Int)/\(M' lo hi none n).2.2=1:=by
 refine⟨?_,?_,rfl⟩
 ·cases lo with
  |none=>simp[M',HT.zk]
  |some i=>
   simp only[M',HT.zk,Option.getD_none,show(1:Int)>0 by decide,qq9]
   by_cases h:i<0
   ·simp only[h,qq9]<;>lia
   ·simp only[h,if_false]<;>lia
 ·cases hi with
  |none=>simp[M',HT.zk]
  |some i=>
   simp only[M',HT.zk,Option.getD_none,show(1:Int)>0 by decide,qq9]
   by_cases h:i<0
   ·simp only[h,qq9]<;>lia
   ·simp only[h,if_false]<;>lia
theorem qxR(qy:List zt)(lo hi:Option Int):slicePick qy.toArray lo hi none=((qy.drop (HT.zk qy.length 0 lo)).take (HT.zk qy.length qy.length hi-HT.zk qy.length 0 lo)).toArray:=by
 obtain⟨h1,h2,h3⟩:=qxP lo hi qy.toArray.size
 unfold slicePick
 rw[h1,h2,h3]
 simp only[sliceRange_one,pick_run,jd]<;>rfl
def qxS(K:Fg):V->Option Int->Option Int->Hp->VK->Prop:=λx lo hi H Q=>∃a xs,x= .ref a/\qp K H a xs/\∀p,H p=none->Q (.ref p) (upd H p (.lst (yS xs lo hi)))
theorem qxT:Qo X (qxS X.K):=by
 intro pins s σ H x v vl vu lo hi sl Q I rx hs pl pu h
 obtain⟨a,xs,rfl,hx,q⟩:=h
 cases rx
 obtain⟨qy,r,ht,hz⟩:=I.list hx
 have hlen:=r.length
 refine⟨"list",_,slot_list_getitem.lookup,ht.isList.typeIs,?_⟩
 refine wpAny_getItem_list_slice ht.isList hs pl pu .none (by simp) ?_ (by rw[jd]<;>lia)
 rw[qxR,<-hlen]
 refine⟨.ref (~~~s),_,I.laid (t':=s.toks) (o:=.lst (yS xs lo hi)) (λb ob q=>qF _ q) (qL _) ?_,rfl,q _ (I.qt.fresh (qL _))⟩
 exact⟨vy (BJ xs lo hi) hz,_,0,(r.drop (HT.zk xs.length 0 lo)).take (HT.zk xs.length xs.length hi-HT.zk xs.length 0 lo),jg _ rfl⟩
def iw:V->Bool
 | .qd=>true
 | .bl _=>true
 | .int _=>true
 | .str _=>true
 |_=>false
def uR:V->V->Bool
 | .qd,.qd=>true
 | .bl a,.bl b=>a==b
 | .bl a,.int b=>(if a then 1 else 0)==b
 | .int a,.bl b=>a==(if b then 1 else 0)
 | .int a,.int b=>a==b
 | .str a,.str b=>a==b
 |_,_=>false
theorem qxA{s:zr}{x:V}{v:zt}(ry:RelV y u)(rx:RelV x v)(fy:iw y=true)(fx:iw x=true):F' A s u v (uR y x):=by
 cases y with
 |qd=>
  cases ry
  cases x with
  |qd=>cases rx;exact TC _
  |bl b=>cases rx;exact qqB b
  |int b=>obtain⟨t,rfl⟩:=rx;exact qq4 b t
  |str b=>obtain⟨t,rfl⟩:=rx;exact qq5 b t
  |_=>exact absurd (show false=true from fx) kf
 |bl a=>
  cases ry
  cases x with
  |qd=>cases rx;exact qqN a
  |bl b=>cases rx;exact qqM a b
  |int b=>obtain⟨t,rfl⟩:=rx;exact qq0 a b t
  |str b=>obtain⟨t,rfl⟩:=rx;exact qq1 a b t
  |_=>exact absurd (show false=true from fx) kf
 |int a=>
  obtain⟨t',rfl⟩:=ry
  cases x with
  |qd=>cases rx;exact qq3 a t'
  |bl b=>cases rx;exact qq2 a t' b
  |int b=>obtain⟨t,rfl⟩:=rx;exact qzk a t' b t
  |str b=>obtain⟨t,rfl⟩:=rx;exact Hk a t' b t
  |_=>exact absurd (show false=true from fx) kf
 |str a=>
  obtain⟨t',rfl⟩:=ry
  cases x with
  |qd=>cases rx;exact qq7 a t'
  |bl b=>cases rx;exact qq6 a t' b
  |int b=>obtain⟨t,rfl⟩:=rx;exact Hm a t' b t
  |str b=>obtain⟨t,rfl⟩:=rx;exact qzv a t' b t
  |_=>exact absurd (show false=true from fx) kf
 |_=>exact absurd (show false=true from fy) kf
def vF(x:V)(u:zt):Bool:=match u with
 | .none=>uR .qd x
 | .bool b=>uR (.bl b) x
 | .int i _=>uR (.int i) x
 | .str z _=>uR (.str z) x
 |_=>false
theorem BK{x:V}(r:RelV y u)(f:iw y=true):vF x u=uR y x:=by
 cases y with
 |qd=>cases r;rfl
 |bl b=>cases r;rfl
 |int i=>obtain⟨t,rfl⟩:=r;rfl
 |str z=>obtain⟨t,rfl⟩:=r;rfl
 |_=>exact absurd (show false=true from f) kf
theorem pZ{x:V}:∀{xs:List V}{us:List zt},Vals xs us->xs.all iw=true->us.any (vF x)=xs.any λy=>uR y x
 |_,_,.nil,_=>rfl
 |y::xs,u::us,.cons r t,f=>by
  rw[qzl,o3]at f
  rw[Kt,Kt,BK r f.1,pZ t f.2]
theorem pJ{A:si}{s:zr}{x:V}{v:zt}(rx:RelV x v)(fx:iw x=true):∀{xs:List V}{us:List zt},Vals xs us->xs.all iw=true->∀u∈us,F' A s u v (vF x u)
 |_,_,.nil,_=>λu hu=>by cases hu
 |y::xs,u::us,.cons r t,f=>λu' hu=>by
  rw[qzl,o3]at f
  rcases js.mp hu with rfl|hu
  ·rw[BK r f.1];exact qxA r rx f.1 fx
  ·exact pJ rx fx t f.2 u' hu
def kX(x:V)(xs:List V):Bool:=xs.any λy=>uR y x
inductive qxE(K:Fg)(neg:Bool)(x:V)(y:V)(H:Hp)(Q:VK):Prop
 |mk (p:_) (xs:_) (qQ:y= .ref p) (qZ:(qp K H p xs\/qb K H p xs)) (qV:iw x=true) (qG:xs.all iw=true) (zm:Q (.bl (if neg then !kX x xs else kX x xs)) H)
def BV(K:Fg)(neg:Bool):R2:=λx y H Q=>qxE K neg x y H Q
theorem ni:jf X (cq .In) (BV X.K false):=by
 intro pins s σ H x y v u Q I rx ry h
 obtain⟨p,xs,rfl,hq,fx,fs,q⟩:=h
 cases ry
 rcases hq with hq|hq
 ·obtain⟨qy,r,pl,hz⟩:=I.list hq
  refine SeqAt.in_listAt (vF x) pl.isList (λw hw=>pJ rx fx r fs w (by simpa using hw)) ⟨.bl _,H,I,rfl,?_⟩
  rw[show qy.toArray.any (vF x)=qy.any (vF x) by simp,pZ r fs]
  exact q
 ·obtain⟨qy,r,pl,hz⟩:=I.tuple hq
  refine SeqAt.in_tupleAt (vF x) pl (λw hw=>pJ rx fx r fs w (by simpa using hw)) ⟨.bl _,H,I,rfl,?_⟩
  rw[show qy.toArray.any (vF x)=qy.any (vF x) by simp,pZ r fs]
  exact q
theorem BW:jf X (cq .NotIn) (BV X.K true):=by
 intro pins s σ H x y v u Q I rx ry h
 obtain⟨p,xs,rfl,hq,fx,fs,q⟩:=h
 cases ry
 rcases hq with hq|hq
 ·obtain⟨qy,r,pl,hz⟩:=I.list hq
  refine SeqAt.notIn_listAt (vF x) pl.isList (λw hw=>pJ rx fx r fs w (by simpa using hw)) ⟨.bl _,H,I,rfl,?_⟩
  rw[show qy.toArray.any (vF x)=qy.any (vF x) by simp,pZ r fs]
  exact q
 ·obtain⟨qy,r,pl,hz⟩:=I.tuple hq
  refine SeqAt.notIn_tupleAt (vF x) pl (λw hw=>pJ rx fx r fs w (by simpa using hw)) ⟨.bl _,H,I,rfl,?_⟩
  rw[show qy.toArray.any (vF x)=qy.any (vF x) by simp,pZ r fs]
  exact q
theorem qx0:jf X (cq .NotIn) (λx y H Q=>∃i j,x= .str i/\y= .str j/\Q (.bl (!(!(Ya j i 0 j.length 1).isEmpty))) H):=by
 intro pins s σ H x y v u Q I rx ry h
 obtain⟨i,j,rfl,rfl,q⟩:=h
 obtain⟨t,rfl⟩:=rx
 obtain⟨t',rfl⟩:=ry
 exact notIn_str ⟨.bl _,H,I,rfl,q⟩
inductive qx1(K:Fg)(xs:List V)(H:Hp)(Q:VK):Prop
 |mk (p:jp) (ys:List V) (qQ:xs=[.ref p]) (qZ:qp K H p ys\/qb K H p ys) (qV:Q (.int ys.length) H)
theorem wQ:vG X (.builtin "len") (λxs H Q=>qx1 X.K xs H Q):=by
 intro pins s σ H xs us Q I r h
 obtain⟨p,ys,rfl,hq,q⟩:=h
 obtain⟨u,rfl,rx⟩:=vals1 r
 cases rx
 have hn:=nv
 rcases hq with hq|hq
 ·obtain⟨qy,r',pl,hz⟩:=I.list hq
  have hlen:=r'.length
  exact Calls.call_len_list pl.isList (by simp only[jd]<;>lia) ⟨.int ys.length,H,I.tok _,⟨s.toks+1,by rw[jd,hlen]⟩,q⟩
 ·obtain⟨qy,r',pl,hz⟩:=I.tuple hq
  have hlen:=r'.length
  exact len_tuple pl (by simp only[jd]<;>lia) ⟨.int ys.length,H,I.tok _,⟨s.toks+1,by rw[jd,hlen]⟩,q⟩
theorem i7:vG X (.builtin "len") (λxs H Q=>∃z,xs=[.str z]/\z.length<=sizeLine/\Q (.int z.length) H):=by
 intro pins s σ H xs us Q I r h
 obtain⟨z,rfl,hz,q⟩:=h
 obtain⟨u,rfl,t,rfl⟩:=vals1 r
 have hn:=nv
 exact len_str (by lia) ⟨.int z.length,H,I.tok _,⟨_,rfl⟩,q⟩
theorem BY:vG X (.type "list") (λxs H Q=>∃p ys,xs=[.ref p]/\(qp X.K H p ys\/qb X.K H p ys)/\∀l,H l=none->Q (.ref l) (upd H l (.lst ys))):=by
 intro pins s σ H xs us Q I r h
 obtain⟨p,ys,rfl,hq,q⟩:=h
 obtain⟨u,rfl,rx⟩:=vals1 r
 cases rx
 have fin:∀(qy:List zt),Vals ys qy->ys.length<=sizeLine->∀(h':ll)(c':Nat),(∀b o',s.heap.get? b=some o'->h'.get? b=some o')->
   h'.get? (~~~s)=some {cls:=.type "list",dict:=none,data:=.seq qy.toArray c',slots:= #[]}->EP X pins σ Q (.ref (~~~s)) {s with heap:=h'}:=λqy r' hz h' c' kp e=>
  ⟨.ref (~~~s),_,I.laid (t':=s.toks) kp (qL _) (show jW X.prog X.w _ h' _ (.lst ys)from⟨hz,qy,c',r',e⟩),rfl,q _ (I.qt.fresh (qL _))⟩
 rcases hq with hq|hq
 ·obtain⟨qy,r',pl,hz⟩:=I.list hq
  have hlen:=r'.length
  obtain⟨o,ho,hc,n,hd⟩:=pl.isList
  exact call_list_seq p (.inl rfl) ho hc hd (λh' c' kp e=>fin qy r' hz h' c' kp e) (by simp only[jd]<;>lia)
 ·obtain⟨qy,r',pl,hz⟩:=I.tuple hq
  have hlen:=r'.length
  obtain⟨o,ho,hc,n,hd⟩:=pl
  exact call_list_seq p (.inr rfl) ho hc hd (λh' c' kp e=>fin qy r' hz h' c' kp e) (by simp only[jd]<;>lia)
theorem Ql:vG X (.type "tuple") (λxs H Q=>∃p ys,xs=[.ref p]/\((qp X.K H p ys/\∀l,H l=none->Q (.ref l) (upd H l (.tup ys)))\/(qb X.K H p ys/\Q (.ref p) H))):=by
 intro pins s σ H xs us Q I r h
 obtain⟨p,ys,rfl,h⟩:=h
 obtain⟨u,rfl,rx⟩:=vals1 r
 cases rx
 rcases h with⟨hq,q⟩|⟨hq,q⟩
 ·obtain⟨qy,r',pl,hz⟩:=I.list hq
  have hlen:=r'.length
  refine call_tuple_list pl.isList (λh' kp=>?_) (by simp only[jd]<;>lia)
  have I1:Inv X pins σ H {s with heap:=h'}:=I.kept (t':=s.toks) kp
  have I2:Inv X pins σ (upd H h'.objs.size (.tup ys)) {s with heap:=h'.push {cls:=.type "tuple",data:=.seq qy.toArray}}:=
   I1.laid (t':=s.toks) (λb o e=>qF _ e) (qL _) (show jW X.prog X.w _ _ _ (.tup ys)from⟨hz,qy,r',IsTup.new _ _⟩)
  exact⟨.ref h'.objs.size,_,I2,rfl,q _ (I1.qt.fresh (qL _))⟩
 ·obtain⟨qy,r',pl,hz⟩:=I.tuple hq
  exact call_tuple_same pl ⟨.ref p,H,I,rfl,q⟩
def Xv(K:Fg)(T:String)(x:V)(H:Hp):Prop:=match x with
 | .str _=>T="str"
 | .int _=>T="int"
 | .ref p=>(T="list"/\∃xs,qp K H p xs)\/(T="tuple"/\∃o,K.lookup p=some o/\o.cls= .type "tuple"/\o.dict=none)\/
   (T="dict"/\((∃kvs,H p=some (.dK kvs))\/∃kvs,H p=some (.dT kvs)))\/(T="set"/\∃S n,H p=some (.set S n))
 |_=>False
theorem BU{s:zr}{x:V}{v:zt}(I:Inv X pins σ H s)(r:RelV x v)(ty:Xv X.K T x H):
  s.TypeIs v T/\∀a,v= .ref a->∃ob,s.heap.get? a=some ob/\ob.dict=none:=by
 cases x with
 |str z=>
  obtain⟨t,rfl⟩:=r
  cases (show T="str" from ty)
  exact⟨Kk s z t,λ_ e=>nomatch e⟩
 |int i=>
  obtain⟨t,rfl⟩:=r
  cases (show T="int" from ty)
  exact⟨typeIs_int s i t,λ_ e=>nomatch e⟩
 |ref p=>
  cases r
  rcases ty with⟨rfl,xs,hq⟩|⟨rfl,o,hk,hc,hd⟩|⟨rfl,hk⟩|⟨rfl,S,n,hk⟩
  ·obtain⟨qy,_,pl,_⟩:=I.list hq
   refine⟨pl.isList.typeIs,λa e=>?_⟩
   cases e
   obtain⟨o,n,e,c,hd,_⟩:=pl
   exact⟨o,e,hd⟩
  ·refine⟨⟨o,I.zZ p o hk,hc⟩,λa e=>?_⟩
   cases e
   exact⟨o,I.zZ _ o hk,hd⟩
  ·have z:∃o,s.heap.get? p=some o/\o.ExactDict:=by
    rcases hk with⟨kvs,hk⟩|⟨kvs,hk⟩
    ·obtain⟨_,_,_,_,o,_,_,e,ex,_⟩:=I.qt p _ hk
     exact⟨o,e,ex⟩
    ·obtain⟨_,_,_,_,o,_,_,e,ex,_⟩:=I.qt p _ hk
     exact⟨o,e,ex⟩
   obtain⟨o,e,ex⟩:=z
   refine⟨⟨o,e,ex.1⟩,λa e2=>?_⟩
   cases e2
   exact⟨o,e,ex.2.1⟩
  ·obtain⟨o,_,_,_,e,ex,_⟩:=I.qt p _ hk
   refine⟨⟨o,e,ex.1⟩,λa e2=>?_⟩
   cases e2
   exact⟨o,e,ex.2.1⟩
 |_=>exact iq ty
def pX(K:Fg)(T:String)(r:V->List V->Hp->VK->Prop)(to:TE):TE:=λσ H Q=>to σ H λx H1=>Xv K T x H1/\r x [] H1 Q
def pK(K:Fg)(T:String)(r:V->List V->Hp->VK->Prop)(to:TE)(t:TA):TE:=λσ H Q=>to σ H λx H1=>Xv K T x H1/\t σ H1 λxs H2=>r x xs H2 Q
variable {o:hU} {to:TE} {kK:Pos} {id:String} {r:V->List V->Hp->VK->Prop}
theorem yE(pa:PlainAttrs T)(slot:Slot T name id)(Xw:typeOf (.builtin id)=pure (.type "method_descriptor"))(hm:i6 X id r)(ho:PE X o to)
  (y9:OK o name X.env (eval o X.env)=eval o X.env:=by rfl)(pV:(apos.endLine==kK.line)=true:=by rfl):PE X (.Call (.Attribute o name apos) [] [] kK) (pX X.K T r to):=by
 exfalso
 refine wpAny_Call_method0_late y9 pV (qX (ho pins s σ H _ I h) λv s1⟨x,H1,I1,r1,ty,q1⟩=>?_)
 obtain⟨h1,h2⟩:=BU I1 r1 ty
 exact⟨T,id,pa,slot,Xw,h1,h2,eM rfl (PySem.evalArgs_none (hm pins s1 σ H1 x [] v [] Q I1 r1 .nil q1))⟩
theorem jA(pa:PlainAttrs T)(slot:Slot T name id)(Xw:typeOf (.builtin id)=pure (.type "method_descriptor"))(hm:i6 X id r)(ho:PE X o to)(ha:PA X (e::es) t)
  (y9:OK o name X.env (eval o X.env)=eval o X.env:=by rfl)
  (Xy:((gN kK (ky (e::es) X.env)).all (λx=> !x.1)&&(ac kK (gd [] X.env)).all (λx=>x.1.isSome)
   &&decide ((e::es).length+([]:List Keyword).length+(if([]:List Keyword).isEmpty then 0 else 1)<30))=true:=by rfl)
  (pV:(apos.endLine==kK.line)=true:=by rfl)(hs:ky (e::es) X.env=(false,eval e X.env)::ky es X.env:=by rfl)(pW:(gN kK (ky es X.env)).any (·.1)=false:=by rfl):
  PE X (.Call (.Attribute o name apos) (e::es) [] kK) (pK X.K T r to t):=by
 exfalso
 refine wpAny_Call_method_late y9 Xy pV rfl (qX (ho pins s σ H _ I h) λv s1⟨x,H1,I1,r1,ty,q1⟩=>?_)
 obtain⟨h1,h2⟩:=BU I1 r1 ty
 refine⟨T,id,pa,slot,Xw,h1,h2,?_⟩
 have hA:=ha kK pins s1 σ H1 _ I1 q1
 rw[hs]at hA⊢
 refine eM (by show(false||(gN kK (ky es X.env)).any (·.1))=false;rw[pW]<;>rfl) (Hn ?_)
 exact qX hA λus s2⟨vs,H2,I2,r2,q2⟩=>hm pins s2 σ H2 x vs v us Q I2 r1 r2 q2
end
def Qg(X:Cx)(id:String)(r:V->List V->Hp->VK->Prop):Prop:=
 ∀(pins:List (jp×Obj))(s:zr)(σ:St)(H:Hp)(x:V)(xs:List V)(v:zt)(us:List zt)(Q:VK),Inv X pins σ H s->RelV x v->Vals xs us->r x xs H Q->
  xI (vk X.prog X.w) X.A (call (.builtin id) (v::us)) (EP X pins σ Q) X.xe s
theorem Vals.one:∀{x:V}{us:List zt},Vals [x] us->∃u,us=[u]/\RelV x u
 |_,_,.cons r .nil=>⟨_,rfl,r⟩
theorem Vals.two:∀{x y:V}{us:List zt},Vals [x,y] us->∃u v,us=[u,v]/\RelV x u/\RelV y v
 |_,_,_,.cons r (.cons q .nil)=>⟨_,_,rfl,r,q⟩
theorem Vals.zero:∀{us:List zt},Vals [] us->us=[]
 |_,.nil=>rfl
theorem Vals.dropLast(h:Vals xs us):Vals xs.dropLast us.dropLast:=by
 induction h with
 |nil=>exact .nil
 |cons r t ih=>
  cases t with
  |nil=>exact .nil
  |cons q t'=>exact .cons r ih
theorem Vals.reverse(h:Vals xs us):Vals xs.reverse us.reverse:=by
 induction h with
 |nil=>exact .nil
 |cons r t ih=>rw[mx,mx];exact Vals.append ih (.cons r .nil)
theorem qx2{α:Type}(l:List α):l.eraseIdx (l.length-1)=l.dropLast:=by
 induction l with
 |nil=>rfl
 |cons a r ih=>
  cases r with
  |nil=>rfl
  |cons b r=>
   have e:(a::b::r).length-1=((b::r).length-1)+1:=by
    have h1:(a::b::r).length=r.length+2:=rfl
    have h2:(b::r).length=r.length+1:=rfl
    lia
   rw[e,List.eraseIdx_cons_succ,ih]
   all_goals rfl
section
variable {s:zr} {b:jp} {zs:List V}
theorem Inv.Qm{qy its':List zt}{f:Array zt->Array zt}{t':Nat}(I:Inv X pins σ H s)(hH:H l=some (.lst xs))(e:s.heap.get? l=some {cls:=.type "list",data:=.seq qy.toArray n})(hf:f qy.toArray=its'.toArray)(hv:Vals ys its')(hz:ys.length<=sizeLine):
  Inv X pins σ (upd H l (.lst ys)) {s with heap:=s.heap.update l (PQ f),toks:=t'}:=by
 have q:=PySem.IsL.update e f
 rw[hf]at q
 refine I.write (x:=l) (e:=l) (by rw[hH];exact trivial) (.inl rfl) (λb' u hb hu=>(yB s.heap (PQ f) (y7 hb)).trans hu) ⟨_,q⟩ ?_
 exact⟨hz,its',_,hv,q⟩
theorem Inv.qx3{qy:List zt}{t':Nat}(I:Inv X pins σ H s)(hv:Vals ys qy)(hz:ys.length<=sizeLine):
  Inv X pins σ (upd H (~~~s) (.lst ys)) {s with heap:=s.heap.push {cls:=.type "list",data:=.seq qy.toArray},toks:=t'}:=
 I.laid (λ_ _ q=>qF _ q) (qL _) ⟨hz,qy,0,hv,jg _ rfl⟩
theorem Inv.fresh(I:Inv X pins σ H s):H (~~~s)=none:=I.qt.fresh (qL _)
theorem Inv.lR(I:Inv X pins σ H s)(hH:H l=some (.lst xs)):xs.length<=sizeLine/\∃(qy:List zt)(n:Nat),Vals xs qy/\xs.length=qy.length/\s.heap.get? l=some {cls:=.type "list",data:=.seq qy.toArray n}:=by
 obtain⟨z,qy,n,r,e⟩:=I.qt l _ hH
 exact⟨z,qy,n,r,r.length,e⟩
theorem BO(h:n<=sizeLine):mI n=false:=by
 unfold mI
 exact xn (by lia)
end
inductive BI(x:V)(vs:List V)(H:Hp)(Q:VK):Prop
 |mk (l:_) (xs:_) (y:_) (qQ:x= .ref l) (qZ:vs=[y]) (qV:H l=some (.lst xs)) (qG:xs.length<sizeLine) (zm:Q .qd (upd H l (.lst (xs++[y])))):BI x vs H Q
def nc:V->List V->Hp->VK->Prop:=λx vs H Q=>BI x vs H Q
theorem vj:Qg X "list.append" nc:=by
 intro pins s σ H x vs v us Q I rx rv h
 obtain⟨l,xs,y,rfl,rfl,hH,hz,q⟩:=h
 cases rx
 obtain⟨u,rfl,ru⟩:=rv.one
 obtain⟨z,qy,n,r,hl,e⟩:=I.lR hH
 refine Kj F.slot_list_append ⟨_,e,rfl⟩ F.entry_list_append (F.args_list_append_2 _ _) (PySem.list_append l qy.toArray n u (by rw[jd];lia)) ⟨e,?_⟩
 refine⟨.qd,_,I.Qm (its':=qy++[u]) hH e (by simp) (r.append (.cons ru .nil)) ?_,rfl,q⟩
 rw[va,FK]
 lia
inductive BC(x:V)(vs:List V)(H:Hp)(Q:VK):Prop
 |mk (l:_) (b:_) (xs:_) (zs:_) (qQ:x= .ref l) (qZ:vs=[.ref b]) (qV:H l=some (.lst xs)) (qG:H b=some (.lst zs)) (zm:xs.length+zs.length<=sizeLine) (je:Q .qd (upd H l (.lst (xs++zs)))):BC x vs H Q
def BL:V->List V->Hp->VK->Prop:=λx vs H Q=>BC x vs H Q
theorem BG:Qg X "list.extend" BL:=by
 intro pins s σ H x vs v us Q I rx rv h
 obtain⟨l,b,xs,zs,rfl,rfl,hH,hB,hz,q⟩:=h
 cases rx
 obtain⟨u,rfl,ru⟩:=rv.one
 cases ru
 obtain⟨z,qy,n,r,hl,e⟩:=I.lR hH
 obtain⟨z2,xf,n2,r2,vo,e2⟩:=I.lR hB
 have hsz:qy.toArray.size+xf.toArray.size<=sizeLine:=by rw[jd,jd];lia
 have Xu:¬(!qy.toArray.isEmpty&&mI (qy.toArray.size+xf.toArray.size))=true:=by
  rw[BO hsz,qqP]
  exact kf
 refine Kj F.slot_list_extend ⟨_,e,rfl⟩ F.entry_list_extend (F.args_list_extend_2 _ _)
  (AutoSeq1.list_extend_list_list_0 l qy.toArray n b xf.toArray n2 Xu (by rw[jd];lia) (by lia)) ⟨e,e2,?_⟩
 refine⟨.qd,_,I.Qm (its':=qy++xf) hH e (by simp) (r.append r2) ?_,rfl,q⟩
 rw[va]
 lia
inductive BN(x:V)(vs:List V)(H:Hp)(Q:VK):Prop
 |mk (l:_) (xs:_) (y:_) (qQ:x= .ref l) (qZ:vs=[]) (qV:H l=some (.lst xs)) (qG:xs[xs.length-1]? =some y) (zm:Q y (upd H l (.lst xs.dropLast))):BN x vs H Q
def pY:V->List V->Hp->VK->Prop:=λx vs H Q=>BN x vs H Q
theorem uq:Qg X "list.pop" pY:=by
 intro pins s σ H x vs v us Q I rx rv h
 obtain⟨l,xs,y,rfl,rfl,hH,hy,q⟩:=h
 cases rx
 have jh:=rv.zero
 subst jh
 obtain⟨z,qy,n,r,hl,e⟩:=I.lR hH
 obtain⟨u,hu,ru⟩:=r.get hy
 have yp:qy.toArray[qy.toArray.size-1]? =some u:=by
  show qy.toArray[qy.length-1]? =some u
  rw[<-Fm,<-hl]
  exact hu
 refine Kj F.slot_list_pop ⟨_,e,rfl⟩ F.entry_list_pop (F.args_list_pop_1 _) (MeetsSeq.list_pop_last l qy.toArray n u yp (by rw[jd];lia)) ⟨e,?_⟩
 refine⟨y,_,I.Qm (its':=qy.dropLast) hH e ?_ r.dropLast ?_,ru,q⟩
 ·show qy.toArray.eraseIdxIfInBounds (qy.toArray.size-1)=qy.dropLast.toArray
  rw[jd,List.eraseIdxIfInBounds_toArray,qx2]
 ·rw[List.length_dropLast]
  lia
inductive BB(x:V)(y:V)(H:Hp)(Q:VK):Prop
 |mk (l:_) (b:_) (xs:_) (zs:_) (qQ:x= .ref l) (qZ:y= .ref b) (qV:H l=some (.lst xs)) (qG:H b=some (.lst zs)) (zm:xs.length+zs.length<=sizeLine) (je:∀p,H p=none->Q (.ref p) (upd H p (.lst (xs++zs)))):BB x y H Q
def Qn:R2:=λx y H Q=>BB x y H Q
theorem j4:jf X (HI .Add) Qn:=by
 intro pins s σ H x y v u Q I rx ry h
 obtain⟨l,b,xs,zs,rfl,rfl,hH,hB,hz,q⟩:=h
 cases rx
 cases ry
 obtain⟨z,qy,n,r,hl,e⟩:=I.lR hH
 obtain⟨z2,xf,n2,r2,vo,e2⟩:=I.lR hB
 refine PySem.P.add_list e e2 ?_ (by rw[jd,jd];lia)
 have ea:qy.toArray++xf.toArray=(qy++xf).toArray:=by simp
 rw[ea]
 exact⟨.ref _,_,I.qx3 (t':=s.toks) (r.append r2) (by rw[va];lia),rfl,q _ I.fresh⟩
section
variable {E:zt->zr->Prop} {s:zr}
set_option maxRecDepth 100000 in
end
end L2
namespace Att
open PySem PySem.W PySem.Calls PyProof.Rows
theorem qx4{P:Params}:∀(ns:List Int)(vs:List zt),WellAll P h vs (ns.map WData.int)->IntsAre vs ns:=by
 intro ns
 induction ns with
 |nil=>
  intro vs w
  rw[eJ]at w
  cases w
  exact .nil
 |cons n ns ih=>
  intro vs w
  rw[wq]at w
  cases w with
  |cons a b=>
   cases a
   exact .cons _ _ (ih _ b)
theorem qx5{l:OpenLaw}(hn:l.most=some n){P:Params}{args:List WData}{vals:List zt}(Qd:l.row.toRowW.claim.pre args=true)(i8:WellAll P h vals args):
  ∃a vs ns,vals=[Value.ref a]/\args=[WData.list (ns.map WData.int)]/\h.get? a=some {cls:=.type "list",data:=.seq vs.toArray}/\IntsAre vs ns/\ns.length<=n:=by
 have hsh:WShape.hasAll [] args [.list .int]=true:=(pre_splitW Qd).1
 have hc:l.pre.holds [] {args:=args}=true:=(pre_splitW Qd).2
 obtain⟨d,r,rfl,h1,h2⟩:=hasAllW_cons hsh
 obtain rfl:=hasAllW_nil h2
 obtain⟨xs,rfl,h3⟩:=hasW_list h1
 obtain⟨ns,rfl⟩:=items_int h3
 have hlen:ns.length<=n:=by
  unfold OpenLaw.pre at hc
  have h4:(WTm.not (.lt (.lit (.int (n:Int))) (.len (.arg 0)))).holds [] {args:=[.list (ns.map .int)]}=true:=by
   have h4:=(holds_andW hc).1
   rw[hn]at h4
   exact h4
  have h5:=condW_of h4 (w_not (w_lt w_lit (w_len_list (w_arg rfl))))
  rw[za]at h5
  refine Nat.le_of_not_lt λq=>?_
  have q':(n:Int)<((ns.length:Nat):Int):=by lia
  first
   |(rw[vw q']at h5;exact absurd h5 (by decide))
   |(simp at h5;lia)
 cases i8 with
 |cons w1 w2=>
  cases w2
  cases w1 with
  |list ho uS=>exact⟨_,_,ns,rfl,rfl,ho,qx4 ns _ uS,hlen⟩
theorem qx7(l:OpenLaw)(args:List WData):l.row.toRowW.claim.post args (.bool true) args=true:=
 postW_of (r:=l.row.toRowW) (X:=(true==true))
  (show WShape.has [] (.bool true) .bool=true by first|rfl|decide|simp[WShape.has,WShape.arms,WShape.armsAll])
  (show(WTm.eq .res (.lit (.bool true))).value [] {args:=args,res:=some (.bool true),after:=args}=some (.bool (true==true))from w_eq_bool (w_res rfl) w_lit) rfl
theorem qx8{l:OpenLaw}{q:cv}{loose:List Str}{XP:(Str->Option zt)->ll->Prop}{YP:fe->ll->Prop}{d:DefRec}(hn:l.most=some n)(pU:d.params.defaults=[])(call:∀(w:fe)(s₀ s₁:zr)(mg mb:Str->Option zt)(fa:jp)(o:Obj)(pm cd doc:zt)(a:jp)(vs:List zt)(ns:List Int),
   Ground q loose [] XP w s₀ mg mb s₁.heap->YP w s₁.heap->
   s₁.heap.get? fa=some o->o.data= .func (docDef d.name d.params d.body d.scope pm cd doc)->s₁.heap.CodeRec cd d.name->mg d.name=some (.ref fa)->
   s₁.heap.get? a=some {cls:=.type "list",data:=.seq vs.toArray}->IntsAre vs ns->ns.length<=n->s₁.gens= #[]->
   Qr (vk l.prog w) qzp (.call (.ref fa) ⟨[.ref a],[]⟩) (λr s'=>r= .ok (.ret (.bool true))/\OldK s₁.heap s'.heap/\s'.os=s₁.os/\Sr s'.gens) s₁):
  WalkO q loose XP YP l.row.toRowW d [] (λf vs=>PySem.call f vs):=by
 intro w s₀ s₁ mg mb G Y fa o pm cd doc dV kV ho hd xT hD pO hg args vals as Qd qh3 BD i8 hlo
 obtain rfl:dV= .none:=Dflts.none hD pU
 obtain rfl:kV= .none:=Dflts.noKw hD
 obtain⟨a,vs,ns,rfl,rfl,Xo,hints,hlen⟩:=qx5 hn Qd i8
 refine enter_call (dE (call w s₀ s₁ mg mb fa o pm cd doc a vs ns G Y ho (fd_plain hd) xT pO Xo hints hlen hg) λr s' hq=>?_)
 obtain⟨rfl,h2,h3,h4⟩:=hq
 exact⟨.inl ⟨.bool true,.bool true,[],rfl,λ_=>rfl,.bool true,qx7 l _,λ_=>⟨List.Pairwise.nil,λ_ hm=>(nomatch hm)⟩⟩,h2,h3,h4⟩
section
variable {E:zt->zr->Prop} {s:zr} {K:Frag}
end
end Att
namespace L2
open PySem PySem.Spec PyProof.Rows
theorem BF:∀{vs:List zt}{ns:List Int},IntsAre vs ns->Vals (ns.map V.int) vs
 |_,_,.nil=>.nil
 |_,_,.cons n t h=>.cons ⟨t,rfl⟩ (BF h)
def Xi(H:Hp):Prop:=∀b,H b=none\/∃o xs,H b=some (.uC o (.lst xs))
theorem qx9{mb:Str->Option zt}{k:Nat}{fa:jp}{s₁:zr}{vs:List zt}{ns:List Int}(KX:K.In s₁.heap)(uA:s₁.heap.Ns xi mg)(hb:s₁.heap.Ns builtinsNs mb)(hbb:∀x:Str,x≠"__name__"->mb x=Dx x)(qkz:s₁.heap.NoLimit)(hg:s₁.gens= #[])(ha:s₁.heap.get? a=some {cls:=.type "list",data:=.seq vs.toArray})(hi:IntsAre vs ns)(hl:ns.length<=sizeLine)(hr:z7 k qzp)(F:∀base:ll,K.In base->base.Ns xi mg->xg P w K mg base CX k fa fd [x] sp)(qkj:∀(s:zr)(u:zt),qqC s fd ⟨[u],[]⟩ [(x,u)])(vN:∀H:Hp,Xi H->qp K H a (ns.map V.int)->sp [.ref a] H (λv _=>v= .bl true) λ_ _ _=>False)(Xc:∀H e s',CX [] H s₁ (λ_ _ _=>False) e s'->False):
  Qr (vk P w) qzp (.call (.ref fa) ⟨[.ref a],[]⟩) (λr s'=>r= .ok (.ret (.bool true))/\OldK s₁.heap s'.heap/\s'.os=s₁.os/\Sr s'.gens) s₁:=by
 have rv:=BF hi
 have qkx:=hi.length
 have core:∀H:Hp,Xi H->qp K H a (ns.map V.int)->zF P w H s₁.heap->(∀b,H b≠none->b=a)->(H a≠none->K.lookup a=none)->
   Qr (vk P w) qzp (.call (.ref fa) ⟨[.ref a],[]⟩) (λr s'=>r= .ok (.ret (.bool true))/\OldK s₁.heap s'.heap/\s'.os=s₁.os/\Sr s'.gens) s₁:=by
  intro H hO hS qt hA hK
  have BH:∀{b:jp}{o:Obj},s₁.heap.get? b=some o->H b=none->(oM s₁.heap H).get? b=some o:=λe n=>qjy e n
  have lF:∀{b:jp}{o:Obj}{es:Array DictEntry}{ep:Nat},s₁.heap.get? b=some o->o.data= .dict es ep->H b=none:=fun {b o es ep}e d=>by
   cases q:H b with
   |none=>rfl
   |some u=>
    have e':b=a:=hA b (by rw[q];simp)
    subst e'
    rw[ha]at e;cases e
    have d':Data.seq vs.toArray _=Data.dict es ep:=d
    cases d'
  have Qf:∀{b:jp}{m:Str->Option zt},s₁.heap.Ns b m->(oM s₁.heap H).Ns b m:=fun {b m}⟨o,es,ep,e,d,r⟩=>⟨o,es,ep,BH e (lF e d),d,r⟩
  have ng:K.In (oM s₁.heap H):=λb o e=>BH (KX b o e) (by
   cases q:H b with
   |none=>rfl
   |some u=>
    have e':b=a:=hA b (by rw[q];simp)
    subst e'
    rw[hK (by rw[q];simp)]at e;cases e)
  have hM:Mod K mg (oM s₁.heap H):=⟨ng,Qf uA,⟨mb,Qf hb,hbb⟩,let⟨mc,h1,h2⟩:=qkz;⟨mc,Qf h1,h2⟩⟩
  have e0:oA P w K mg (oM s₁.heap H) qzp [] s₁ H:=⟨rfl,hM,λb o e=>qju e,qzC (qjw _ _),trivial,λb hb=>absurd (show b∈([]:List jp)from hb) (by simp),qt,.of_eq hg⟩
  refine dE ((F _ ng (Qf uA)).run qzp [] s₁ H ⟨[.ref a],[]⟩ [.ref a] [.ref a] _ _ hr e0 (qkj s₁ (.ref a)) (.cons rfl .nil) (vN H hO hS)) λr s' h=>?_
  cases r with
  |error e=>exact(Xc H e s' h).elim
  |ok fl=>
   cases fl with
   |next=>exact iq h
   |brk=>exact iq h
   |cont=>exact iq h
   |ret u=>
    obtain⟨v,H',os,bare,un,Xl,r',q⟩:=h
    have q':v= .bl true:=q
    subst q'
    obtain rfl:u=Value.bool true:=r'
    refine⟨rfl,OldK.of_keep λb o e=>?_,os,bare⟩
    cases q:H b with
    |none=>exact un.keep b o e q (by intro z;exact absurd (show b∈([]:List jp)from z) (by simp)) (by simp)
    |some u=>
     rcases hO b with z|⟨ob,xs,z⟩
     ·rw[q]at z;cases z
     ·have z2:=un.vI b ob _ z
      obtain⟨e1,_⟩:=qt b _ z
      obtain⟨e2,_⟩:=Xl b _ z2
      rw[e]at e1;cases e1
      exact e2
 cases hk:K.lookup a with
 |some o=>
  have e:=KX a o hk
  rw[ha]at e
  cases e
  refine core (λ_=>none) (λ_=>.inl rfl) (.inr ⟨_,vs.toArray,_,hk,rfl,rfl,rfl,by rw[jd,qkx];exact hl,by simpa using rv⟩) (λb u z=>by have z':(none:Option HO)=some u:=z;cases z') (λb z=>absurd rfl z) λz=>absurd rfl z
 |none=>
  refine core (λb=>if b=a then some (.uC {cls:=.type "list",data:=.seq vs.toArray} (.lst (ns.map V.int)))else none) (λb=>?_) (.inl (.inr ⟨{cls:=.type "list",data:=.seq vs.toArray},vb rfl⟩)) (λb u z=>?_) (λb z=>?_) λ_=>hk
  ·by_cases hb:b=a
   ·exact .inr ⟨_,_,vb hb⟩
   ·exact .inl (ke hb)
  ·by_cases hb:b=a
   ·have z':=(vb hb).symm.trans z
    cases z'
    subst hb
    exact⟨ha,by rw[za];exact hl,vs,_,rv,ha⟩
   ·have z':=(ke hb).symm.trans z
    cases z'
  ·by_cases hb:b=a
   ·exact hb
   ·exact absurd (ke hb) z
theorem qkk{l:PySem.W.OpenLaw}{k:Nat}{q:cv}{loose:List Str}{XP:(Str->Option zt)->ll->Prop}{YP:fe->ll->Prop}{d:DefRec}{K:Params->Fg}{CX:fe->vz}{sp:fe->Sp}(hn:l.most=some n)(Qv:n<=sizeLine)(pU:d.params.defaults=[])(hr:z7 k qzp)(hY:∀(w:fe)(h:ll),YP w h->(K w.params).In h)(F:∀(w:fe)(mg:Str->Option zt)(fa:jp)(h:ll),(K w.params).In h->h.Ns xi mg->mg d.name=some (.ref fa)->
   ∃fd:ol,(∀(s:zr)(u:zt),qqC s fd ⟨[u],[]⟩ [(x,u)])/\
    ∀base:ll,(K w.params).In base->base.Ns xi mg->xg l.prog w (K w.params) mg base (CX w) k fa fd [x] (sp w))(vN:∀(w:fe)(H:Hp)(a:jp)(ns:List Int),ns.length<=n->Xi H->qp (K w.params) H a (ns.map V.int)->sp w [.ref a] H (λv _=>v= .bl true) λ_ _ _=>False)(Xc:∀(w:fe)(H:Hp)(s:zr)(e:zt)(s':zr),CX w [] H s (λ_ _ _=>False) e s'->False):
  PySem.W.WalkO q loose XP YP l.row.toRowW d [] (λf vs=>PySem.call f vs):=by
 refine Att.qx8 hn pU λw s₀ s₁ mg mb fa o pm cd doc a vs ns G Y ho hd xT pO Xo hints hlen hg=>?_
 have KX:=hY w _ Y
 obtain⟨fd,hb,hF⟩:=F w mg fa _ KX G.T.g pO
 exact qx9 KX G.T.g G.T.b G.T.builtins G.T.nolimit hg Xo hints (vy hlen Qv) hr hF hb (λH hO hS=>vN w H a ns hlen hO hS) λH e s'=>Xc w H s₁ e s'
def inClass(s:cc)(j:Nat):cc:=match s with
 | .ClassDef _ _ _ body _ _ _ _ _ _ _=>body.getD j (.Pass ⟨0,0,0,0⟩)
 |_=>.Pass ⟨0,0,0,0⟩
def Xg(s:cc):Arguments:=match s with
 | .FunctionDef _ a _ _ _ _ _ _ _ _=>a
 |_=>{posonlyargs:=[],args:=[],vararg:=none,kwonlyargs:=[],kw_defaults:=[],kwarg:=none,defaults:=[]}
def uE(s:cc):List cc:=match s with
 | .FunctionDef _ _ b _ _ _ _ _ _ _=>b
 |_=>[]
def qK(s:cc):Scope:=match s with
 | .FunctionDef _ _ _ _ _ _ sc _ _ _=>sc
 |_=>{kind:=.function,names:=[],isGenerator:=false,isCoroutine:=false}
abbrev E0:XK:=λ_ _ _=>False
section
variable {base:ll}
end
theorem pv(i:Nat)(hN:X.N[i]? =some x:=by rfl)(hv:eW X.env.scope x:=by first|exact Or.inl rfl|exact Or.inr oI|exact Or.inr (Or.inr rfl))(hd:(x==("__debug__":Str))=false:=by decide)(xT:(x==("__classdict__":Str))=false:=by decide):PE X (.Name x pos) (zO i):=qjn hN hv hd xT
theorem qA{A B:Prop}(h:B):if false=true then A else B:=by
 rw[ke kf]
 exact h
theorem zY{A B:Prop}(h:A):if true=true then A else B:=by
 rw[vb rfl]
 exact h
theorem zB{c A B:Prop}[Decidable c](h1:c->A)(h2:¬c->B):if c then A else B:=by
 by_cases h:c
 ·rw[vb h]
  exact h1 h
 ·rw[ke h]
  exact h2 h
theorem qkv{c A B:Prop}[Decidable c](hc:c)(h:B):if(!decide c)=true then A else B:=by
 rw[vw hc]
 exact qA h
def kP(H H':Hp):Prop:=∀b o,H b=some o->H' b=some o
theorem kP.refl(H:Hp):kP H H:=λ_ _ h=>h
theorem kP.trans(a:kP H H1)(b:kP H1 H2):kP H H2:=λc o h=>b c o (a c o h)
theorem kP.seq(e:kP H H')(h:qp K H a xs):qp K H' a xs:=by
 rcases h with(h|⟨o,h⟩)|h
 ·exact .inl (.inl (e _ _ h))
 ·exact .inl (.inr ⟨o,e _ _ h⟩)
 ·exact .inr h
end L2
namespace XA
open PySem
def Lk{α:Type}(M:Model)(h:ll)(t:Sem α)(r:α):Prop:=
 ∀(A:si)(Q:α->zr->Prop)(E:zt->zr->Prop)(s:zr),(∀b o,h.get? b=some o->s.heap.get? b=some o)->Q r s->xI M A t Q E s
theorem Lk.at{α:Type}{t:Sem α}{r:α}{Q:α->zr->Prop}{E:zt->zr->Prop}{g d tk os}(x:Lk M h t r)(q:Q r ⟨h,g,d,tk,os⟩):xI M A t Q E ⟨h,g,d,tk,os⟩:=x A Q E _ (λ_ _ e=>e) q
theorem Lk.keeps{α:Type}{t:Sem α}{r:α}(x:Lk M h t r)(k:∀b o,h.get? b=some o->h'.get? b=some o):Lk M h' t r:=
 λA Q E s k' q=>x A Q E s (λb o e=>k' _ _ (k _ _ e)) q
structure Above(B:String)(bm:List zt):Prop where
 hasB:bm.contains (.type B)=true
 base:bm.contains (.type "BaseException")=true
 lF:bm.contains (.type "AttributeError")=false
 noN:bm.contains (.type "NameError")=false
section
variable {E:zt->zr->Prop} {g:Array qqZ} {d:Drawn} {t:Nat}
variable {nm q:Str} {N:jp} {bs lS:List zt} {hdct:Bool} {sn:List Str} {sub:List zt} {ab:Bool} {col:Option Bool} {dd:Option jp} {k0 k1 k2 k3 k5:Option zt} {B iy:String}
theorem BP(F:SU B newId iy lS)(T:Above B bm){Q:Unit->zr->Prop}(hC:h.get? C=some (pE nm q C N bs bm hdct sn sub ab col dd k0 k1 k2 k3 k5 newId))(hq:Q () ⟨h,g,d,t,os⟩):xI M A (dq newId ⟨.ref C::rest,[]⟩) Q E ⟨h,g,d,t,os⟩:=by
 have c1:(Value.ref C::bm).contains (.type B)=true:=by rw[og,T.hasB,eQ]
 have c2:=F.noStar
 simp only[dq,F.newKind,F.newSplit,F.newRow]
 repeat (first|refine wa hC ?_|(refine cf hC ?_;rw[c1])|refine wpAny_staticBase_exc hC ?_|refine qzu hC ?_|simp only[bne_self_eq_false,Ts,if_false]|wp_step)
 exact hq
theorem BS(F:SU B newId iy lS)(T:Above B bm){R:qz1->zr->Prop}(hC:h.get? C=some (pE nm q C N bs bm hdct sn sub ab col dd k0 k1 k2 k3 k5 newId))(hq:R (.ok (.ret (.ref (h.objs.size+1)))) ⟨(h.push {cls:=.type "tuple",data:=.seq rest.toArray}).push
   {cls:=.ref C,data:=.fields #[.ref h.objs.size,.none,.none,.none,.bool false,.none]},g,d,t,os⟩)(yt:rest.length<=sizeLine):
  Qr (vk prog w) A (.builtin newId ⟨.ref C::rest,[]⟩) R ⟨h,g,d,t,os⟩:=by
 have he:=F.ends
 have c1:(Value.ref C::bm).contains (.type B)=true:=by rw[og,T.hasB,eQ]
 have c2:(Value.ref C::bm).contains (.type "AttributeError")=false:=by rw[og,T.lF];rfl
 have c3:(Value.ref C::bm).contains (.type "NameError")=false:=by rw[og,T.noN];rfl
 refine codeAny_builtinAt F.entry ?_
 unfold X1.«BaseException.__new__»
 refine wpAt_bind ?_
 show wpAt _ _ _ (stack>>=_) _ _ _
 refine wpAt_bind (wpAt_stack λp below=>wpAt_of_wpAny ?_)
 wp_walk
 refine wpAt_of_wpAny ?_
 rw[F.owner]
 repeat (first|with_reducible refine wpAny_madeHere_exc F.canon hC ?_|with_reducible refine wa hC ?_|(with_reducible refine cf hC ?_;first|rw[c1]|rw[c2]|rw[c3])|wp_step)
 show R _ _
 rw[ik]
 exact hq
theorem qky(F:SU B newId iy lS)(T:Above B bm){oI:Obj}{Q:Fin->zr->Prop}(hC:h.get? C=some (pE nm q C N bs bm hdct sn sub ab col dd k0 k1 k2 k3 k5 newId))(hi:Lk (vk prog w) h (cp (.ref C) "__init__") (some (.ref fI)))(hfI:h.get? fI=some oI)(Xm:oI.cls= .type "function")(hq:xI (vk prog w) A (call (.ref fI) (.ref (h.objs.size+1)::rest)) (λr s'=>r= .none/\Q (.done (.ret (.ref (h.objs.size+1)))) s') E
   ⟨(h.push {cls:=.type "tuple",data:=.seq rest.toArray}).push {cls:=.ref C,data:=.fields #[.ref h.objs.size,.none,.none,.none,.bool false,.none]},g,d,t,os⟩)(yt:rest.length<=sizeLine):
  xI (vk prog w) A (X1.«type.__call__» ⟨.ref C::rest,[]⟩) Q E ⟨h,g,d,t,os⟩:=by
 repeat (first|with_reducible refine wa hC ?_|with_reducible refine qzu hC ?_|wp_step)
 refine qzD (Oy _ F.quiet) (BP F T hC ?_)
 refine BS F T hC ?_ yt
 show xI _ _ _ _ _ _
 have up:∀b o,h.get? b=some o->((h.push {cls:=.type "tuple",data:=.seq rest.toArray}).push {cls:=.ref C,data:=.fields #[.ref h.objs.size,.none,.none,.none,.bool false,.none]}).get? b=some o:=
  λb o e=>qF _ (qF _ e)
 have pI:=up _ _ hC
 have hf1:=up _ _ hfI
 have Xn:=hi.keeps up
 have hg:((h.push {cls:=.type "tuple",data:=.seq rest.toArray}).push
   {cls:=.ref C,data:=.fields #[.ref h.objs.size,.none,.none,.none,.bool false,.none]}).get? (h.objs.size+1)=some
   {cls:=.ref C,data:=.fields #[.ref h.objs.size,.none,.none,.none,.bool false,.none]}:=by heap_get
 have Xd:(Value.ref C::bm).contains (.ref C)=true:=by simp
 unfold qz2
 repeat (first|with_reducible refine wa hg ?_|(with_reducible refine cf pI ?_;rw[Xd])|wp_step)
 show xI _ _ (cp (.ref C) _) _ _ _
 refine Lk.at Xn ?_
 refine mm (qr ?_)
 unfold bindSpecial
 refine qr (wpAny_typeOf (T:="function") ⟨_,hf1,Xm⟩ ?_)
 rw[vb (by decide)]
 refine xk (qr (wb hq (λr s' hr=>?_) λ_ _ x=>x))
 obtain⟨rfl,hQ⟩:=hr
 wp_walk
 exact hQ
theorem qki(F:SU B newId iy lS)(T:Above B bm){Q:Fin->zr->Prop}(hC:h.get? C=some (pE nm q C N bs bm hdct sn sub ab col dd k0 k1 k2 k3 k5 newId))(hi:Lk (vk prog w) h (cp (.ref C) "__init__") (some (.builtin iy)))(hq:∀h',(∀b o,h.get? b=some o->h'.get? b=some o)->h'.get? (h.objs.size+1)=some {cls:=.ref C,data:=.fields #[.ref (h.objs.size+2),.none,.none,.none,.bool false,.none]}->
   h'.get? (h.objs.size+2)=some {cls:=.type "tuple",data:=.seq rest.toArray}->Q (.done (.ret (.ref (h.objs.size+1)))) ⟨h',g,d,t,os⟩)(yt:rest.length<=sizeLine):
  xI (vk prog w) A (X1.«type.__call__» ⟨.ref C::rest,[]⟩) Q E ⟨h,g,d,t,os⟩:=by
 repeat (first|with_reducible refine wa hC ?_|with_reducible refine qzu hC ?_|wp_step)
 refine qzD (Oy _ F.quiet) (BP F T hC ?_)
 refine BS F T hC ?_ yt
 show xI _ _ _ _ _ _
 have up:∀b o,h.get? b=some o->((h.push {cls:=.type "tuple",data:=.seq rest.toArray}).push {cls:=.ref C,data:=.fields #[.ref h.objs.size,.none,.none,.none,.bool false,.none]}).get? b=some o:=
  λb o e=>qF _ (qF _ e)
 have pI:=up _ _ hC
 have Xn:=hi.keeps up
 have hg:((h.push {cls:=.type "tuple",data:=.seq rest.toArray}).push
   {cls:=.ref C,data:=.fields #[.ref h.objs.size,.none,.none,.none,.bool false,.none]}).get? (h.objs.size+1)=some
   {cls:=.ref C,data:=.fields #[.ref h.objs.size,.none,.none,.none,.bool false,.none]}:=by heap_get
 have Xd:(Value.ref C::bm).contains (.ref C)=true:=by simp
 have c1:(Value.ref C::bm).contains (.type B)=true:=by rw[og,T.hasB,eQ]
 unfold qz2
 repeat (first|with_reducible refine wa hg ?_|(with_reducible refine cf pI ?_;rw[Xd])|wp_step)
 show xI _ _ (cp (.ref C) _) _ _ _
 refine Lk.at Xn ?_
 refine mm (qr (wpAny_of_eq (F.init.bind _) ?_))
 refine qr (sx (hZ F.init.plain F.initEntry ?_))
 have c3:=F.noStar
 simp only[dq,F.initKind,F.initSplit,F.initRow]
 repeat (first|with_reducible refine wa hg ?_|with_reducible refine wa pI ?_|(with_reducible refine cf pI ?_;rw[c1])|wp_step)
 refine Iy ?_
 rw[show∀(a b:String)(n:Nat),Bind.check ⟨.positional,"*",B,.self,[⟨"args",.varPos,false⟩]⟩ a b n (List.map (λx=>x.fst) ({pos:=Value.ref (h.objs.size+1)::rest}:Args).kw)=pure ()from
  λa b n=>check_star_args _ _ _ _ _ _]
 refine xk ?_
 wp_walk
 refine hq _ (λb o hb=>?_) ?_ ?_
 ·rw[yB _ _ (qqe (Bz (zu hb)))]
  exact qF _ (up b o hb)
 ·rw[il _ (qF _ hg) rfl]
  simp only[ik]
  rfl
 ·rw[yB _ _ (show h.objs.size+1≠h.objs.size+2 by lia)]
  exact Heap.get?_push_at (by simp only[ik]) rfl
theorem call_cls{R:qz1->zr->Prop}(hC:h.get? C=some (pE nm q C N bs bm hdct sn sub ab col dd k0 k1 k2 k3 k5 newId))(hq:xI (vk prog w) (A.under (.builtin "type.__call__" ⟨.ref C::rest,[]⟩)) (X1.«type.__call__» ⟨.ref C::rest,[]⟩)
   (λfin s'=>match fin with | .done f=>R (.ok f) s'| .again c'=>c'.quiet=true/\Qr (vk prog w) A c' R s') (λe s'=>R (.error e) s') ⟨h,g,d,t,os⟩):
  Qr (vk prog w) A (.call (.ref C) ⟨rest,[]⟩) R ⟨h,g,d,t,os⟩:=by
 have f1:=tc_lookup
 have f2:=tc_bind (.ref C)
 have hT:(⟨h,g,d,t,os⟩:zr).TypeIs (.ref C) "type":=⟨_,hC,rfl⟩
 refine codeAny_of_tree ?_
 show xI _ _ (callAny (.ref C) _) _ _ _
 repeat (any_goals (first|assumption|with_reducible refine wa hC ?_|wp_step))
 refine⟨rfl,?_⟩
 refine codeAny_call_builtin_at (Oy _ (by ext)) entry_typeCall (wpAny_check_type_call_sub hC hq)
end
structure j6(h:ll)(e:jp)(c:zt)(d:Option jp)(a0:zt)(ot:Option jp)(fl:zt):Prop where
 obj:∃vs sl,h.get? e=some {cls:=c,dict:=d,data:=.fields vs,slots:=sl}/\vs.size=6/\vs[0]? =some a0/\vs[1]? =some (ot.elim Value.none Value.ref)
 tb:∀T,ot=some T->T≠e/\∃oT ts,h.get? T=some oT/\oT.data= .fields ts/\ts[3]? =some fl
structure lT(fs:List jp)(e:jp)(ot:Option jp)(h h':ll):Prop where
 keep:∀b o,b≠e->some b≠ot->b∉fs->h.get? b=some o->h'.get? b=some o
 slot:∀b o,b≠e->some b≠ot->h.get? b=some o->∃sl,h'.get? b=some {o with slots:=sl}
 there:∀b o,h.get? b=some o->∃o',h'.get? b=some o'
theorem Xf{o:Obj}{vs ws:Array zt}{x:zt}(ha:h.get? a=some o)(hd:o.data= .fields vs):
  ∀b ob,h.get? b=some ob->∃o',(h.update a (hV (·.setIfInBounds i x))).get? b=some o':=λb ob hb=>by
 by_cases e:b=a
 ·subst e
  exact⟨_,il _ ha (bo (lm hd _))⟩
 ·exact⟨ob,by rw[yB _ _ (y7 e)];exact hb⟩
section
variable {E:zt->zr->Prop} {s:zr} {e:jp} {c a0 fl:zt} {d ot:Option jp} {T:jp}
theorem qkc{Q:Unit->zr->Prop}(x:j6 s.heap e c d a0 none fl)(h:Q () s):xI M A (M2 (.ref e) none) Q E s:=by
 obtain⟨⟨vs,sl,he,hz,h0,h1⟩,_⟩:=x
 unfold M2
 refine qr (oa he rfl h1 ?_)
 rw[ke (by decide)]
 exact xk h
theorem BA{fr:Option jp}{Q:Unit->zr->Prop}(x:j6 s.heap e c d a0 (some T) fl)
  (h:∀h',j6 h' e c d a0 (some T) (fr.elim Value.none λf=>ro f)->(∀b o,b≠T->s.heap.get? b=some o->h'.get? b=some o)->(∀b o,s.heap.get? b=some o->∃o',h'.get? b=some o')->Q () {s with heap:=h'}):
  xI M A (M2 (.ref e) fr) Q E s:=by
 obtain⟨⟨vs,sl,he,hz,h0,h1⟩,tb⟩:=x
 obtain⟨wF,oT,ts,hT,wH,h3⟩:=tb T rfl
 have BE:3<ts.size:=(W'.mp h3).1
 unfold M2
 refine qr (oa he rfl h1 ?_)
 rw[vb (show((some T).elim Value.none Value.ref !=Value.none)=true from by simp)]
 have B3:∀b,b≠T->(s.heap.update T (hV (·.setIfInBounds 3 (fr.elim Value.none λf=>ro f)))).get? b=s.heap.get? b:=
  λb hb=>yB _ _ (y7 hb)
 refine V' hT wH BE (h _ ⟨⟨vs,sl,(B3 e (y7 wF)).trans he,hz,h0,h1⟩,λT' e'=>?_⟩ (λb o hb q=>(B3 b hb).trans q) (Xf (ws:=ts) hT wH))
 cases e'
 exact⟨wF,_,_,il _ hT (bo (lm wH _)),lm wH _,by simp[BE]⟩
theorem pG{Q:Unit->zr->Prop}(x:j6 s.heap e c d a0 (some T) fl)
  (h:∀h',j6 h' e c d a0 (some T) .none->(∀b o,b≠T->s.heap.get? b=some o->h'.get? b=some o)->(∀b o,s.heap.get? b=some o->∃o',h'.get? b=some o')->Q () {s with heap:=h'}):
  xI M A (M2 (.ref e) none) Q E s:=BA x h
theorem B4{base:ll}{L:jp}{head:zt}{qkl:Bool}{Q:Unit->zr->Prop}(ya:A.frames=some (env::outer))(hl:s.heap.FunFrames base (env::outer))(hf:env.frame=some L)(x:j6 s.heap e c d a0 ot fl)(h:∀h' T',(~~~s)<=T'->j6 h' e c d a0 (some T') (ro L)->(∀b o,b≠e->b∉(env::outer).filterMap (·.frame)->s.heap.get? b=some o->h'.get? b=some o)->
   (∀b o,b≠e->s.heap.get? b=some o->∃sl,h'.get? b=some {o with slots:=sl})->(∀b o,s.heap.get? b=some o->∃o',h'.get? b=some o')->Q () {s with heap:=h'}):
  xI M A (do let a<-frameOf env;let pl<-entryPlaceOf L qkl;let b<-qqR head a .none (ro L) .none pl;setField (.ref e) 1 b) Q E s:=by
 obtain⟨⟨vs,sl,he,hz,h0,h1⟩,tb⟩:=x
 have qkg:e∉(env::outer).filterMap (·.frame):=λhm=>by
  obtain⟨_,o,ho,uz⟩:=hl.mem hm
  rw[he]at ho;injection ho with ho;subst ho;exact uz vs rfl
 refine qr (wpAny_frameOf_fun ya hl hf λh₁ pM=>?_)
 refine qr (wpAny_entryPlaceOf λpl qH=>?_)
 unfold qqR newFields
 refine qr (gL ?_ (qH.sizeOk5 _ _ _ _ _))
 have B5:=(pM.2.1 e qkg).trans he
 have Xh:=qF (h:=h₁) {cls:=.type "traceback",dict:=none,data:=.fields ([head,.ref L,.none,ro L,.none]++(if pl.isEmpty then px 6 Value.none else pl)).toArray} B5
 have hsz:1<vs.size:=by lia
 refine V' Xh rfl hsz (h _ h₁.objs.size ?_ ⟨?_,λT' e'=>?_⟩ ?_ ?_ ?_)
 ·exact qzC pM.1.symm
 ·refine⟨vs.setIfInBounds 1 (Value.ref h₁.objs.size),sl,?_,by simp[hz],by rw[AC (by decide)];exact h0,by simp[hsz]⟩
  exact il (hV (·.setIfInBounds 1 (Value.ref h₁.objs.size))) Xh (bo (lm rfl _))
 ·cases e'
  have wF:h₁.objs.size≠e:=qqe (zu B5)
  refine⟨wF,_,_,(yB _ _ (y7 wF)).trans (jg h₁ rfl),rfl,?_⟩
  first|(simp;done)|(rcases qH with rfl|⟨_,_,_,_,_,_,_,rfl⟩<;>simp)
 ·intro b o hb hn q
  rw[yB _ _ (y7 hb)]
  exact qF _ ((pM.2.1 b hn).trans q)
 ·intro b o hb q
  obtain⟨iR,q'⟩:=pM.2.2 b o q
  exact⟨iR,by rw[yB _ _ (y7 hb)];exact qF _ q'⟩
 ·intro b o q
  obtain⟨iR,q'⟩:=pM.2.2 b o q
  exact Xf (ws:=vs) Xh rfl b _ (qF _ q')
theorem B6{base:ll}{L:jp}{Q:Unit->zr->Prop}(jP:(fl==ro L)=false)(ya:A.frames=some (env::outer))(hl:s.heap.FunFrames base (env::outer))(hf:env.frame=some L)(x:j6 s.heap e c d a0 ot fl)(h:∀h' T',(~~~s)<=T'->j6 h' e c d a0 (some T') (ro L)->lT ((env::outer).filterMap (·.frame)) e ot s.heap h'->Q () {s with heap:=h'}):
  xI M A (Fn (.ref e) env) Q E s:=by
 obtain⟨⟨vs,sl,he,hz,h0,h1⟩,tb⟩:=id x
 unfold Fn
 simp only[hf]
 refine qr (oa he rfl h1 ?_)
 cases ot with
 |none=>
  rw[ke (by decide)]
  refine B4 ya hl hf x λh' T' hn fx k1 k2 k3=>h h' T' hn fx ⟨λb o hb _ uz q=>k1 b o hb uz q,λb o hb _ q=>k2 b o hb q,k3⟩
 |some T=>
  obtain⟨wF,oT,ts,hT,wH,h3⟩:=tb T rfl
  rw[vb (show((some T).elim Value.none Value.ref !=Value.none)=true from by simp)]
  refine qr (oa hT wH h3 ?_)
  rw[ke (show¬((fl==ro L)=true)from by rw[jP];decide)]
  refine qr (V' hT wH (W'.mp h3).1 ?_)
  have other:∀b,b≠T->(s.heap.update T (hV (·.setIfInBounds 3 Value.none))).get? b=s.heap.get? b:=λb hb=>yB _ _ (y7 hb)
  have vX:3<ts.size:=(W'.mp h3).1
  have x2:j6 (s.heap.update T (hV (·.setIfInBounds 3 Value.none))) e c d a0 (some T) .none:=
   ⟨⟨vs,sl,(other e (y7 wF)).trans he,hz,h0,h1⟩,λT' e'=>by
    cases e'
    exact⟨wF,_,_,il _ hT (bo (lm wH _)),lm wH _,by simp[vX]⟩⟩
  have nr:∀b o,s.heap.get? b=some o->(∀vs,o.data≠ .fields vs)->b≠T:=λb o hb uz q=>by
   rw[q,hT]at hb;injection hb with hb;subst hb;exact uz ts wH
  refine B4 (s:={s with heap:=s.heap.update T (hV (·.setIfInBounds 3 Value.none))}) ya
   (hl.of_keeps λb o hb uz=>⟨o,(other b (nr b o hb uz)).trans hb,rfl⟩) hf x2 λh' T' hn fx k1 k2 k3=>h h' T' ?_ fx ⟨λb o hb iu uz q=>k1 b o hb uz ?_,λb o hb iu q=>k2 b o hb ?_,λb o q=>?_⟩
  ·have xS:(s.heap.update T (hV (·.setIfInBounds 3 Value.none))).objs.size<=T':=hn
   rw[Heap.size_after_update]at xS
   exact xS
  ·exact(other b λz=>iu (by rw[z])).trans q
  ·exact(other b λz=>iu (by rw[z])).trans q
  ·obtain⟨o2,q2⟩:=Xf (ws:=ts) (i:=3) (x:=Value.none) hT wH b o q
   exact k3 b o2 q2
theorem B7{base:ll}{L:jp}{Q:Unit->zr->Prop}(ya:A.frames=some (env::outer))(hl:s.heap.FunFrames base (env::outer))(hf:env.frame=some L)(x:j6 s.heap e c d a0 ot .none)(h:∀h' T',(~~~s)<=T'->j6 h' e c d a0 (some T') (ro L)->lT ((env::outer).filterMap (·.frame)) e ot s.heap h'->Q () {s with heap:=h'}):
  xI M A (Fn (.ref e) env) Q E s:=B6 (by simp[ro]) ya hl hf x h
theorem lT.B8{fs:List jp}{T':jp}{h1 h2:ll}(k:lT fs e ot h h1)(hn:h.objs.size<=T'\/some T'=ot)(k2:∀b o,b≠T'->h1.get? b=some o->h2.get? b=some o)(k3:∀b o,h1.get? b=some o->∃o',h2.get? b=some o'):lT fs e ot h h2:=by
 have ne:∀b o,some b≠ot->h.get? b=some o->b≠T':=λb o hb q z=>by
  subst z
  rcases hn with hn|hn
  ·exact absurd (zu q) (qzg.mpr hn)
  ·exact hb hn
 refine⟨λb o hb iu uz q=>k2 b o (ne b o iu q) (k.keep b o hb iu uz q),λb o hb iu q=>?_,λb o q=>?_⟩
 ·obtain⟨sl,q'⟩:=k.slot b o hb iu q
  exact⟨sl,k2 b _ (ne b o iu q) q'⟩
 ·obtain⟨o2,q'⟩:=k.there b o q
  exact k3 b o2 q'
theorem qkm{base:ll}{L:jp}{fr:Option jp}{Q:Unit->zr->Prop}(ya:A.frames=some (env::outer))(hl:s.heap.FunFrames base (env::outer))(hf:env.frame=some L)(x:j6 s.heap e c d a0 ot (fr.elim Value.none λf=>ro f))(h:∀h' T',((~~~s)<=T'\/some T'=ot)->j6 h' e c d a0 (some T') .none->lT ((env::outer).filterMap (·.frame)) e ot s.heap h'->Q () {s with heap:=h'}):
  xI M A (leaving env (.ref e)) Q E s:=by
 unfold leaving
 by_cases hL:∃T,ot=some T/\fr=some L
 ·obtain⟨T,rfl,rfl⟩:=hL
  obtain⟨⟨vs,sl,he,hz,h0,h1⟩,tb⟩:=id x
  obtain⟨wF,oT,ts,hT,wH,h3⟩:=tb T rfl
  refine qr ?_
  unfold Fn
  simp only[hf]
  refine qr (oa he rfl h1 ?_)
  rw[vb (show((some T).elim Value.none Value.ref !=Value.none)=true from by simp)]
  refine qr (oa hT wH h3 ?_)
  rw[vb (show(((some L).elim Value.none λf=>ro f)==ro L)=true from by simp)]
  refine xk (pG x λh2 f2 k2 k3=>h h2 T (.inr rfl) f2 ?_)
  exact lT.B8 (h1:=s.heap) ⟨λ_ _ _ _ _ q=>q,λ_ o _ _ q=>⟨o.slots,q⟩,λ_ o q=>⟨o,q⟩⟩ (.inr rfl) k2 k3
 ·have go:∀{fl:zt},(fl==ro L)=false->j6 s.heap e c d a0 ot fl->xI M A (do Fn (.ref e) env;M2 (.ref e) none) Q E s:=λjP x=>
   qr (B6 jP ya hl hf x λh1 T1 hn f1 k=>pG f1 λh2 f2 k2 k3=>h h2 T1 (.inl hn) f2 (k.B8 (.inl hn) k2 k3))
  cases ot with
  |none=>exact go (fl:=.none) (by simp[ro]) ⟨x.obj,λT z=>by cases z⟩
  |some T=>
   refine go ?_ x
   cases fr with
   |none=>simp[ro]
   |some f=>
    have :f≠L:=λz=>hL ⟨T,rfl,by rw[z]⟩
    simp[ro]
    intro z;exact this (Int.ofNat_inj.mp z)
end
section
variable {E:zt->zr->Prop}
variable {nm q:Str} {N:jp} {bs lS:List zt} {hdct:Bool} {sn:List Str} {sub:List zt} {ab:Bool} {col:Option Bool} {dd:Option jp} {k0 k1 k2 k3 k5:Option zt} {B iy:String}
theorem qkn{s:zr}{x:Sem zt}{Q:Flow->zr->Prop}(y9:bm.contains (.type "BaseException")=true)(hh:A.handled=none)
  (h:xI M A x (λv s₁=>∃e d a0,v= .ref e/\s₁.heap.get? C=some (pE nm q C N bs bm hdct sn sub ab col dd k0 k1 k2 k3 k5 newId)/\
   j6 s₁.heap e (.ref C) d a0 none .none/\E (.ref e) s₁) E s):
  xI M A (raiseStmt env (some x) none) Q E s:=by
 have Xp:(Value.ref C::bm).contains (.type "BaseException")=true:=by rw[og,y9,eQ]
 unfold raiseStmt
 refine qr (wb h (λv s₁ h₁=>?_) λ_ _ x=>x)
 obtain⟨e,d,a0,rfl,hC,x,hE⟩:=h₁
 obtain⟨hp,g,dr,tk,os⟩:=s₁
 obtain⟨⟨vs,sl,he,hz,h0,h1⟩,tb⟩:=id x
 repeat (first|with_reducible refine wa he ?_|with_reducible refine wa hC ?_|(with_reducible refine cf hC ?_;rw[Xp])|with_reducible refine qkc x ?_|wp_step)
 exact wpAny_raiseNew_none hh hE
theorem qkb{s:zr}{x:hU}{Q:Flow->zr->Prop}(y9:bm.contains (.type "BaseException")=true)(hh:A.handled=none)(h:xI M A (eval x env) (λv s₁=>∃e d a0,v= .ref e/\s₁.heap.get? C=some (pE nm q C N bs bm hdct sn sub ab col dd k0 k1 k2 k3 k5 newId)/\
   j6 s₁.heap e (.ref C) d a0 none .none/\E (.ref e) s₁) E s):
  xI M A (exec (.Raise (some x) none pos) env) Q E s:=by
 rw[arm_exec_Raise]
 simp only[evalOpt,Option.map]
 refine qr (Pm (qkn (C:=C) (nm:=nm) (q:=q) (N:=N) (bs:=bs) (bm:=bm) (hdct:=hdct) (sn:=sn) (sub:=sub) (ab:=ab) (col:=col) (dd:=dd) (k0:=k0) (k1:=k1) (k2:=k2) (k3:=k3) (k5:=k5) (newId:=newId) y9 hh ?_))
 first
  |exact h
  |exact qr (wb h (λv s₃ h₃=>qr (Pm (xk h₃))) λ_ _ x=>x)
end
section
variable {E:zt->zr->Prop}
variable {nm q:Str} {N:jp} {bs:List zt} {hdct:Bool} {sn:List Str} {sub:List zt} {ab:Bool} {col:Option Bool} {dd:Option jp} {k0 k1 k2 k3 k5:Option zt}
variable {pN q':Str} {D N':jp} {pB nQ:List zt} {qkd:Bool} {pD:List Str} {pF:List zt} {pH:Bool} {pP:Option Bool} {vH:Option jp} {j0 j1 j2 j3 j5:Option zt} {qkf:String}
theorem Qh{g:Array qqZ}{d:Drawn}{t:Nat}{e:jp}{oe:Obj}{b:Bool}{Q:Bool->zr->Prop}(hC:h.get? C=some (pE nm q C N bs bm hdct sn sub ab col dd k0 k1 k2 k3 k5 newId))(hD:h.get? D=some (pE pN q' D N' pB nQ qkd pD pF pH pP vH j0 j1 j2 j3 j5 qkf))(he:h.get? e=some oe)(dP:oe.cls= .ref C)(y9:nQ.contains (.type "BaseException")=true)(hb:(Value.ref C::bm).contains (.ref D)=b)(hq:Q b ⟨h,g,d,t,os⟩):xI M A (qqD (.ref e) (.ref D)) Q E ⟨h,g,d,t,os⟩:=by
 have Xp:(Value.ref D::nQ).contains (.type "BaseException")=true:=by rw[og,y9,eQ]
 have f:=tc_notTuple
 unfold qqD
 repeat (first|(with_reducible refine wa he ?_;rw[dP])|with_reducible refine wa hD ?_|(with_reducible refine cf hD ?_;rw[Xp])|(with_reducible refine cf hC ?_;rw[hb])|wp_step)
 cases b
 ·repeat wp_step
  exact hq
 ·repeat wp_step
  exact hq
end
section
variable {E:zt->zr->Prop} {s:zr}
theorem qkh{e:jp}{t:hU}{n:Str}{b₀:cc}{kR:List cc}{rest:List Hb}{Q:Flow->zr->Prop}(h:xI (vk prog w) (A.mark (some (.ref e))) (eval t env) (λc s₁=>xI (vk prog w) (A.mark (some (.ref e))) (qqD (.ref e) c) (λb i9=>b=true/\
   xI (vk prog w) (A.mark (some (.ref e))) (M2 (.ref e) none) (λ_ s₂=>
     xI (vk prog w) (A.mark (some (.ref e))) (storeName env n (.ref e)) (λ_ s₃=>
      xI (vk prog w) (A.mark (some (.ref e))) (execs (b₀::kR) env)
       (λf s₄=>xI (vk prog w) A (do bindName env n .none;unbindBehindTheSuite env n pos) (λ_ s₅=>Q f s₅) E s₄)
       (λ_ _=>False) s₃) (λ_ _=>False) s₂) (λ_ _=>False) i9) (λ_ _=>False) s₁) (λ_ _=>False) s):
  xI (vk prog w) A (handleBy (.ref e) env (.ExceptHandler (some t) (some n) (b₀::kR) pos::rest)) Q E s:=by
 refine qqi (SF (wb h (λc s₁ h₁=>wb h₁ (λb i9 h₂=>?_) λ_ _ x=>x.elim) λ_ _ x=>x.elim)) (by intro q;cases q)
 obtain⟨rfl,h₂⟩:=h₂
 refine codeAny_handlers_suite_as (wb h₂ (λ_ s₂ h₃=>wb h₃ (λ_ s₃ h₄=>wb h₄ (λf s₄ h₅=>h₅) λ_ _ x=>x.elim) λ_ _ x=>x.elim) λ_ _ x=>x.elim)
theorem B9{e:jp}{t:hU}{name:Option Str}{rest:List Hb}{Q:Flow->zr->Prop}(h:xI (vk prog w) (A.mark (some (.ref e))) (eval t env) (λc s₁=>xI (vk prog w) (A.mark (some (.ref e))) (qqD (.ref e) c) (λb i9=>b=false/\
   xI (vk prog w) A (handleBy (.ref e) env rest) Q E i9) (λ_ _=>False) s₁) (λ_ _=>False) s):
  xI (vk prog w) A (handleBy (.ref e) env (.ExceptHandler (some t) name body pos::rest)) Q E s:=by
 refine qqi (SF (wb h (λc s₁ h₁=>wb h₁ (λb i9 h₂=>?_) λ_ _ x=>x.elim) λ_ _ x=>x.elim)) (by intro q;cases q)
 obtain⟨rfl,h₂⟩:=h₂
 exact h₂
end
end XA
set_option maxHeartbeats 4000000
namespace L2
open PySem PySem.Spec PyProof.Rows
def ze(nw:Bool)(C t:jp)(d:Option jp)(e:jp):HO:=.ext λh=>
 ∃vs sl,h.get? e=some {cls:=.ref C,dict:=d,data:=.fields vs,slots:=sl}/\vs.size=6/\vs[0]? =some (.ref t)/\(nw=true->vs[1]? =some .none)
theorem ze.qkp{t e:jp}{d:Option jp}{x:jp}:ze nw C t d e≠ .own x:=λh=>by cases h
theorem ze.qkr{t e:jp}{d:Option jp}:ze nw C t d e≠ .tup xs:=λh=>by cases h
theorem ze.Dq{t e:jp}{d:Option jp}:yl (some (ze nw C t d e)):=trivial
theorem qks{t e:jp}{d:Option jp}{h1 h2:ll}(x:∃vs sl,h1.get? e=some {cls:=.ref C,dict:=d,data:=.fields vs,slots:=sl}/\vs.size=6/\vs[0]? =some (.ref t)/\(nw=true->vs[1]? =some .none))(k:∀o,h1.get? e=some o->h2.get? e=some o):∃vs sl,h2.get? e=some {cls:=.ref C,dict:=d,data:=.fields vs,slots:=sl}/\vs.size=6/\vs[0]? =some (.ref t)/\(nw=true->vs[1]? =some .none):=by
 obtain⟨vs,sl,he,r⟩:=x
 exact⟨vs,sl,k _ he,r⟩
theorem pR{t e:jp}{d:Option jp}{vs:Array zt}{sl:Array (Option zt)}(he:h.get? e=some {cls:=.ref C,dict:=d,data:=.fields vs,slots:=sl})(hz:vs.size=6)(h0:vs[0]? =some (.ref t))(h1:nw=true->vs[1]? =some .none):jW P w H h e (ze nw C t d e):=
 ⟨⟨vs,sl,he,hz,h0,h1⟩,⟨_,he⟩,λ_ _ x k=>qks x k⟩
theorem pS{t e:jp}{d:Option jp}(x:jW P w H h e (ze nw C t d e)):
  ∃vs sl,h.get? e=some {cls:=.ref C,dict:=d,data:=.fields vs,slots:=sl}/\vs.size=6/\vs[0]? =some (.ref t)/\(nw=true->vs[1]? =some .none):=x.1
theorem qkt{t e:jp}{d:Option jp}(x:jW P w H h e (ze true C t d e)):XA.j6 h e (.ref C) d (.ref t) none .none:=by
 obtain⟨vs,sl,he,hz,h0,h1⟩:=pS x
 exact⟨⟨vs,sl,he,hz,h0,h1 rfl⟩,λT q=>by cases q⟩
theorem qka{t e:jp}{d ot:Option jp}{fl:zt}(x:XA.j6 h e (.ref C) d (.ref t) ot fl):jW P w H h e (ze false C t d e):=by
 obtain⟨⟨vs,sl,he,hz,h0,h1⟩,_⟩:=x
 exact pR he hz h0 λq=>by cases q
theorem zF.Xr{t e:jp}{d ot:Option jp}{fl:zt}(ok:zF P w H h)(he:H e=some (ze nw C t d e))(x:XA.j6 h' e (.ref C) d (.ref t) ot fl)(k:∀b o,b≠e->H b≠none->h.get? b=some o->h'.get? b=some o):zF P w (upd H e (ze false C t d e)) h':=λa o q=>by
 have own:∀c y,H c=some (.own y)->c≠e:=λc y r z=>by subst z;rw[he]at r;exact ze.qkp (xb r)
 have tup:∀c xs,H c=some (.tup xs)->c≠e:=λc xs r z=>by subst z;rw[he]at r;exact ze.qkr (xb r)
 by_cases ha:a=e
 ·subst ha;rw[qu]at q;cases q;exact qka x
 ·rw[qm ha]at q
  refine(ok a o q).xP (λb u hb r=>?_) (λc r=>by rw[qm (own c a r)];exact r) λc xs r=>by rw[qm (tup c xs r)];exact r
  rcases hb with rfl|hb
  ·exact k b u ha (by rw[q];simp) r
  ·exact k b u (own b a hb) (by rw[hb];simp) r
theorem qke{fs ex:List jp}{t e:jp}{d:Option jp}(u:Un fs ex H H1 h h')(he:H1 e=some (ze nw C t d e))(o:HO):Un fs ex H (upd H1 e o) h h':=by
 have ne:∀b u',H1 b=some u'->(∀φ,u'≠ .ext φ)->b≠e:=λb u' r n z=>by subst z;rw[he]at r;exact n _ (xb r).symm
 refine⟨u.keep,u.slot,λb ob q n hx=>?_,u.there,λb xs q=>?_,λb ob xs q=>?_,λb ps q=>?_⟩
 ·have :=u.free b ob q n hx
  rw[qm (λz=>by subst z;rw[this]at he;cases he)];exact this
 ·have r:=u.jv b xs q;rw[qm (ne b _ r λφ z=>by cases z)];exact r
 ·have r:=u.vI b ob xs q;rw[qm (ne b _ r λφ z=>by cases z)];exact r
 ·obtain⟨m,r⟩:=u.wo b ps q;exact⟨m,by rw[qm (ne b _ r λφ z=>by cases z)];exact r⟩
def zJ(P:cv)(w:fe):vz:=λouter H s E x s'=>∃(e C t T:jp)(d:Option jp)(H':Hp),x= .ref e/\s'.os=s.os/\Sr s'.gens/\Un (xR outer) [] H H' s.heap s'.heap/\zF P w H' s'.heap/\
 H' e=some (ze false C t d e)/\s.heap.get? e=none/\(~~~s)<=T/\H' T=none/\XA.j6 s'.heap e (.ref C) d (.ref t) (some T) .none/\E (.ref C) (some e) H'
section
variable {base:ll} {s0:zr} {E:XK}
theorem Xs{s:zr}{e t:jp}{d ot fr:Option jp}(I:Inv (jc (zJ P w) P w K mg base N qual scope f cd A outer s0 H0 E) pins σ H s)(he:H e=some (ze nw C t d e))(hn:s0.heap.get? e=none)(hT:∀T,ot=some T->(~~~s0)<=T/\H T=none)(x:XA.j6 s.heap e (.ref C) d (.ref t) ot (fr.elim Value.none λf=>ro f))(hE:E (.ref C) (some e) (upd H e (ze false C t d e))):(jc (zJ P w) P w K mg base N qual scope f cd A outer s0 H0 E).xe (.ref e) s:=by
 have B:=I.base
 have hL:(~~~s0)<=(~~~s0):=qL _
 have pA:((sg qual scope (~~~s0) f cd::outer).filterMap (·.frame))=(~~~s0)::xR outer:=rfl
 refine XA.qkm (base:=base) (env:=sg qual scope (~~~s0) f cd) (outer:=outer) (L:=(~~~s0)) I.ok.frames I.stack rfl x λh' T' hz fx k=>?_
 rw[pA]at k
 have old:∀b o,s0.heap.get? b=some o->b≠e/\some b≠ot/\b≠(~~~s0):=λb o q=>
  ⟨λz=>(by subst z;rw[hn]at q;cases q),λz=>(by have :=(hT b z.symm).1;exact absurd (zu q) (qzg.mpr this)),zK (zu q)⟩
 have un:Un (xR outer) [] H0 H s0.heap h':=
  ⟨λb o q n hb hx=>(have z:=old b o q;k.keep b o z.1 z.2.1 (λhm=>(js.mp hm).elim z.2.2 hb) (B.keep b o q n hb hx)),
   λb o q n hb hx=>(have z:=old b o q;by
    obtain⟨sl,r⟩:=B.slot b o q n hb hx
    obtain⟨iR,r'⟩:=k.slot b _ z.1 z.2.1 r
    exact⟨iR,r'⟩),
   B.free,λb o q hx=>(by
    obtain⟨o',r⟩:=B.there b o q hx
    exact k.there b o' r),B.jv,B.vI,B.wo⟩
 refine⟨e,C,t,T',d,upd H e (ze false C t d e),rfl,I.os,I.bare,qke un he _,I.qt.Xr he fx λb o hb xS q=>?_,qu,hn,?_,?_,fx,hE⟩
 ·refine k.keep b o hb (λz=>xS (hT b z.symm).2) (λhm=>xS ?_) q
  exact I.dM b hm
 ·rcases hz with hz|hz
  ·exact vy I.sz hz
  ·exact(hT T' hz.symm).1
 ·have fr:H T'=none:=hz.elim I.qt.fresh λhz=>(hT T' hz.symm).2
  have ne:T'≠e:=λz=>by subst z;rw[he]at fr;cases fr
  rw[qm ne];exact fr
theorem wZ:Passes (zJ P w) (jc (zJ P w) P w K mg base N qual scope f cd A outer s0 H0 E) E:=by
 intro pins σ H s x s' I hx
 obtain⟨e,C,t,T,d,H',rfl,os,bare,un,qt,he,hn,p5,hT,fx,hE⟩:=hx
 have J:=I.d8 (ch:=[]) os un qt bare (λb z=>absurd z (by simp))
 have up:∀b,s.heap.get? b=none->s0.heap.get? b=none:=λb q=>by
  cases r:s0.heap.get? b with
  |none=>rfl
  |some o=>
   obtain⟨o',r'⟩:=I.base.there b o r (by show b∉([]:List jp);simp)
   rw[q]at r';cases r'
 refine Xs (fr:=none) J he (up e hn) (λT' z=>by cases z;exact⟨vy I.sz p5,hT⟩) fx ?_
 have e2:upd H' e (ze false C t d e)=H':=by
  funext b
  by_cases z:b=e
  ·subst z;rw[qu,he]
  ·rw[qm z]
 rw[e2];exact hE
end
end L2
namespace XA
open PySem Builtin Builtin.ObjectAttr
structure lA(M:Model)(h:ll)(C:jp)(l:List zt):Prop where
 mro:Lk M h (mroOf (.ref C)) l
 cd:∃c,Lk M h (qzr C) c/\c.hasDict=true
 Dz:∀self:zt,refuseLoop self "__setattr__" l=pure ()
 sa:Lk M h (cp (.ref C) "__setattr__") (some (.builtin "object.__setattr__"))
 ga:Lk M h (cp (.ref C) "__getattribute__") (some (.builtin "BaseException.__getattribute__"))
 gh:Lk M h (cp (.ref C) "__getattr__") none
 obj:Lk M h (qqV (.ref C) (.type "object")) true
 exc:Lk M h (qqV (.ref C) (.type "BaseException")) true
theorem qkQ(self v:zt)(name:Str)(tk:Tok):X1.«object.__setattr__» ⟨[self,.str name tk,v],[]⟩=
  (do {refuseIfOverridden self "__setattr__";let tp<-typeOf self;let attr<-cp tp name;match <-storeTaker? attr with |some a=>setByDescriptor a self v|none=>storeInOwnDict self tp (.str name tk) name v attr.isSome}):=by kernel_rfl
section
variable {E:zt->zr->Prop} {g:Array qqZ} {d:Drawn} {t:Nat} {e:jp} {o:Obj}
theorem p6{Q:zt->zr->Prop}(he:h.get? e=some o)(hq:Q o.cls ⟨h,g,d,t,os⟩):xI M A (typeOf (.ref e)) Q E ⟨h,g,d,t,os⟩:=by
 unfold typeOf
 repeat (first|with_reducible refine wa he ?_|wp_step)
 exact hq
theorem Dj{c:zt}{b:Bool}{Q:Bool->zr->Prop}(he:h.get? e=some o)(hc:o.cls= .ref C)(L:Lk M h (qqV (.ref C) c) b)(hq:Q b ⟨h,g,d,t,os⟩):xI M A (qz2 (.ref e) c) Q E ⟨h,g,d,t,os⟩:=by
 unfold qz2
 refine qr (p6 he ?_)
 rw[hc]
 exact Lk.at L hq
theorem Dv{i owner n:String}{Q:Unit->zr->Prop}(hk:builtinKind i=some .slot)(hs:splitId i=some (owner,n))(ha:argsOk i ⟨.ref e::rest,[]⟩)(he:h.get? e=some o)(hc:o.cls= .ref C)(L:Lk M h (qqV (.ref C) (.type owner)) true)(hq:Q () ⟨h,g,d,t,os⟩):
  xI M A (dq i ⟨.ref e::rest,[]⟩) Q E ⟨h,g,d,t,os⟩:=by
 simp only[dq,hk,hs]
 refine qr (Dj he hc L ?_)
 simp only[Bool.not_true,Ts,if_false]
 cases hsig:Manifest.signature? i with
 |none=>exact xk hq
 |some sig=>
  simp only[argsOk,hsig]at ha
  have h2:Bind.checkArgs i sig ⟨.ref e::rest,[]⟩=pure ():=ha
  show xI M A (Bind.checkArgs i sig ⟨.ref e::rest,[]⟩) Q E _
  rw[h2];exact xk hq
end
section
variable {E:zt->zr->Prop} {g:Array qqZ} {d:Drawn} {t:Nat}
variable {e:jp} {l:List zt} {vs:Array zt} {sl:Array (Option zt)} {v:zt}
theorem qkZ{Q:Fin->zr->Prop}(XC:lA (vk prog w) h C l)(kT:Lk (vk prog w) h (cp (.ref C) name) none)(he:h.get? e=some {cls:=.ref C,dict:=none,data:=.fields vs,slots:=sl})(hq:∀h' ic,h'.get? e=some {cls:=.ref C,dict:=some h.objs.size,data:=.fields vs,slots:=sl}->h'.Ns1 h.objs.size (λy=>if y=name then some v else none)->
   (∀b o,b≠e->h.get? b=some o->h'.get? b=some o)->Q (.done (.ret .none)) ⟨h',g,d,ic,os⟩):
  xI (vk prog w) A (X1.«object.__setattr__» ⟨[.ref e,.str name tk,v],[]⟩) Q E ⟨h,g,d,t,os⟩:=by
 obtain⟨L1,⟨c,L2,hD⟩,L3,L4,L5,L6,L7,L8⟩:=XC
 have ig:(h.push {cls:=.type "dict",data:=.dict #[]}).get? e=some {cls:=.ref C,dict:=none,data:=.fields vs,slots:=sl}:=qF _ he
 have vP:e≠h.objs.size:=zK (zu he)
 have hgd:((h.push {cls:=.type "dict",data:=.dict #[]}).update e λo=>{cls:=o.cls,dict:=some h.objs.size,data:=o.data,slots:=o.slots}).get? h.objs.size
   =some {cls:=.type "dict",data:=.dict #[]}:=(qzP _ _ _ _ vP.symm).trans (Heap.get?_push_at rfl rfl)
 have p8:((h.push {cls:=.type "dict",data:=.dict #[]}).update e λo=>{cls:=o.cls,dict:=some h.objs.size,data:=o.data,slots:=o.slots}).Ns1 h.objs.size (λ_=>none):=
  qzJ ⟨_,#[],_,hgd,rfl,λx hx=>absurd hx (by simp),λ_=>rfl⟩
 have Dw:((h.push {cls:=.type "dict",data:=.dict #[]}).update e λo=>{cls:=o.cls,dict:=some h.objs.size,data:=o.data,slots:=o.slots}).get? e
   =some {cls:=.ref C,dict:=some h.objs.size,data:=.fields vs,slots:=sl}:=il _ ig rfl
 rw[qkQ,refuse_eq]
 refine qr (qr (p6 he (qr (Lk.at L1 ?_))))
 rw[L3]
 refine xk (qr (p6 he (qr (Lk.at kT (qr (xk ?_))))))
 show xI _ _ (storeInOwnDict (.ref e) (.ref C) (.str name tk) name v false) _ _ _
 unfold storeInOwnDict
 refine qr (xk (qr ?_))
 show xI _ _ (instanceDict e true) _ _ _
 unfold instanceDict
 refine qr (wa he (qr (Lk.at L2 ?_)))
 rw[hD]
 refine qr (wpAny_alloc' (qr (wpAny_update' ig (xk ?_))))
 show xI _ _ (storeInDict h.objs.size (.str name tk) name v) _ _ _
 unfold storeInDict newKeyGuard
 refine qr (xk (qr (wpAny_nsSet1 p8 λh' xS hs=>?_)))
 obtain⟨oD,esD,epD,JP,JR,JS⟩:=xS.count (Within.cons name v Within.nil)
 refine qr (wpAny_lookBehind JP (by rw[JR];exact pastItsLine_dict (vy JS (by rw[zH,yn,xt];lia))) ?_)
 refine xk (hq h' _ ((hs.2 e vP).trans Dw) xS λb o hb q=>?_)
 exact(hs.2 b (zK (zu q))).trans ((qzP _ _ _ _ hb).trans (qF _ q))
theorem qkX{R:qz1->zr->Prop}(XC:lA (vk prog w) h C l)(kT:Lk (vk prog w) h (cp (.ref C) name) none)(he:h.get? e=some {cls:=.ref C,dict:=none,data:=.fields vs,slots:=sl})(hq:∀h' ic,h'.get? e=some {cls:=.ref C,dict:=some h.objs.size,data:=.fields vs,slots:=sl}->h'.Ns1 h.objs.size (λy=>if y=name then some v else none)->
   (∀b o,b≠e->h.get? b=some o->h'.get? b=some o)->R (.ok (.ret .none)) ⟨h',g,d,ic,os⟩):
  Qr (vk prog w) A (.call (.builtin "object.__setattr__") ⟨[.ref e,.str name tk,v],[]⟩) R ⟨h,g,d,t,os⟩:=by
 refine hZ F.store_object.slot.plain F.store_object.entry ?_
 have ha:=F.store_object.args (.ref e) (.str name tk) v
 refine Dv (i:="object.__setattr__") (owner:="object") (n:="__setattr__") (rest:=[.str name tk,v]) (C:=C) F.store_object.kind F.store_object.split ha he rfl XC.obj ?_
 exact qkZ XC kT he hq
theorem qkK{Q:Unit->zr->Prop}(XC:lA (vk prog w) h C l)(kT:Lk (vk prog w) h (cp (.ref C) name) none)
  (he:h.get? e=some {cls:=.ref C,dict:=none,data:=.fields vs,slots:=sl})
  (hq:∀h' ic,h'.get? e=some {cls:=.ref C,dict:=some h.objs.size,data:=.fields vs,slots:=sl}->h'.Ns1 h.objs.size (λy=>if y=name then some v else none)->
   (∀b o,b≠e->h.get? b=some o->h'.get? b=some o)->Q () ⟨h',g,d,ic,os⟩):
  xI (vk prog w) A (setAttr (.ref e) name v) Q E ⟨h,g,d,t,os⟩:=by
 have f3:=F.store_object.slot.bind (.ref e)
 have L4:=XC.sa
 have key:Qr (vk prog w) A (.call (.builtin "object.__setattr__") ⟨[.ref e,.str name t,v],[]⟩)
   (λr s'=>match r with | .ok (.ret _)=>Q () s'| .ok _=>False| .error x=>E x s') ⟨h,g,d,t+1,os⟩:=qkX XC kT he λh' ic a b c=>hq h' ic a b c
 refine qr (wpAny_mkText ?_)
 refine qr ?_
 refine qr ?_
 refine qr ?_
 refine p6 he ?_
 refine Lk.at L4 ?_
 refine mm ?_
 rw[f3]
 refine qr (xk (qr (sx (dE key λr s' z=>?_))))
 rcases r with x|(v|_|_|_)<;>first|exact z|exact xk (xk z)
theorem qkV{Q:Fin->zr->Prop}(XC:lA (vk prog w) h C l)(kT:Lk (vk prog w) h (cp (.ref C) name) none)(he:h.get? e=some {cls:=.ref C,dict:=some dx,data:=.fields vs,slots:=sl})(hn:h.Ns dx mA)(hv:mA name=some v)(hq:Q (.done (.ret v)) ⟨h,g,d,t,os⟩):
  xI (vk prog w) A (X1.«object.__getattribute__» ⟨[.ref e,.str name tk],[]⟩) Q E ⟨h,g,d,t,os⟩:=by
 obtain⟨L1,⟨c,L2,hD⟩,L3,L4,L5,L6,L7,L8⟩:=XC
 unfold X1.«object.__getattribute__» ObjectAttr.find ownThenClass inOwnDict ownDict instanceDict
 repeat (first|with_reducible refine wa he ?_|with_reducible refine Lk.at kT ?_|with_reducible refine Lk.at L2 ?_|(with_reducible refine wpAny_nsGet hn ?_;rw[hv])|rw[hD]|wp_step)
 exact hq
theorem qkW{R:qz1->zr->Prop}(XC:lA (vk prog w) h C l)(kT:Lk (vk prog w) h (cp (.ref C) name) none)(he:h.get? e=some {cls:=.ref C,dict:=some dx,data:=.fields vs,slots:=sl})(hn:h.Ns dx mA)(hv:mA name=some v)(hq:R (.ok (.ret v)) ⟨h,g,d,t,os⟩):
  Qr (vk prog w) A (.call (.builtin "BaseException.__getattribute__") ⟨[.ref e,.str name tk],[]⟩) R ⟨h,g,d,t,os⟩:=by
 refine hZ F.excAttr_ValueError.ga.plain F.entry_bexc_ga ?_
 have ha:=F.args_bexc_ga (.ref e) (.str name tk)
 have hk:builtinKind "BaseException.__getattribute__"=some .slot:=by ext
 have hs:splitId "BaseException.__getattribute__"=some ("BaseException","__getattribute__"):=by ext
 refine Dv (i:="BaseException.__getattribute__") (owner:="BaseException") (n:="__getattribute__") (rest:=[.str name tk]) (C:=C) hk hs ha he rfl XC.exc ?_
 exact qkV XC kT he hn hv hq
theorem qkY{Q:zt->zr->Prop}{expr:Bool}(XC:lA (vk prog w) h C l)(kT:Lk (vk prog w) h (cp (.ref C) name) none)(he:h.get? e=some {cls:=.ref C,dict:=some dx,data:=.fields vs,slots:=sl})(hn:h.Ns dx mA)(hv:mA name=some v)(hh:handedOut v=pure v)(hq:Q v ⟨h,g,d,t+1,os⟩):
  xI (vk prog w) A (getAttr (.ref e) name expr) Q E ⟨h,g,d,t,os⟩:=by
 have f3:=F.excAttr_ValueError.ga.bind (.ref e)
 have key:Qr (vk prog w) A (.call (.builtin "BaseException.__getattribute__") ⟨[.ref e,.str name t],[]⟩)
   (λr s'=>r= .ok (.ret v)/\s'=⟨h,g,d,t+1,os⟩) ⟨h,g,d,t+1,os⟩:=qkW XC kT he hn hv ⟨rfl,rfl⟩
 have hx0:(expr&&onTheHeap (Value.builtin "BaseException.__getattribute__"))=false:=by cases expr<;>rfl
 have xh:(Value.builtin "BaseException.__getattribute__"==Value.builtin "object.__getattribute__")=false:=by ext
 have L5:=XC.ga
 have L6:=XC.gh
 unfold getAttr
 refine qr (wpAny_mkText ?_)
 unfold getAttrBy
 refine mm (qr (p6 he (qr (Lk.at L5 ?_))))
 dsimp only
 rw[xh,qqP]
 show xI _ _ (getAttrByItsOwn (.ref e) (.str name t) (.ref C) (.builtin "BaseException.__getattribute__") true expr) _ _ _
 unfold getAttrByItsOwn
 refine qr (Lk.at L6 (qr (wpAny_attempt (mm ?_))))
 unfold callGetattribute
 rw[hx0]
 show xI _ _ (boundAndCalled (.builtin "BaseException.__getattribute__") (.ref e) (.str name t)) _ _ _
 unfold boundAndCalled
 rw[f3]
 refine qr (xk (sx (dE key λr s' z=>?_)))
 obtain⟨rfl,rfl⟩:=z
 show xI _ _ (handedOut v) _ _ _
 rw[hh]
 exact xk hq
end
open Builtin.BaseException Builtin.Str
section
variable {E:zt->zr->Prop} {g:Array qqZ} {d:Drawn} {t:Nat}
variable {e:jp} {l:List zt} {vs:Array zt} {sl:Array (Option zt)} {v:zt} {B iy:String} {lS:List zt} {dd:Option jp}
theorem qkO(F:SU B newId iy lS){R:qz1->zr->Prop}{c:ClassData}(L:Lk (vk prog w) h (qqV (.ref C) (.type B)) true)(Lc:Lk (vk prog w) h (qzr C) c)(he:h.get? e=some {cls:=.ref C,dict:=dd,data:=.fields vs,slots:=sl}){t0:jp}(hz:vs.size=6)(h0:vs[0]? =some (.ref t0))(yt:rest.length<=sizeLine)(hq:∀h',h'.get? e=some {cls:=.ref C,dict:=dd,data:=.fields (vs.setIfInBounds 0 (.ref h.objs.size)),slots:=sl}->h'.get? h.objs.size=some {cls:=.type "tuple",data:=.seq rest.toArray}->
   (∀b o,b≠e->h.get? b=some o->h'.get? b=some o)->R (.ok (.ret .none)) ⟨h',g,d,t,os⟩):
  Qr (vk prog w) A (.call (.builtin iy) ⟨.ref e::rest,[]⟩) R ⟨h,g,d,t,os⟩:=by
 refine hZ F.init.plain F.initEntry ?_
 have c3:=F.noStar
 simp only[dq,F.initKind,F.initSplit,F.initRow]
 refine qr (Dj he rfl L ?_)
 repeat (first|with_reducible refine wa he ?_|with_reducible refine Lk.at Lc ?_|wp_step)
 refine Iy ?_
 rw[show∀(a b:String)(n:Nat),Bind.check ⟨.positional,"*",B,.self,[⟨"args",.varPos,false⟩]⟩ a b n (List.map (λx=>x.fst) ({pos:=Value.ref e::rest}:Args).kw)=pure ()from
  λa b n=>check_star_args _ _ _ _ _ _]
 refine xk ?_
 have u5:(h.push {cls:=.type "tuple",data:=.seq rest.toArray}).get? e=some {cls:=.ref C,dict:=dd,data:=.fields vs,slots:=sl}:=qF _ he
 have jP:e≠h.objs.size:=zK (zu he)
 wp_walk
 rw[h0]
 refine xk (qr (V' u5 rfl (by lia) ?_))
 have hx:((h.push {cls:=.type "tuple",data:=.seq rest.toArray}).update e (hV (·.setIfInBounds 0 (Value.ref h.objs.size)))).get? e=some {cls:=.ref C,dict:=dd,data:=.fields (vs.setIfInBounds 0 (.ref h.objs.size)),slots:=sl}:=
  il (hV (·.setIfInBounds 0 (Value.ref h.objs.size))) u5 (bo (lm rfl _))
 wp_walk
 refine hq _ hx ?_ λb o hb q=>?_
 ·exact(yB _ _ jP).trans (jg _ rfl)
 ·exact(yB _ _ (y7 hb)).trans (qF _ q)
end
end XA
namespace L2
open PySem PySem.Spec PyProof.Rows
structure XC(K:Fg)(C:jp)(bm:List zt):Prop where
 obj:∃nm q N bs sn sub ab col dd k0 k1 k2 k3 k5,K.lookup C=some (pE nm q C N bs bm true sn sub ab col dd k0 k1 k2 k3 k5 "ValueError.__new__")
 ab:XA.Above "ValueError" bm
 top:bm.contains (.type "object")=true
 Dz:∀self,refuseLoop self "__setattr__" (.ref C::bm)=pure ()
 sa:PySem.W.findIn K (.ref C) "__setattr__"=some (some (.builtin "object.__setattr__"))
 ga:PySem.W.findIn K (.ref C) "__getattribute__"=some (some (.builtin "BaseException.__getattribute__"))
 gh:PySem.W.findIn K (.ref C) "__getattr__"=some none
 st:PySem.W.findIn K (.ref C) "__str__"=some (some (.builtin "BaseException.__str__"))
 kp:PySem.W.keepIn K (.ref C)=true
theorem Xa{c:zt}{b:Bool}(x:XC K C bm)(X:K.In h)(e:(Value.ref C::bm).contains c=b):XA.Lk M h (qqV (.ref C) c) b:=by
 obtain⟨nm,q,N,bs,sn,sub,ab,col,dd,k0,k1,k2,k3,k5,lC⟩:=x.obj
 intro A Q E s k hq
 obtain⟨hh,g,d,t,os⟩:=s
 refine cf (k _ _ (X _ _ lC)) ?_
 rw[e];exact hq
theorem XC.cls(x:XC K C bm)(X:K.In h):XA.lA M h C (.ref C::bm):=by
 obtain⟨nm,q,N,bs,sn,sub,ab,col,dd,k0,k1,k2,k3,k5,lC⟩:=x.obj
 have cdl:∃c:ClassData,XA.Lk M h (qzr C) c/\c.hasDict=true:=by
  refine⟨{name:=nm,bases:=bs,mro:=.ref C::bm,ns:=N,qualname:=q,hasDict:=true,slotNames:=sn,subclasses:=sub,abstract:=ab,collection:=col,hasDel:=false},?_,rfl⟩
  intro A Q E s k hq
  unfold qzr
  exact qr (wpAny_load (k _ _ (X _ _ lC)) (xk hq))
 have qkC:XA.Lk M h (mroOf (.ref C)) (.ref C::bm):=by
  intro A Q E s k hq
  obtain⟨hh,g,d,t,os⟩:=s
  exact wpAny_mroOf_exc (k _ _ (X _ _ lC)) hq
 exact⟨qkC,cdl,x.Dz,PySem.W.looks_findIn X x.sa,PySem.W.looks_findIn X x.ga,PySem.W.looks_findIn X x.gh,Xa x X (by rw[og,x.top,eQ]),Xa x X (by rw[og,x.ab.base,eQ])⟩
theorem Un.rq{fs ex:List jp}{b:jp}{u:HO}(k:∀c v,h.get? c=some v->h'.get? c=some v)(ha:h.objs.size<=a)(hb:h.objs.size<=b)(na:H a=none)(nb:H b=none):Un fs ex H (upd (upd H a o) b u) h h' where
 keep:=λc v q _ _ _=>k c v q
 slot:=λc v q _ _ _=>⟨v.slots,k c v q⟩
 free:=λc v q n _=>by rw[qm (zK (vx (zu q) hb)),qm (zK (vx (zu q) ha))];exact n
 there:=λc v q _=>⟨v,k c v q⟩
 jv:=λc xs q=>by rw[qm (zM q nb),qm (zM q na)];exact q
 vI:=λc v xs q=>by rw[qm (zM q nb),qm (zM q na)];exact q
 wo:=λc ps q=>⟨#[],by rw[qm (zM q nb),qm (zM q na),q];simp⟩
theorem zF.rq{b:jp}{u:HO}(x:zF P w H h)(k:∀c v,h.get? c=some v->h'.get? c=some v)(na:H a=none)(nb:H b=none)(Xe:jW P w (upd (upd H a o) b u) h' a o)(XQ:jW P w (upd (upd H a o) b u) h' b u):zF P w (upd (upd H a o) b u) h':=λc v e=>by
 by_cases hb:c=b
 ·subst hb;rw[qu]at e;cases e;exact XQ
 ·rw[qm hb]at e
  by_cases ha:c=a
  ·subst ha;rw[qu]at e;cases e;exact Xe
  ·rw[qm ha]at e
   exact(x c v e).xP (λc v _ q=>k c v q) (λc q=>by rw[qm (zM q nb),qm (zM q na)];exact q) λc xs q=>by rw[qm (zM q nb),qm (zM q na)];exact q
section
variable {k:Nat} {ds:List zt} {E:XK} {m:Str} {p:Pos} {o:hU}
def Dy(C:jp)(sp:Sp)(zW:List V)(E:XK)(t:TA):TE:=λσ H Q=>t σ H λvs H1=>vs.length<=sizeLine/\∀a b,H1 a=none->H1 b=none->a≠b->
 sp (.ref b::(vs++zW)) (upd (upd H1 a (.tup vs)) b (ze true C a none b)) (λv H2=>v= .qd/\Q (.ref b) H2) E
theorem qkL{s:zr}{Q:VK}(xc:XC X.K C bm)(hi:PySem.W.findIn X.K (.ref C) "__init__"=some (some (.ref f)))(wM:PySem.W.typeIn X.K (.ref f)=some (.type "function"))(F:xg X.prog X.w X.K X.mg X.base CX k f fd ps sp)(hr:z7 (k+1) X.A)(hb:Binds X.K fd ps ds)(hd:Vals zW ds)(hx:Passes CX X E)(I:Inv X pins σ H s)(r:Vals vs us)(hz:vs.length<=sizeLine)(h:∀a b,H a=none->H b=none->a≠b->sp (.ref b::(vs++zW)) (upd (upd H a (.tup vs)) b (ze true C a none b)) (λv H2=>v= .qd/\Q (.ref b) H2) E):
  xI (vk X.prog X.w) X.A (call (.ref C) us) (EP X pins σ Q) X.xe s:=by
 obtain⟨nm,q,N,bs,sn,sub,ab,col,dd,k0,k1,k2,k3,k5,lC⟩:=xc.obj
 have na:H (~~~s)=none:=I.qt.fresh (qL _)
 have nb:H ((~~~s)+1)=none:=I.qt.fresh (eA _)
 have hq:=h (~~~s) ((~~~s)+1) na nb (zK (X2 _))
 have jh:us.length<=sizeLine:=by rw[<-r.length];exact hz
 have I2:Inv X pins σ (upd (upd H (~~~s) (.tup vs)) ((~~~s)+1) (ze true C (~~~s) none ((~~~s)+1)))
   {s with heap:=(s.heap.push {cls:=.type "tuple",data:=.seq us.toArray}).push {cls:=.ref C,data:=.fields #[.ref (~~~s),.none,.none,.none,.bool false,.none]}}:=by
  have kk:∀c v,s.heap.get? c=some v->((s.heap.push {cls:=.type "tuple",data:=.seq us.toArray}).push {cls:=.ref C,data:=.fields #[.ref (~~~s),.none,.none,.none,.bool false,.none]}).get? c=some v:=
   λc v z=>qF _ (qF _ z)
  refine I.un (t':=s.toks) (Un.rq kk (qL _) (eA _) na nb) (I.qt.rq kk na nb ?_ ?_)
  ·exact⟨hz,us,r,⟨_,qF _ (jg _ rfl),rfl,_,rfl⟩⟩
  ·exact pR (by heap_get) rfl rfl λ_=>rfl
 have r2:Vals (V.ref ((~~~s)+1)::(vs++zW)) (Value.ref ((~~~s)+1)::(us++ds)):=.cons rfl (r.append hd)
 have hl:(Value.ref ((~~~s)+1)::us++ds).length=ps.length:=by
  have e:=r2.length
  rw[F.len _ _ _ _ hq]at e
  exact e.symm
 obtain⟨oI,hoI,Xm⟩:=ve.mp wM
 obtain⟨hh,gg,vH,tt,oo⟩:=s
 refine sx (XA.call_cls (I.zZ _ _ lC) (XA.qky (PySem.F.excBase_ValueError) xc.ab (I.zZ _ _ lC) (PySem.W.looks_findIn I.zZ hi) (I.zZ _ _ hoI) Xm ?_ jh))
 refine sx (dE (F.run _ X.stack _ _ ⟨Value.ref (hh.objs.size+1)::us,[]⟩ (Value.ref (hh.objs.size+1)::(us++ds)) _ _ E (hr.make C us [])
  (I2.fD.make C us []) (hb _ (Value.ref (hh.objs.size+1)::us) I2.zZ hl) r2 hq) λr s' wN=>?_)
 cases r with
 |error e=>exact hx pins σ _ _ e s' I2 wN
 |ok fl=>
  cases fl with
  |ret u=>
   obtain⟨v,H',I3,rv,ev,q3⟩:=I2.after wN
   subst ev
   exact⟨rv,⟨V.ref (hh.objs.size+1),H',I3,rfl,q3⟩⟩
  |next=>exact iq wN
  |brk=>exact iq wN
  |cont=>exact iq wN
theorem XZ(xc:XC X.K C bm)(hi:PySem.W.findIn X.K (.ref C) "__init__"=some (some (.ref f)))(wM:PySem.W.typeIn X.K (.ref f)=some (.type "function"))
  (F:xg X.prog X.w X.K X.mg X.base CX k f fd ps sp)(hr:z7 (k+1) X.A)(hg:Gl X x)(hm:X.mg x=some (.ref C))(hb:Binds X.K fd ps ds)(hd:Vals zW ds)(hx:Passes CX X E)
  (ha:PA X (e::es) t)(jw:(x==("__debug__":Str))=false:=by decide)(he:ky (e::es) X.env=(false,eval e X.env)::ky es X.env:=by rfl)(qH:(gN pos (ky es X.env)).any (·.1)=false:=by rfl):
  PE X (.Call (.Name x p) (e::es) [] pos) (Dy C sp zW E t):=by
 exfalso
 refine oP (wl I hg hm ?_ jw)
 refine PySem.W.callWith_K (h₀:=X.base) I.ok.mod.yN xc.kp (qX (ha pos pins s σ H _ I h) λus s1⟨vs,H1,I1,r,hz,q⟩=>⟨I1.zZ,?_⟩) he qH
 exact qkL xc hi wM F hr hb hd hx I1 r hz q
def Du(C:jp)(t:TA):TE:=λσ H Q=>t σ H λvs H1=>vs.length<=sizeLine/\∀a b,H1 a=none->H1 b=none->a≠b->Q (.ref b) (upd (upd H1 a (.tup vs)) b (ze true C a none b))
theorem qkM{s:zr}{Q:VK}(xc:XC X.K C bm)(hi:PySem.W.findIn X.K (.ref C) "__init__"=some (some (.builtin "ValueError.__init__")))(I:Inv X pins σ H s)(r:Vals vs us)(hz:vs.length<=sizeLine)(h:∀a b,H a=none->H b=none->a≠b->Q (.ref b) (upd (upd H a (.tup vs)) b (ze true C a none b))):
  xI (vk X.prog X.w) X.A (call (.ref C) us) (EP X pins σ Q) X.xe s:=by
 obtain⟨nm,q,N,bs,sn,sub,ab,col,dd,k0,k1,k2,k3,k5,lC⟩:=xc.obj
 have na:H ((~~~s)+2)=none:=I.qt.fresh (pk _ _)
 have nb:H ((~~~s)+1)=none:=I.qt.fresh (eA _)
 have hq:=h ((~~~s)+2) ((~~~s)+1) na nb (qqe (X2 _))
 have jh:us.length<=sizeLine:=by rw[<-r.length];exact hz
 obtain⟨hh,gg,vH,tt,oo⟩:=s
 refine sx (XA.call_cls (I.zZ _ _ lC) (XA.qki (PySem.F.excBase_ValueError) xc.ab (I.zZ _ _ lC) (PySem.W.looks_findIn I.zZ hi) (λh' kk he ht=>?_) jh))
 refine⟨V.ref (hh.objs.size+1),_,?_,rfl,hq⟩
 refine I.un (t':=tt) (Un.rq kk (pk _ _) (eA _) na nb) (I.qt.rq kk na nb ?_ ?_)
 ·exact⟨hz,us,r,⟨_,ht,rfl,_,rfl⟩⟩
 ·exact pR he rfl rfl λ_=>rfl
theorem nZ(xc:XC X.K C bm)(hi:PySem.W.findIn X.K (.ref C) "__init__"=some (some (.builtin "ValueError.__init__")))(hg:Gl X x)(hm:X.mg x=some (.ref C))
  (ha:PA X (e::es) t)(jw:(x==("__debug__":Str))=false:=by decide)(he:ky (e::es) X.env=(false,eval e X.env)::ky es X.env:=by rfl)(qH:(gN pos (ky es X.env)).any (·.1)=false:=by rfl):
  PE X (.Call (.Name x p) (e::es) [] pos) (Du C t):=by
 exfalso
 refine oP (wl I hg hm ?_ jw)
 refine PySem.W.callWith_K (h₀:=X.base) I.ok.mod.yN xc.kp (qX (ha pos pins s σ H _ I h) λus s1⟨vs,H1,I1,r,hz,q⟩=>⟨I1.zZ,?_⟩) he qH
 exact qkM xc hi I1 r hz q
end
theorem Un.put2{fs ex:List jp}{e:jp}{u:HO}(k:∀c v,c≠e->h.get? c=some v->h'.get? c=some v)(he:∃v,h'.get? e=some v)(ha:h.objs.size<=a)(na:H a=none)(mu:yl (H e)):Un fs ex H (upd (upd H a o) e u) h h':=by
 have ne:∀c,H c=none->c≠e:=λc n z=>by subst z;rw[n]at mu;exact mu
 have nm:∀c v,H c=some v->¬yl (some v)->c≠e:=λc v q n z=>by subst z;rw[q]at mu;exact n mu
 refine⟨λc v q n _ _=>k c v (ne c n) q,λc v q n _ _=>⟨v.slots,k c v (ne c n) q⟩,λc v q n _=>?_,λc v q _=>?_,λc xs q=>?_,λc v xs q=>?_,λc ps q=>⟨#[],?_⟩⟩
 ·rw[qm (ne c n),qm (zK (vx (zu q) ha))];exact n
 ·by_cases z:c=e
  ·subst z;exact he
  ·exact⟨v,k c v z q⟩
 ·rw[qm (nm c _ q λz=>z),qm (zM q na)];exact q
 ·rw[qm (nm c _ q λz=>z),qm (zM q na)];exact q
 ·rw[qm (nm c _ q λz=>z),qm (zM q na),q];simp
theorem zF.put2{e:jp}{u:HO}(x:zF P w H h)(k:∀c v,c≠e->h.get? c=some v->h'.get? c=some v)(na:H a=none)(mu:yl (H e))(Xe:jW P w (upd (upd H a o) e u) h' a o)(XQ:jW P w (upd (upd H a o) e u) h' e u):zF P w (upd (upd H a o) e u) h':=by
 have nm:∀c v,H c=some v->¬yl (some v)->c≠e:=λc v q n z=>by subst z;rw[q]at mu;exact n mu
 intro c v q
 by_cases hb:c=e
 ·subst hb;rw[qu]at q;cases q;exact XQ
 ·rw[qm hb]at q
  by_cases ha:c=a
  ·subst ha;rw[qu]at q;cases q;exact Xe
  ·rw[qm ha]at q
   refine(x c v q).xP (λb w' jE r=>k b w' ?_ r) (λb r=>by rw[qm (nm b _ r λz=>z),qm (zM r na)];exact r) λb xs r=>by rw[qm (nm b _ r λz=>z),qm (zM r na)];exact r
   rcases jE with rfl|jE
   ·exact hb
   ·exact nm b _ jE λz=>z
section
variable {base:ll} {s0:zr} {E:XK}
inductive qkN(H0:Hp)(E:XK)(C:jp)(v:V)(H1:Hp):Prop
 |mk (e:_) (t:_) (d:_) (qQ:v= .ref e) (qZ:H1 e=some (ze true C t d e)) (qV:H0 e=none) (qG:E (.ref C) (some e) (upd H1 e (ze false C t d e)))
def XJ(H0:Hp)(E:XK)(C:jp)(te:TE):TS:=λzh σ H=>te σ H λv H1=>qkN H0 E C v H1
theorem ir{x:hU}(xc:XC K C bm)(hx:PE (jc (zJ P w) P w K mg base N qual scope f cd A outer s0 H0 E) x te):
  PS (jc (zJ P w) P w K mg base N qual scope f cd A outer s0 H0 E) (.Raise (some x) none pos) (XJ H0 E C te):=by
 intro pins s σ H D I h
 obtain⟨nm,q,N',bs,sn,sub,ab,col,dd,k0,k1,k2,k3,k5,lC⟩:=xc.obj
 refine XA.qkb (C:=C) (nm:=nm) (q:=q) (N:=N') (bs:=bs) (bm:=bm) (hdct:=true) (sn:=sn) (sub:=sub) (ab:=ab) (col:=col) (dd:=dd) (k0:=k0) (k1:=k1) (k2:=k2) (k3:=k3) (k5:=k5) (newId:="ValueError.__new__") xc.ab.base (I.ok.hd rfl)
  (qX (hx pins s σ H _ I h) λu s1⟨v,H1,I1,rv,e,t,d,ev,he,h0,hE⟩=>?_)
 subst ev
 obtain rfl:u=Value.ref e:=rv
 have fx:=qkt (I1.qt e _ he)
 refine⟨e,d,.ref t,rfl,I1.zZ _ _ lC,fx,Xs (fr:=none) I1 he ?_ (λT z=>by cases z) fx hE⟩
 cases q':s0.heap.get? e with
 |none=>rfl
 |some o=>
  have :=I1.base.free e o q' h0 (by show e∉([]:List jp);simp)
  rw[he]at this;cases this
end
section
variable {S:jp} {m:Str} {p:Pos} {o value:hU}
inductive qkB(K:Fg)(Q:VK)(vs:List V)(H1:Hp):Prop
 |mk (e:_) (C:_) (tt:_) (d:_) (nw:_) (bm:_) (rest:_) (qQ:vs= .ref e::rest) (qZ:H1 e=some (ze nw C tt d e)) (qV:XC K C bm) (qG:rest.length<=sizeLine) (zm:∀a,H1 a=none->Q .qd (upd (upd H1 a (.tup rest)) e (ze nw C a d e)))
def qkD(K:Fg)(t:TA):TE:=λσ H Q=>t σ H λvs H1=>qkB K Q vs H1
theorem Di(hg:Gl X x)(hm:X.mg x=some (.ref S))(hga:PySem.W.specialIn X.K (.ref S) "__getattribute__"=some (some (.builtin "type.__getattribute__")))(BD:PySem.W.readsIn X.K S (.type "type")=true)(hf:PySem.W.findCls X.K (.ref S) (.type "type") "__init__"=some (.val (.builtin "ValueError.__init__")))(ha:PA X (e::es) t)(jw:(x==("__debug__":Str))=false:=by decide)(he:ky (e::es) X.env=(false,eval e X.env)::ky es X.env:=by rfl)(qH:(gN pos (ky es X.env)).any (·.1)=false:=by rfl)(ht:eval (.Call (.Attribute (.Name x p) "__init__" apos) (e::es) [] pos) X.env=(do
   let ov<-eval (.Name x p) X.env
   standAt apos.atName
   let(f,first)<-holding [ov] (qqK ov "__init__" pl)
   Pl pos f first (gN pos (ky (e::es) X.env)) (ac pos (gd [] X.env))):=by rfl):
  PE X (.Call (.Attribute (.Name x p) "__init__" apos) (e::es) [] pos) (qkD X.K t):=by
 exfalso
 refine PySem.W.methodCall_KW (pl:=pl) (wl I hg hm ?_ jw) ht
 refine PySem.W.method_cls I.zZ hga (PySem.W.cls_value I.zZ BD hf (by ext) ?_)
 have I0:=I.tok (s.toks+1)
 have hA:=ha pos pins _ σ H _ I0 h
 rw[he]at hA⊢
 refine eM (by show(false||(gN pos (ky es X.env)).any (·.1))=false;rw[qH]<;>rfl) (Hn ?_)
 refine qX hA λus s2⟨vs,H2,I2,r2,e',C',tt,d,nw,nQ,rest,ev,hE,xc,hz,q⟩=>?_
 subst ev
 cases r2 with
 | @cons _ u _ Qp r1 r3=>
  obtain rfl:u=Value.ref e':=r1
  obtain⟨nm,q',N',bs,sn,sub,ab,col,dd,k0,k1,k2,k3,k5,lC⟩:=xc.obj
  obtain⟨nJ,sl,ho,wJ,h0,h1⟩:=pS (I2.qt e' _ hE)
  have hzu:Qp.length<=sizeLine:=by rw[<-r3.length];exact hz
  obtain⟨hh,g,d',tk,os⟩:=s2
  have na:H2 hh.objs.size=none:=I2.qt.fresh (qL _)
  have mu:yl (H2 e'):=by rw[hE];exact ze.Dq
  have nee:hh.objs.size≠e':=λz=>by rw[z,hE]at na;cases na
  refine sx (XA.qkO PySem.F.excBase_ValueError (Xa xc I2.zZ (by rw[og,xc.ab.hasB,eQ]))
   (λA' Q' E' s' k' wN=>by unfold qzr;exact qr (wpAny_load (k' _ _ (I2.zZ _ _ lC)) (xk wN))) ho wJ h0 hzu λh' rj lE kk=>?_)
  refine⟨.qd,_,?_,rfl,q hh.objs.size na⟩
  refine I2.un (t':=tk) (Un.put2 kk ⟨_,rj⟩ (qL _) na mu) (I2.qt.put2 kk na mu ?_ ?_)
  ·exact⟨hz,Qp,r3,⟨_,lE,rfl,_,rfl⟩⟩
  ·refine pR rj (by simpa using wJ) (by simp[wJ]) λz=>?_
   rw[AC (by decide)]
   exact h1 z
inductive qkP(K:Fg)(f:Str)(N_:St->Hp->Prop)(σ:St)(y:V)(x:V)(H2:Hp):Prop
 |mk (e:_) (C:_) (t:_) (nw:_) (bm:_) (qQ:x= .ref e) (qZ:H2 e=some (ze nw C t none e)) (qV:XC K C bm) (qG:jO K C f) (zm:∀d,H2 d=none->N_ σ (upd (upd H2 d (.xd [(f,y)])) e (ze nw C t (some d) e)))
def qkR(K:Fg)(ta tv:TE)(f:Str):TS:=λD σ H=>tv σ H λy H1=>ta σ H1 λx H2=>qkP K f D.nx σ y x H2
theorem Dl(ha:PE X o ta)(hv:PE X value tv)(hs:Nw value (some (.Attribute o name pos')) pos.line X.env=pure false:=by rfl):PS X (.Assign [.Attribute o name pos'] value pos) (qkR X.K ta tv name):=by
 intro pins s σ H D I h
 refine qqH (qX (hv pins s σ H _ I h) λu s1⟨y,H1,I1,ry,q⟩=>qX (ha pins s1 σ H1 _ I1 q) λov s2⟨x,H2,I2,rx,e',C',t',nw,nQ,ex,hE,xc,kT,q2⟩=>?_) hs
 subst ex
 obtain rfl:ov=Value.ref e':=rx
 obtain⟨nJ,sl,ho,wJ,h0,h1⟩:=pS (I2.qt e' _ hE)
 obtain⟨hh,g,d',tk,os⟩:=s2
 have na:H2 hh.objs.size=none:=I2.qt.fresh (qL _)
 have mu:yl (H2 e'):=by rw[hE];exact ze.Dq
 refine XA.qkK (xc.cls I2.zZ) (PySem.W.looks_findIn I2.zZ kT) ho λh' ic rj xS kk=>?_
 refine⟨σ,_,?_,q2 hh.objs.size na⟩
 refine I2.un (t':=ic) (Un.put2 kk ⟨_,rj⟩ (qL _) na mu) (I2.qt.put2 kk na mu ?_ ?_)
 ·refine⟨_,xS,λg'=>?_⟩
  by_cases z:g'=name
  ·subst z
   simp only[i5,y8,qq9]
   exact ry
  ·have z':(g'==name)=false:=kS.mpr z
   simp only[i5,z',ke z]
   trivial
 ·exact pR rj wJ h0 h1
inductive qkS(K:Fg)(f:Str)(Q:VK)(x:V)(H1:Hp):Prop
 |mk (e:_) (C:_) (t:_) (d:_) (nw:_) (bm:_) (fs:_) (v:_) (qQ:x= .ref e) (qZ:H1 e=some (ze nw C t (some d) e)) (qV:XC K C bm) (qG:jO K C f) (zm:H1 d=some (.xd fs)) (je:fs.lookup f=some v) (kc:Q v H1)
def qkT(K:Fg)(ta:TE)(f:Str):TE:=λσ H Q=>ta σ H λx H1=>qkS K f Q x H1
theorem Dg(he:PE X e ta)(hb:OK e name X.env (eval e X.env)=eval e X.env:=by rfl):PE X (.Attribute e name pos) (qkT X.K ta name):=by
 exfalso
 refine Bo hb (qX (he pins s σ H _ I h) λu s1⟨x,H1,I1,rx,e',C',t',d,nw,nQ,fs,v,ex,hE,xc,kT,hd,hl,q⟩=>?_)
 subst ex
 obtain rfl:u=Value.ref e':=rx
 obtain⟨nJ,sl,ho,wJ,h0,h1⟩:=pS (I1.qt e' _ hE)
 obtain⟨mA,hn,hr⟩:=(show∃mA,s1.heap.Ns1 d mA/\∀f,kD (fs.lookup f) (mA f)from I1.qt d _ hd)
 obtain⟨u',hu,ru⟩:=kD.some_of (v:=v) (o:=mA name) (by rw[<-hl];exact hr name)
 obtain⟨hh,g,d',tk,os⟩:=s1
 exact XA.qkY (xc.cls I1.zZ) (PySem.W.looks_findIn I1.zZ kT) ho hn.ns hu (PySem.W.handedOut_of (Bw ru)) ⟨v,H1,I1.tok _,ru,q⟩
end
open Builtin Builtin.ObjectAttr
section
variable {E:zt->zr->Prop} {e:jp} {ox:Obj} {od:Option Obj}
end
end L2
namespace L2
open PySem PySem.Spec PyProof.Rows PyProof
theorem qkA:jf X (HI .Mult) (rI IntMulOk λi j=>.int (i*j)):=Qq λ_ _ _ _ _ _ _ hc q=>mul_int q hc
theorem qkE:i6 X "str.startswith" (λx xs H Q=>∃z y,x= .str z/\xs=[.str y]/\Q (.bl (Txt.startswith z y)) H):=by
 intro pins s σ H x xs v us Q I rx rs h
 obtain⟨z,y,rfl,rfl,q⟩:=h
 obtain⟨t,rfl⟩:=rx
 obtain⟨u,rfl,t',rfl⟩:=vals1 rs
 exact call_gives F.slot_str_startswith (Kk s z t) F.entry_str_startswith (F.args_str_startswith_2 _ _) (gives_str_startswith z y t t') ⟨.bl _,H,I,rfl,q⟩
theorem qk0{ys:List Str}:∀{us:List zt},Vals (ys.map V.str) us->StrsAre us ys:=by
 induction ys with
 |nil=>intro us r;rw[eJ]at r;cases r;exact .nil
 |cons n ns ih=>
  intro us r
  rw[wq]at r
  cases r with
  |cons r1 r2=>
   obtain⟨t,e⟩:=r1
   subst e
   exact .cons n t (ih r2)
theorem XX:i6 X "str.join" (λx xs H Q=>∃(z:Str)(p:jp)(ys:List Str),x= .str z/\xs=[.ref p]/\qp X.K H p (ys.map V.str)/\z.length<=16/\(ys.map (·.length)).sum+ys.length<=1048576/\Q (.str (fw z ys)) H):=by
 intro pins s σ H x xs v us Q I rx rs h
 obtain⟨z,p,ys,rfl,rfl,hq,h1,h2,q⟩:=h
 obtain⟨t,rfl⟩:=rx
 obtain⟨u,rfl,e⟩:=vals1 rs
 cases e
 obtain⟨qy,r,pl,hz⟩:=I.list hq
 exact join_listW pl.isList (qk0 r) h1 h2 λt' k=>⟨.str _,H,I.tok _,⟨_,rfl⟩,q⟩
theorem Dn:Qo X (λx lo hi H Q=>∃z,x= .str z/\z.length<=sizeLine/\Q (.str (qzM z lo hi)) H):=by
 intro pins s σ H x v vl vu lo hi sl Q I rx hs pl pu h
 obtain⟨z,rfl,hz,q⟩:=h
 obtain⟨t,rfl⟩:=rx
 refine⟨"str",_,F.slot_str_getitem.lookup,Kk _ _ _,?_⟩
 have fin:∀(l u:Option (Int×Tok)),l.map (·.1)=lo->u.map (·.1)=hi->(sliceMade z t l u none).post (EP X pins σ Q) s:=λl u e1 e2=>by
  subst e1 e2
  exact post_val_or_str ⟨vy (Txt.slice_le z _ _) hz,λt' k=>⟨.str _,H,I.tok _,⟨_,rfl⟩,q⟩⟩
 cases pl with
 |none=>
  cases pu with
  |none=>exact Z' (l:=none) (u:=none) (st:=none) hs rfl (fin _ _ rfl rfl)
  |int j uj=>exact Z' (l:=none) (u:=some (j,uj)) (st:=none) hs rfl (fin _ _ rfl rfl)
 |int i ui=>
  cases pu with
  |none=>exact Z' (l:=some (i,ui)) (u:=none) (st:=none) hs rfl (fin _ _ rfl rfl)
  |int j uj=>exact Z' (l:=some (i,ui)) (u:=some (j,uj)) (st:=none) hs rfl (fin _ _ rfl rfl)
theorem nX:jf X (cq .In) (λx y H Q=>∃c j,x= .str ⟨#[c]⟩/\y= .str j/\Q (.bl (decide (c∈j.cps.toList))) H):=by
 intro pins s σ H x y v u Q I rx ry h
 obtain⟨c,j,rfl,rfl,q⟩:=h
 rw[<-qzG]at q
 exact qxq pins s σ H _ _ v u Q I rx ry ⟨_,_,rfl,rfl,q⟩
theorem qk1:jf X (cq .NotIn) (λx y H Q=>∃c j,x= .str ⟨#[c]⟩/\y= .str j/\Q (.bl (!decide (c∈j.cps.toList))) H):=by
 intro pins s σ H x y v u Q I rx ry h
 obtain⟨c,j,rfl,rfl,q⟩:=h
 rw[<-qzG]at q
 exact qx0 pins s σ H _ _ v u Q I rx ry ⟨_,_,rfl,rfl,q⟩
theorem qk2(hu:X.A.units<eI):jf X (cq .Eq) (λx y H Q=>∃p q xs,x= .ref p/\y= .ref q/\qp X.K H p xs/\qp X.K H q []/\Q (.bl xs.isEmpty) H):=by
 intro pins s σ H x y v u Q I rx ry h
 obtain⟨p,q',xs,rfl,rfl,h1,h2,q⟩:=h
 cases rx
 cases ry
 obtain⟨qy,r1,p1,_⟩:=I.list h1
 obtain⟨xf,r2,p2,_⟩:=I.list h2
 cases r2
 cases r1 with
 |nil=>exact SeqAt.eq_listAt (e:=λ_=>true) p1.isList p2.isList rfl hu (λj h _=>absurd h (by simp)) ⟨.bl true,H,I,rfl,q⟩
 |cons a b=>exact qzw p1.isList p2.isList (by simp) hu ⟨.bl false,H,I,rfl,q⟩
theorem XW(hc:X.calm=true):vG X (.builtin "all") (λxs H Q=>∃(p:jp)(bs:List Bool),xs=[.ref p]/\qp X.K H p (bs.map V.bl)/\Q (.bl (bs.all id)) H):=by
 intro pins s σ H xs us Q I r h
 obtain⟨p,bs,rfl,hq,q⟩:=h
 obtain⟨u,rfl,e⟩:=vals1 r
 cases e
 obtain⟨qy,rv,pl,hz⟩:=I.list hq
 have hlen:qy.length=bs.length:=by rw[<-rv.length,za]
 refine call_all_walk (Ki pl.isList ?_)
 have qH:p<(~~~s):=let⟨o,_,ho,_⟩:=pl;zu ho
 refine⟨(~~~s),_,_,_,_,_,λi=>bs.getD i false,rfl,Walks.list (A:=X.A.in1) (I.ok.hd hc) (~~~s) p (zK qH) qy.toArray,⟨⟨_,jg _ rfl,rfl,rfl⟩,?_⟩,λi v s' Q' E' hP hQ=>?_,λh' tk hk=>?_⟩
 ·obtain⟨o,ho,xq,n,hd⟩:=pl.isList
  exact⟨o,qF _ ho,xq,n,hd⟩
 ·have e1:qy[i]? =some v:=by simpa using hP
  have hi:i<qy.length:=(km.mp e1).1
  have e2:(bs.map V.bl)[i]? =some (.bl (bs.getD i false)):=by
   rw[xH,jm (by lia),tq,jm (by lia)]
   rfl
  obtain⟨u',h1,h2⟩:=rv.get e2
  rw[e1]at h1;cases h1;cases h2
  exact lx hQ
 ·have e3:(qqv qy.toArray.size).all (λi=>bs.getD i false)=bs.all id:=by
   rw[jd,hlen,mi,qqc,qqc]
   constructor
   ·intro hh b hb
    obtain⟨i,hi,e⟩:=ap hb
    have :=hh i (qqE.mpr hi)
    rw[tq,jm hi,e]at this
    exact this
   ·intro hh i hi
    have vR:=qqE.mp hi
    rw[tq,jm vR]
    exact hh _ (qql vR)
  rw[e3]
  refine⟨.bl _,H,I.kept (t':=tk) λb o e=>hk b o ?_ (qF _ e),rfl,q⟩
  have :b≠(~~~s):=zK (zu e)
  simpa using this
def kE(K:Fg)(a:jp)(D:List (Str×V)):Prop:=
 (a==ul)=false/\∃o es ep,K.lookup a=some o/\o.ExactDict/\o.data= .dict es ep/\KTD.Rows RelV es.toList D
section
variable {E:zt->zr->Prop} {s:zr} {o:Obj} {es:Array DictEntry} {ep:Nat} {D:List (Str×V)} {k:Str}
theorem Dd{Q:Option zt->zr->Prop}(ho:s.heap.get? a=some o)(hd:o.data= .dict es ep)(hr:KTD.Rows RelV es.toList D)
  (yes:∀v u,hX k D=some v->RelV v u->Q (some u) {s with toks:=s.toks+1})(no:hX k D=none->Q none {s with toks:=s.toks+1}):
  xI (vk prog w) A (dictGet a (.str k tk)) Q E s:=by
 have all:(es.all λe=>isExactStrKey e.key)=true:=by
  obtain⟨l⟩:=es
  simpa using hr.exact
 have val:Q ((es.toList.find? λe=>e.key.isStr k).map (·.val)) {s with toks:=s.toks+1}:=by
  cases q:hX k D with
  |some v=>
   obtain⟨u,hu,ru⟩:=hr.find_some q
   rw[hu];exact yes v u q ru
  |none=>rw[hr.find_none q];exact no q
 have same:(es.toList.find? λe=>e.key.isStr k).map (·.val)=findBy (λk v=>v.isStr k) es k:=by
  obtain⟨l⟩:=es
  simp[findBy]
 rw[same,findBy_of_findIdx?]at val
 unfold dictGet
 with_reducible refine mm ?_
 refine qr (qzo (qr ?_))
 refine qzS (s:={s with toks:=s.toks+1}) ho hd all ?_
 cases q:es.findIdx? λe=>e.key.isStr k with
 |none=>
  rw[q]at val
  exact xk val
 |some i=>
  rw[q]at val
  exact qr (wpAny_dictEntries (s:={s with toks:=s.toks+1}) ho hd (xk val))
theorem Dh{Q:zt->zr->Prop}(lo:(a==ul)=false)(ho:s.heap.get? a=some o)(hc:o.ExactDict)(hd:o.data= .dict es ep)(hr:KTD.Rows RelV es.toList D)
  (h:Q (.bool (N0 k D)) {s with toks:=s.toks+1}):xI (vk prog w) A (call (.builtin "dict.__contains__") [.ref a,.str k tk]) Q E s:=by
 refine du slot_dict_contains ⟨o,ho,hc.1⟩ entry_dict_contains ?_ (args_dict_contains _ _)
 show xI _ _ (dictGet a (.str k tk)>>=_) _ _ s
 refine qr (Dd ho hd hr (λv u e _=>?_) λe=>?_)
 ·have hb:N0 k D=true:=by rw[<-KTD.isSome_datumAt,e];rfl
  rw[hb]at h
  exact xk ⟨_,rfl,h⟩
 ·have hb:N0 k D=false:=by rw[<-KTD.isSome_datumAt,e];rfl
  rw[hb]at h
  show xI _ _ (Builtin.Dict.pendingKey? a (.str k tk)>>=_) _ _ _
  exact qr (wpAny_pendingKey_other lo (xk ⟨_,rfl,h⟩))
end
theorem u6:jf X (cq .In) (λx y H Q=>∃k a D,x= .str k/\y= .ref a/\kE X.K a D/\Q (.bl (N0 k D)) H):=by
 intro pins s σ H x y v u Q I rx ry h
 obtain⟨k,a,D,rfl,rfl,⟨lo,o,es,ep,lk,hc,hd,hr⟩,q⟩:=h
 obtain⟨t,rfl⟩:=rx
 cases ry
 have ho:=I.zZ _ _ lk
 exact In_slot ⟨o,ho,hc.1⟩ slot_dict_contains (Dh lo ho hc hd hr (lx ⟨.bl _,H,I.tok _,rfl,q⟩))
theorem Dp:jf X (cq .NotIn) (λx y H Q=>∃k a D,x= .str k/\y= .ref a/\kE X.K a D/\Q (.bl (!N0 k D)) H):=by
 intro pins s σ H x y v u Q I rx ry h
 obtain⟨k,a,D,rfl,rfl,⟨lo,o,es,ep,lk,hc,hd,hr⟩,q⟩:=h
 obtain⟨t,rfl⟩:=rx
 cases ry
 have ho:=I.zZ _ _ lk
 exact NotIn_slot ⟨o,ho,hc.1⟩ slot_dict_contains (Dh lo ho hc hd hr (lx ⟨.bl _,H,I.tok _,rfl,q⟩))
theorem ux:pQ X (λx y H Q=>∃k a D v,x= .ref a/\y= .str k/\kE X.K a D/\hX k D=some v/\Q v H):=by
 intro value slice pins s σ H x y v u Q I rx ry h hs
 obtain⟨k,a,D,z,rfl,rfl,⟨lo,o,es,ep,lk,hc,hd,hr⟩,hk,q⟩:=h
 cases rx
 obtain⟨t,rfl⟩:=ry
 have ho:=I.zZ _ _ lk
 obtain⟨u0,vS,ru0⟩:=hr.find_some hk
 refine PP (x:=u0) (T:="dict") ⟨o,ho,hc.1⟩ slot_dict_getitem.lookup (getItem_slot (T:="dict") ⟨o,ho,hc.1⟩ (by decide) slot_dict_getitem ?_) hs
 refine du slot_dict_getitem ⟨o,ho,hc.1⟩ entry_dict_getitem ?_ (args_dict_getitem _ _)
 show xI _ _ (dictGet a (.str k t)>>=_) _ _ s
 have all:(es.all λe=>isExactStrKey e.key)=true:=by
  obtain⟨l⟩:=es
  simpa using hr.exact
 have same:(es.toList.find? λe=>e.key.isStr k).map (·.val)=findBy (λk v=>v.isStr k) es k:=by
  obtain⟨l⟩:=es
  simp[findBy]
 rw[same,findBy_of_findIdx?]at vS
 refine qr ?_
 unfold dictGet
 with_reducible refine mm ?_
 refine qr (qzo (qr ?_))
 refine qzS (s:={s with toks:=s.toks+1}) ho hd all ?_
 cases e:es.findIdx? λe=>e.key.isStr k with
 |none=>rw[e]at vS;cases vS
 |some i=>
  rw[e]at vS
  refine qr (wpAny_dictEntries (s:={s with toks:=s.toks+1}) ho hd (xk ?_))
  have e2:es[i]?.map (·.val)=some u0:=vS
  rw[e2]
  exact xk ⟨_,rfl,rfl,z,H,I.tok _,ru0,q⟩
def u9(x:Str):It:=⟨λi _=>i<x.cps.size,λi H v H'=>H'=H/\∃c,x.cps[i]? =some c/\v= .str ⟨#[c]⟩,λi _=>x.cps.size<=i⟩
def qk4(tl:TE):TI:=λσ H R=>tl σ H λx H1=>∃z,x= .str z/\R (u9 z) H1
theorem qk5{E:zt->zr->Prop}{s:zr}{n:Str}{p:Pos}{it:zt}{Q:Unit->zr->Prop}(h:Q () s):xI M A (Mo (.Name n p) it u) Q E s:=by
 unfold Mo
 exact xk h
theorem Dr{n:Str}{p:Pos}(it:jp)(z:Str)(t:Tok)(ty:String)(W:∀A':si,A'.handled=none->Walks P w A' it [it] [it] z.cps.size (SignAt z) (λi h=>h.IsStrIter it ty z t i))(dn:∀(A':si)(E:zt->zr->Prop)(s:zr)(i:Nat)(Q:Option zt->zr->Prop),A'.handled=none->s.heap.IsStrIter it ty z t i->z.cps[i]? =none->(∀h',Heap.ExtBut it s.heap h'->Q none {s with heap:=h'})->xI (vk P w) A' (pyNext (.ref it)) Q E s)(sf:∀(A':si)(E:zt->zr->Prop)(s:zr)(i:Nat)(Q:zt->zr->Prop),s.heap.IsStrIter it ty z t i->Q (.ref it) s->xI (vk P w) A' (pyIter (.ref it)) Q E s):Turn P w K (.Name n p) (u9 z) [it] it (λi h=>h.IsStrIter it ty z t i)where
 mem:=by simp
 obj:=λi h st b hb=>by
  have e:b=it:=by simpa using hb
  subst e
  obtain⟨o,e,c,d⟩:=st
  exact⟨o,e,λv z=>by rw[d]at z;cases z⟩
 keep:=λi h h' st k=>by
  obtain⟨o,e,c,d⟩:=st
  exact⟨o,k it (by simp) o e,c,d⟩
 item:=by
  intro X hP hw hK hc i pins s σ H E I hf st hg
  subst hP hw hK
  obtain⟨f0,f1,f2,f3,f4,f5⟩:=hf it (by simp)
  refine(W X.A (I.ok.hd hc)).item i s _ _ hg st λv h' tk hv vL kk=>?_
  obtain⟨c,u,xq,rfl⟩:=hv
  have I1:Inv X pins σ H {s with heap:=h',toks:=tk}:=I.turned (λb o hb e=>kk b o (by simpa using hb) e) f0 f1 f3 f4 f5
  exact⟨_,rfl,qk5 ⟨.str ⟨#[c]⟩,H,I1,⟨_,rfl⟩,⟨rfl,c,xq,rfl⟩,vL,λb hb=>(hf b hb).1⟩⟩
 done:=by
  intro X hP hw hK hc i pins s σ H E I hf st hg
  subst hP hw hK
  obtain⟨f0,f1,f2,f3,f4,f5⟩:=hf it (by simp)
  have hi:z.cps.size<=i:=hg
  exact dn X.A E s i _ (I.ok.hd hc) st (by simp;lia) λh' eb=>⟨rfl,I.turned (t':=s.toks) (λb o hb e=>eb b o hb e) f0 f1 f3 f4 f5⟩
 self:=λA i s Q E st h=>sf A E s i Q st h
theorem XY{l:hU}{tl:TE}{n:Str}{p:Pos}(hl:PE X l tl):PI X (.Name n p) l (qk4 tl):=by
 intro pins s σ H R I h
 refine qX (hl pins s σ H _ I h) λv s1⟨x,H1,I1,r1,q1⟩=>?_
 obtain⟨z,e,q⟩:=q1
 subst e
 obtain⟨t,rfl⟩:=r1
 have fr:=I1.qt.fresh (qL _)
 have fin:∀(ty:String)(o:Obj),Turn X.prog X.w X.K (.Name n p) (u9 z) [(~~~s1)] (~~~s1) (λi h=>h.IsStrIter (~~~s1) ty z t i)->(s1.heap.push o).IsStrIter (~~~s1) ty z t 0->
   JO X pins σ (.Name n p) R (.ref (~~~s1)) {s1 with heap:=s1.heap.push o}:=λty o T st=>
  ⟨(~~~s1),[(~~~s1)],_,u9 z,H1,rfl,I1.kept (t':=s1.toks) λb o e=>qF _ e,T,st,λb hb=>by
   have e:b=(~~~s1):=by simpa using hb
   subst e
   exact I1.yH (qL _) fr,q⟩
 cases ha:z.cps.all (·<128)
 ·exact wpAny_pyIter_wide ha (fin _ _ (Dr _ z t _ (λA' hA=>Walks.strWide hA _ z t) (λ_ _ _ _ _ h1 h2 h3 h4=>wpAny_pyNext_wide_end h1 h2 h3 h4) λ_ _ _ _ _ h1 h2=>wpAny_pyIter_striter_wide h1 h2) ⟨_,jg _ rfl,rfl,rfl⟩)
 ·exact wpAny_pyIter_ascii ha (fin _ _ (Dr _ z t _ (λA' hA=>Walks.strAscii hA _ z t) (λ_ _ _ _ _ h1 h2 h3 h4=>wpAny_pyNext_ascii_end h1 h2 h3 h4) λ_ _ _ _ _ h1 h2=>wpAny_pyIter_striter_ascii h1 h2) ⟨_,jg _ rfl,rfl,rfl⟩)
noncomputable def ju (X:Cx) (scope:Scope) (cl:List (Str×jp)) (Nb:List Str) (C:jp) (s:zr) (H:Hp) (fp:List jp) (pins:List (jp×Obj)):Cx:=
 {X with env:=QQ scope cl C X.env,N:=Nb,s₀:=s,H₀:=H,outer:=X.stack,ex:=fp,fn:=λ_=>false,pn:=X.pn++pins,xe:=λ_ _=>False}
noncomputable def De (ix:List Nat) (v:Option V) (σ:St):St:=v::ix.map λi=>σ.getD i none
section
variable {rest:List Str}
theorem DQ(g:Str->Hd->Hd):∀(names:List (Str×Hd))(y:Str),(names.map λp=>(p.1,g p.1 p.2)).lookup y=(names.lookup y).map (g y)
 |[],_=>rfl
 |(n,k)::r,y=>by
  have ih:=DQ g r y
  rw[wq]
  cases hy:y==n with
  |true=>
   have e:y=n:=XB.mp hy
   subst e
   simp only[kx,y8,b0]
  |false=>simp only[kx,hy];exact ih
theorem DZ(env:Env)(names:List (Str×Hd))(y:Str):
  (names.map λ(n,k)=>if(k==NameKind.free&&env.scope.kind== .function&&env.kindOf n==some .cell)then(n,NameKind.cell)else(n,k)).lookup y=
   (names.lookup y).map λk=>if(k==NameKind.free&&env.scope.kind== .function&&env.kindOf y==some .cell)then NameKind.cell else k:=by
 rw[<-DQ (λy k=>if(k==NameKind.free&&env.scope.kind== .function&&env.kindOf y==some .cell)then NameKind.cell else k)]
 congr 1
 refine qzT λp _=>?_
 obtain⟨n,k⟩:=p
 dsimp only
 split<;>rfl
theorem DJ{y:Str}{k:Hd}(h:(QQ scope cl C X.env).kindOf y=some k)(hk:k= .cell\/k= .free)(mG:∀y∈scope.names,y.2≠ .cell):scope.names.lookup y=some .free:=by
 have e:(QQ scope cl C X.env).kindOf y=(scope.names.lookup y).map λk=>if(k==NameKind.free&&X.env.scope.kind== .function&&X.env.kindOf y==some .cell)then NameKind.cell else k:=DZ X.env scope.names y
 rw[e]at h
 cases q:scope.names.lookup y with
 |none=>rw[q]at h;cases h
 |some k0=>
  rw[q]at h
  simp only[b0,pw]at h
  by_cases hc:(k0==NameKind.free&&X.env.scope.kind== .function&&X.env.kindOf y==some .cell)=true
  ·have :k0= .free:=by
    rw[o3,o3]at hc
    exact XB.mp hc.1.1
   rw[this]
  ·rw[ke hc]at h
   subst h
   rcases hk with rfl|rfl
   ·exact absurd rfl (mG (y,.cell) (PySem.mem_of_lookup q))
   ·rfl
theorem qk6:∀{ix:List Nat}{j i:Nat},ix[j]? =some i->(ix.map λi=>σ.getD i none)[j]? =some (σ.getD i none):=fun {ix j i}h=>by
 rw[xH,h];rfl
end
structure vA(k:Nat)(A:si):Prop where
 dp:A.depth+3*k+5<qzF
 un:A.units+16*k+200<eI
theorem z7.s{k:Nat}(r:z7 k A):vA k A:=⟨r.dp,r.un⟩
theorem vA.mono{k:Nat}(r:vA k A)(h:j<=k):vA j A:=⟨by have :=r.dp;lia,by have :=r.un;lia⟩
theorem vA.mark{k:Nat}(r:vA k A)(v:Option zt):vA k (A.mark v):=⟨r.dp,r.un⟩
theorem vA.deeper{k:Nat}(r:vA (k+1) A)(env:Env):vA k (A.deeper env):=
 ⟨by have :=r.dp;show A.depth+1+3*k+5<_;lia,by have :=r.un;show A.units+3+16*k+200<_;lia⟩
theorem Inv.re{s:zr}{A':si}{cm:Bool}{E':zt->zr->Prop}(I:Inv X pins σ H s)(hd:cm=true->A'.handled=none)(fr:A'.frames=X.A.frames):
  Inv {X with A:=A',calm:=cm,xe:=E'} pins σ H s:=
 ⟨⟨I.ok.mod,I.ok.kind,I.ok.glob,I.ok.blt,I.ok.above,I.ok.inj,I.ok.has,I.ok.lJ,hd,fr.trans I.ok.frames,I.ok.qI,I.ok.eY,I.ok.bs,I.ok.yg,I.ok.lX,I.ok.mY,I.ok.vQ,I.ok.uG⟩,
  I.os,I.bare,I.base,I.loc,I.cell,I.free,I.ym,I.pin,I.qt,I.len⟩
noncomputable def Qs (CX:vz) (P:cv) (w:fe) (K:Fg) (mg:Str->Option zt) (base:ll) (N:List Str) (qual:Str) (scope:Scope) (f:jp) (cd:zt) (A:si) (outer:List Env) (s:zr) (H:Hp) (E:XK):Cx:=
 {jc CX P w K mg base N qual scope f cd A outer s H E with calm:=false}
structure cz(P:cv)(w:fe)(K:Fg)(mg:Str->Option zt)(base:ll)(CX:vz)(k:Nat)(f:jp)(fd:ol)(ps:List Str)(sp:Sp):Prop where
 len:∀vs H Q E,sp vs H Q E->vs.length=ps.length
 run:∀(A:si)(outer:List Env)(s:zr)(H:Hp)(args:Args)(us:List zt)(vs:List V)(Q:VK)(E:XK),vA k A->oA P w K mg base A outer s H->qqC s fd args (ps.zip us)->Vals vs us->sp vs H Q E->
  Qr (vk P w) A (.call (.ref f) args) (CR CX outer P w H s Q E) s
theorem qk7{base:ll}{k:Nat}{params:Arguments}{kV doc pm zy ct oc:zt}{an od:Option jp}{wB:Array (Option zt)}(lk:K.lookup f=some ⟨oc,od,.func (PySem.W.fnOf name qual params body scope dV kV doc pm an zy ct),wB⟩)(xT:PySem.W.codeIn K zy qual=true)(S:qO N ps scope)(len:∀vs H Q E,sp vs H Q E->vs.length=ps.length)(oE:∀(A:si)(outer:List Env)(s:zr)(H:Hp)(vs:List V)(Q:VK)(E:XK),vA k (A.deeper (sg qual scope (~~~s) f zy))->sp vs H Q E->
   ∃t,xm (Qs CX P w K mg base N qual scope f zy A outer s H E) body t/\t {nx:=λ_ H'=>Q .qd H',rt:=Q} (start N vs) H):
  cz P w K mg base CX (k+1) f (PySem.W.fnOf name qual params body scope dV kV doc pm an zy ct) ps sp:=by
 refine⟨len,λA outer s H args us vs Q E hr e0 hb r vN=>?_⟩
 have hl:=len _ _ _ _ vN
 have keep:∀b o,base.get? b=some o->s.heap.get? b=some o:=λb o e=>(e0.bs b o e).1
 have KX:K.In s.heap:=e0.mod.yN.keeps keep
 have Xj:∀y∈ps.zip us,scope.names.lookup y.1=some .local\/(scope.names.lookup y.1=some .cell/\((cellsFrom ((~~~s)+1) scope.names []).lookup y.1).isSome=true):=λy hy=>by
  obtain⟨n,v⟩:=y
  rcases S.Xq n (FV hy).1 with q|q
  ·exact .inl q
  ·exact .inr ⟨q,PySem.W.cellsFrom_some _ _ _ (.inl q)⟩
 refine codeAny_call_function (by have :=hr.dp;lia) (KX _ _ lk) rfl S.co S.gen rfl (PySem.W.codeRec_of KX xT) (hb _ _ _ _ (qzU S.kind Xj λenv he s1 x=>?_))
 subst he
 refine⟨(e0.mod.nolimit.keeps keep).keeps x.toInCall.keep,codeAny_func ?_⟩
 obtain⟨t,ht,hq⟩:=oE A outer s H vs Q E (hr.deeper _) vN
 have e1:oA P w K mg base {A with handled:=none} outer s H:=⟨e0.frames,e0.mod,e0.bs,e0.yg,e0.vQ,e0.uG,e0.qt,e0.bare⟩
 have I0:=Ba (CX:=CX) (qual:=qual) (f:=f) (cd:=zy) (E:=E) S (A:={A with handled:=none}) rfl e1 hl r x
 have I:Inv (Qs CX P w K mg base N qual scope f zy A outer s H E) [] (start N vs) H s1:=I0.re (A':=A.deeper (sg qual scope (~~~s) f zy)) (cm:=false) (λh=>by cases h) rfl
 refine wb (ht [] s1 (start N vs) H _ I hq) (λfl s' hs=>?_) λe s' hs=>hs
 have fin:∀{σ':St}{H':Hp}{v:V}{u:zt},Inv (Qs CX P w K mg base N qual scope f zy A outer s H E) [] σ' H' s'->RelV v u->Q v H'->CE outer P w H s Q u s':=
  fun {σ' H' v u}J rv q=>⟨v,H',J.os,J.bare,J.base,J.qt,rv,q⟩
 cases fl with
 |ret u=>
  obtain⟨v,σ',H',J,rv,q⟩:=hs
  exact fin J rv q
 |next=>
  obtain⟨σ',H',J,q⟩:=hs
  exact fin (v:=V.qd) (u:=Value.none) J rfl q
 |brk=>exact(hs.elim λ_ z=>z.elim λ_ z=>z.2).elim
 |cont=>exact(hs.elim λ_ z=>z.elim λ_ z=>z.2).elim
section
variable {k:Nat} {ds:List zt} {E:XK} {m:Str} {p:Pos} {o:hU}
theorem qk8{s:zr}{Q:VK}(F:cz X.prog X.w X.K X.mg X.base CX k f fd ps sp)(hr:vA k X.A)(hb:Binds X.K fd ps ds)(hd:Vals zW ds)(hx:Passes CX X E)(I:Inv X pins σ H s)(r:Vals vs us)(h:sp (vs++zW) H Q E):xI (vk X.prog X.w) X.A (call (.ref f) us) (EP X pins σ Q) X.xe s:=by
 have r2:Vals (vs++zW) (us++ds):=r.append hd
 have hl:(us++ds).length=ps.length:=r2.length.symm.trans (F.len _ _ _ _ h)
 refine sx (dE (F.run X.A X.stack s H ⟨us,[]⟩ (us++ds) (vs++zW) Q E hr I.fD (hb s us I.zZ hl) r2 h) λr s' hq=>?_)
 cases r with
 |error e=>exact hx pins σ H s e s' I hq
 |ok fl=>
  cases fl with
  |ret u=>exact I.after hq
  |next=>exact iq hq
  |brk=>exact iq hq
  |cont=>exact iq hq
theorem l8(F:cz X.prog X.w X.K X.mg X.base CX k f fd ps sp)(hr:vA k X.A)(hg:Gl X x)(hm:X.mg x=some (.ref f))(hk:PySem.W.keepIn X.K (.ref f)=true)(hb:Binds X.K fd ps ds)(hd:Vals zW ds)(hx:Passes CX X E)
  (ha:PA X (e::es) t)(jw:(x==("__debug__":Str))=false:=by decide)(he:ky (e::es) X.env=(false,eval e X.env)::ky es X.env:=by rfl)(qH:(gN pos (ky es X.env)).any (·.1)=false:=by rfl):
  PE X (.Call (.Name x p) (e::es) [] pos) (yR sp zW E t):=by
 exfalso
 refine oP (wl I hg hm ?_ jw)
 exact PySem.W.callWith_K (h₀:=X.base) I.ok.mod.yN hk (qX (ha pos pins s σ H _ I h) λus s1⟨vs,H1,I1,r,q⟩=>⟨I1.zZ,qk8 F hr hb hd hx I1 r q⟩) he qH
end
structure qJ(K:Fg)(x qual:Str)(st:cc)(dV:zt)(f:jp)(fd:ol):Prop where
 ex:∃(oc:zt)(od:Option jp)(kV doc pm:zt)(an:Option jp)(zy ct:zt)(wB:Array (Option zt)),
  fd=PySem.W.fnOf x qual (Xg st) (uE st) (qK st) dV kV doc pm an zy ct/\K.lookup f=some ⟨oc,od,.func fd,wB⟩/\PySem.W.codeIn K zy qual=true
 kp:PySem.W.keepIn K (.ref f)=true
section
variable {base:ll} {k:Nat}
theorem z8:Passes (zJ P w) X E0:=λ_ _ _ _ _ _ _ h=>by
 obtain⟨_,_,_,_,_,_,_,_,_,_,_,_,_,_,_,_,z⟩:=h
 exact z.elim
theorem qJ.jI(F:qJ K x qual st dV f fd)(S:qO N ps (qK st))(len:∀vs H Q E,sp vs H Q E->vs.length=ps.length)
  (oE:∀(zy:zt)(A:si)(outer:List Env)(s:zr)(H:Hp)(vs:List V)(Q:VK)(E:XK),z7 k (A.deeper (sg qual (qK st) (~~~s) f zy))->sp vs H Q E->
   ∃t,xm (jc (zJ P w) P w K mg base N qual (qK st) f zy A outer s H E) (uE st) t/\t {nx:=λ_ H'=>Q .qd H',rt:=Q} (start N vs) H):∅ (k+1) f fd ps sp:=by
 obtain⟨oc,od,kV,doc,pm,an,zy,ct,wB,rfl,lk,xT⟩:=F.ex
 exact qxQ lk xT S len λA outer s H vs Q E hr vN=>oE zy A outer s H vs Q E hr vN
theorem qJ.qB(F:qJ K x qual st dV f fd)(S:qO N ps (qK st))(len:∀vs H Q E,sp vs H Q E->vs.length=ps.length)
  (oE:∀(zy:zt)(A:si)(outer:List Env)(s:zr)(H:Hp)(vs:List V)(Q:VK)(E:XK),z7 k (A.deeper (sg qual (qK st) (~~~s) f zy))->sp vs H Q E->
   ∃t,xm (jc (zJ P w) P w K mg base N qual (qK st) f zy A outer s H E).yd (uE st) t/\t {nx:=λ_ H'=>Q .qd H',rt:=Q} (start N vs) H):∅ (k+1) f fd ps sp:=
 F.jI S len λzy A outer s H vs Q E hr vN=>let⟨t,h,q⟩:=oE zy A outer s H vs Q E hr vN;⟨t,h.yd,q⟩
theorem qJ.DX(F:qJ K x qual st dV f fd)(S:qO N ps (qK st))(len:∀vs H Q E,sp vs H Q E->vs.length=ps.length)
  (oE:∀(zy:zt)(A:si)(outer:List Env)(s:zr)(H:Hp)(vs:List V)(Q:VK)(E:XK),vA k (A.deeper (sg qual (qK st) (~~~s) f zy))->sp vs H Q E->
   ∃t,xm (Qs (zJ P w) P w K mg base N qual (qK st) f zy A outer s H E).yd (uE st) t/\t {nx:=λ_ H'=>Q .qd H',rt:=Q} (start N vs) H):cz P w K mg base (zJ P w) (k+1) f fd ps sp:=by
 obtain⟨oc,od,kV,doc,pm,an,zy,ct,wB,rfl,lk,xT⟩:=F.ex
 exact qk7 lk xT S len λA outer s H vs Q E hr vN=>let⟨t,h,q⟩:=oE zy A outer s H vs Q E hr vN;⟨t,h.yd,q⟩
theorem qJ.binds{ds:List zt}(F:qJ K x qual st dV f fd)
  (h:∀(kV doc pm:zt)(an:Option jp)(zy ct:zt)(s:zr)(us:List zt),K.In s.heap->(us++ds).length=ps.length->qqC s (PySem.W.fnOf x qual (Xg st) (uE st) (qK st) dV kV doc pm an zy ct) ⟨us,[]⟩ (ps.zip (us++ds))):Binds K fd ps ds:=by
 obtain⟨oc,od,kV,doc,pm,an,zy,ct,wB,rfl,lk,xT⟩:=F.ex
 exact λs us X hl=>h kV doc pm an zy ct s us X hl
end
def XP(X:Cx)(pins:List (jp×Obj))(σ:St)(E:XK)(x:zt)(s':zr):Prop:=∃(e C t T:jp)(d:Option jp)(H':Hp),x= .ref e/\Inv X pins σ H' s'/\H' e=some (ze false C t d e)/\xA X pins H' T/\
 XA.j6 s'.heap e (.ref C) d (.ref t) (some T) .none/\((∀o,X.s₀.heap.get? e=some o->e∈X.ex)/\∀p∈X.pn++pins,p.1≠e)/\E (.ref C) (some e) H'
abbrev XU:=St->Hp->VK->XK->Prop
def Qt(X:Cx)(e:hU)(t:XU):Prop:=
 ∀(pins:List (jp×Obj))(s:zr)(σ:St)(H:Hp)(Q:VK)(E:XK),Inv X pins σ H s->t σ H Q E->xI (vk X.prog X.w) X.A (eval e X.env) (EP X pins σ Q) (XP X pins σ E) s
abbrev XO:=Ends->XK->St->Hp->Prop
def DK(X:Cx)(st:cc)(t:XO):Prop:=
 ∀(pins:List (jp×Obj))(s:zr)(σ:St)(H:Hp)(D:Ends)(E:XK),Inv X pins σ H s->t D E σ H->xI (vk X.prog X.w) X.A (exec st X.env) (SP X pins D) (XP X pins σ E) s
section
variable {k:Nat} {ds:List zt} {E:XK} {p:Pos}
theorem Inv.xp{s:zr}{v:zt}(I:Inv X pins σ H s)(h:zJ X.prog X.w X.stack H s E v s'):XP X pins σ E v s':=by
 obtain⟨e,C,t,T,d,H',rfl,os,bare,un,qt,he,hn,hT,p5,fx,hE⟩:=h
 refine⟨e,C,t,T,d,H',rfl,I.d8 (ch:=[]) os un qt bare (λb z=>absurd z (by simp)),he,I.yH hT p5,fx,⟨λo r=>Classical.byContradiction λz=>?_,λp hp z=>?_⟩,hE⟩
 ·obtain⟨o',r'⟩:=I.base.there e o r z
  rw[hn]at r';cases r'
 ·have :=(I.pin p hp).1
  rw[z,hn]at this;cases this
theorem qk9(F:xg X.prog X.w X.K X.mg X.base (zJ X.prog X.w) k f fd ps sp)(hr:z7 k X.A)(hg:Gl X x)(hm:X.mg x=some (.ref f))(hk:PySem.W.keepIn X.K (.ref f)=true)(hb:Binds X.K fd ps ds)(hd:Vals zW ds)
  (ha:PA X.yd (e::es) t)(jw:(x==("__debug__":Str))=false:=by decide)(he:ky (e::es) X.env=(false,eval e X.env)::ky es X.env:=by rfl)(qH:(gN pos (ky es X.env)).any (·.1)=false:=by rfl):
  Qt X (.Call (.Name x p) (e::es) [] pos) (λσ H Q E=>t σ H λvs H1=>sp (vs++zW) H1 Q E):=by
 intro pins s σ H Q E I h
 refine oP (wl I hg hm ?_ jw)
 refine PySem.W.callWith_K (h₀:=X.base) I.ok.mod.yN hk (wb (ha pos pins s σ H _ (I.yF _) h) (λus s1⟨vs,H1,I1,r,q⟩=>⟨I1.uB.zZ,?_⟩) λ_ _ z=>iq z) he qH
 have I2:=I1.uB
 have r2:Vals (vs++zW) (us++ds):=r.append hd
 have hl:(us++ds).length=ps.length:=r2.length.symm.trans (F.len _ _ _ _ q)
 refine sx (dE (F.run X.A X.stack s1 H1 ⟨us,[]⟩ (us++ds) (vs++zW) Q E hr I2.fD (hb s1 us I2.zZ hl) r2 q) λr s' hq=>?_)
 cases r with
 |error e=>exact I2.xp hq
 |ok fl=>
  cases fl with
  |ret u=>exact I2.after hq
  |next=>exact iq hq
  |brk=>exact iq hq
  |cont=>exact iq hq
theorem qvq{t:XU}(he:Qt X e t):DK X (.Return (some e) pos) (λD E σ H=>t σ H D.rt E):=by
 intro pins s σ H D E I h
 exact wpAny_Return_some (qX (he pins s σ H _ E I h) λv s1⟨x,H1,I1,r1,q1⟩=>⟨x,σ,H1,I1,r1,q1⟩)
end
abbrev Cx.kR(X:Cx)(e:jp):Cx:={X with A:=X.A.mark (some (.ref e)),calm:=false,xe:=λ_ _=>False}
theorem XI{e:jp}(h:H e=some o):upd H e o=H:=by
 funext b
 by_cases z:b=e
 ·subst z;rw[qu,h]
 ·rw[qm z]
section
variable {s:zr} {e t T:jp} {d:Option jp} {Q:Unit->zr->Prop} {E:zt->zr->Prop}
theorem Inv.qvz(I:Inv X pins σ H s)(Qa:X.stack=X.env::X.outer)(ya:X.env.frame=some X.env.locals)(he:H e=some (ze false C t d e))(hT:xA X pins H T)(fx:XA.j6 s.heap e (.ref C) d (.ref t) (some T) .none)
  (h:∀s' T',Inv X pins σ H s'->xA X pins H T'->XA.j6 s'.heap e (.ref C) d (.ref t) (some T') .none->Q () s'):
  xI (vk X.prog X.w) X.A (Fn (.ref e) X.env) (λ_ s2=>xI (vk X.prog X.w) X.A (M2 (.ref e) none) Q E s2) E s:=by
 have fr:=I.ok.frames
 have st:=I.stack
 rw[Qa]at fr st
 refine XA.B7 fr st ya fx λh1 T1 hn f1 k1=>XA.pG (s:={s with heap:=h1}) f1 λh2 f2 k2 k3=>?_
 have pA:((X.env::X.outer).filterMap (·.frame))=xR X.stack:=by rw[Qa];rfl
 rw[pA]at k1
 obtain⟨t0,t1,t2,t3,t4,t5⟩:=hT
 have XG:∀b o,s.heap.get? b=some o->b≠T1:=λb o q z=>by subst z;exact absurd (zu q) (qzg.mpr hn)
 have ee:upd H e (ze false C t d e)=H:=XI he
 have ne:∀b u',H b=some u'->(∀φ,u'≠ .ext φ)->b≠e:=λb u' r n z=>by subst z;rw[he]at r;exact n _ (xb r).symm
 have un:Un (xR X.stack) [T] H H s.heap h2:=
  ⟨λb o q n hb hx=>k2 b o (XG b o q) (k1.keep b o (λz=>by subst z;rw[he]at n;cases n) (λz=>hx (by simpa using z)) hb q),
   λb o q n hb hx=>(by
    obtain⟨sl,r⟩:=k1.slot b o (λz=>by subst z;rw[he]at n;cases n) (λz=>hx (by simpa using z)) q
    exact⟨sl,k2 b _ (XG b o q) r⟩),
   λb o q n hx=>n,λb o q hx=>(by
    obtain⟨o',r⟩:=k1.there b o q
    exact k3 b o' r),λb xs q=>q,λb o u q=>q,λb ps q=>⟨#[],by simpa using q⟩⟩
 have qt:zF X.prog X.w H h2:=by
  have :=I.qt.Xr he f2 λb o hb xS q=>(by
   refine k2 b o (XG b o q) (k1.keep b o hb (λz=>xS (by have z':=xb z;rw[z'];exact t0)) (λhm=>xS (I.dM b hm)) q))
  rw[ee]at this;exact this
 have J:Inv X pins σ H {s with heap:=h2}:=I.d8 (s':={s with heap:=h2}) (ch:=[T]) rfl un qt I.bare λb hb=>by
  have z:b=T:=by simpa using hb
  subst z
  exact⟨t3,t1,t4,t5⟩
 exact h _ T1 J (I.yH hn (I.qt.fresh hn)) f2
end
theorem Inv.qvj{s:zr}{m':Str->Option zt}{tk:Nat}(I:Inv X pins σ H s)(hn:h'.Ns X.env.locals m')(hs:rh X.env.locals s.heap h'):
  Inv X pins (px X.N.length none) H {s with heap:=h',toks:=tk}:=by
 have nL:∀b o,X.s₀.heap.get? b=some o->b≠X.env.locals:=λb o e=>zK (vx (zu e) I.ok.above)
 refine⟨I.ok,I.os,I.bare,⟨λb o e n hb hx=>(hs.2 b (nL b o e)).trans (I.base.keep b o e n hb hx),λb o e n hb hx=>?_,I.base.free,λb o e hx=>?_,I.base.jv,I.base.vI,I.base.wo⟩,⟨m',hn,λj y v e1 e2 e3=>?_⟩,λy c e=>?_,I.free,I.ym,λp hp=>?_,λb u e=>?_,by rw[Fs]⟩
 ·obtain⟨sl,z⟩:=I.base.slot b o e n hb hx
  exact⟨sl,(hs.2 b (nL b o e)).trans z⟩
 ·obtain⟨o',z⟩:=I.base.there b o e hx
  exact⟨o',(hs.2 b (nL b o e)).trans z⟩
 ·rw[B1]at e2
  split at e2<;>cases e2
 ·obtain⟨w,z⟩:=I.cell y c e
  exact⟨w,z.sameBut hs (I.iP y c e)⟩
 ·obtain⟨e,n,ne,nf,d⟩:=I.pin p hp
  exact⟨(hs.2 p.1 ne).trans e,n,ne,nf,d⟩
 ·refine(I.qt b u e).xP (λc v hc z=>(hs.2 c (λzz=>?_)).trans z) (λ_ z=>z) λ_ _ z=>z
  rcases hc with y|y
  ·rw[<-y,zz,I.free]at e;cases e
  ·rw[zz,I.free]at y;cases y
end L2
namespace L2
open PySem PySem.Spec PyProof.Rows
section
variable {κ:Type} [DecidableEq κ]
def jo(kvs:List (κ×V))(k:κ):Option V:=(kvs.find? λkv=>decide (kv.1=k)).map (·.2)
def putK(kvs:List (κ×V))(k:κ)(v:V):List (κ×V):=
 if(kvs.any λkv=>decide (kv.1=k))=true then kvs.map (λkv=>if kv.1=k then(kv.1,v)else kv)else kvs++[(k,v)]
theorem XM{k:κ}:jo ([]:List (κ×V)) k=none:=rfl
theorem wX{p:κ×V}{r:List (κ×V)}{k:κ}(e:p.1=k):jo (p::r) k=some p.2:=by simp[jo,eC,e]
theorem vc{p:κ×V}{r:List (κ×V)}{k:κ}(e:¬p.1=k):jo (p::r) k=jo r k:=by simp[jo,eC,e]
theorem ri(k:κ):∀kvs:List (κ×V),(kvs.any λkv=>decide (kv.1=k))=(jo kvs k).isSome
 |[]=>rfl
 |p::r=>by
  rw[Kt]
  by_cases e:p.1=k
  ·simp only[wX e,vw e,Bool.true_or,Option.isSome_some]
  ·rw[vc e,xn e,qzc];exact ri k r
theorem DV(k j:κ)(y:V):∀kvs:List (κ×V),jo (kvs.map λkv=>if kv.1=k then(kv.1,y)else kv) j=(jo kvs j).map λx=>if j=k then y else x
 |[]=>rfl
 |p::r=>by
  have ih:=DV k j y r
  rw[wq]
  by_cases h:p.1=k
  ·rw[vb h]
   by_cases e:p.1=j
   ·rw[wX (p:=(p.1,y)) e,wX e,b0,vb (e.symm.trans h)]
   ·rw[vc (p:=(p.1,y)) e,vc e,ih]
  ·rw[ke h]
   by_cases e:p.1=j
   ·rw[wX (p:=p) e,wX e,b0,ke (λz=>h (e.trans z))]
   ·rw[vc (p:=p) e,vc e,ih]
theorem DW(k j:κ)(y:V):∀kvs:List (κ×V),jo kvs k=none->jo (kvs++[(k,y)]) j=if j=k then some y else jo kvs j
 |[],_=>by
  by_cases e:k=j
  ·rw[vb e.symm];exact wX (p:=(k,y)) e
  ·rw[ke (λz=>e z.symm)];exact vc (p:=(k,y)) e
 |p::r,hn=>by
  rw[hG]
  have hk:¬p.1=k:=λz=>by rw[wX z]at hn;cases hn
  rw[vc hk]at hn
  have ih:=DW k j y r hn
  by_cases e:p.1=j
  ·rw[wX e,wX e,ke (λz=>hk (e.trans z))]
  ·rw[vc e,vc e,ih]
theorem Qe(kvs:List (κ×V))(k j:κ)(y:V):jo (putK kvs k y) j=if j=k then some y else jo kvs j:=by
 unfold putK
 by_cases a:(kvs.any λkv=>decide (kv.1=k))=true
 ·rw[vb a,DV]
  rw[ri]at a
  by_cases e:j=k
  ·obtain⟨x,hx⟩:=qqG.mp a
   rw[vb e,e,hx,b0,vb rfl]
  ·rw[ke e]
   cases jo kvs j with
   |none=>rfl
   |some x=>rw[b0,ke e]
 ·rw[ke a]
  refine DW k j y kvs ?_
  rw[ri]at a
  cases q:jo kvs k with
  |none=>rfl
  |some x=>rw[q]at a;exact(a rfl).elim
theorem rg(kvs:List (κ×V))(k:κ)(v:V):(putK kvs k v).length<=kvs.length+1:=by
 unfold putK
 split
 ·rw[za];lia
 ·rw[va,zH,yn];lia
theorem XN{kvs:List (κ×V)}{k:κ}(v:V)(h:jo kvs k=none):putK kvs k v=kvs++[(k,v)]:=by
 unfold putK
 rw[ri,h]
 exact ke (by decide)
theorem kD.XD{o:Option V}{u:Option zt}(r:kD o u):o.isSome=u.isSome:=by
 cases o with
 |none=>cases u with
  |none=>rfl
  |some _=>exact(show False from r).elim
 |some _=>cases u with
  |none=>exact(show False from r).elim
  |some _=>rfl
theorem KV.val{kvs:List (κ×V)}{vs:List (κ×zt)}(r:KV kvs vs)(k:κ):kD (jo kvs k) (qza vs k):=by
 unfold KV at r
 induction r with
 |nil=>exact True.intro
 | @cons p q ps qs h t ih=>
  obtain⟨h1,h2⟩:=h
  by_cases e:p.1=k
  ·have e':q.1=k:=h1.symm.trans e
   have b:qza (q::qs) k=some q.2:=by simp[qza,eC,e']
   rw[wX e,b];exact h2
  ·have e':¬q.1=k:=λz=>e (h1.trans z)
   have b:qza (q::qs) k=qza qs k:=by simp[qza,eC,e']
   rw[vc e,b];exact ih
theorem KV.any{kvs:List (κ×V)}{vs:List (κ×zt)}(r:KV kvs vs)(k:κ):(kvs.any λkv=>decide (kv.1=k))=vs.any λkv=>decide (kv.1=k):=by
 unfold KV at r
 induction r with
 |nil=>rfl
 |cons h t ih=>rw[Kt,Kt,ih,h.1]
theorem KV.XF{kvs:List (κ×V)}{vs:List (κ×zt)}(r:KV kvs vs)(k:κ)(ry:RelV y u):
  KV (kvs.map λkv=>if kv.1=k then(kv.1,y)else kv) (vs.map λkv=>if kv.1=k then(kv.1,u)else kv):=by
 unfold KV at r⊢
 induction r with
 |nil=>exact .nil
 | @cons p q ps qs h t ih=>
  rw[wq,wq]
  refine .cons ?_ ih
  obtain⟨h1,h2⟩:=h
  by_cases e:p.1=k
  ·rw[vb e,vb (h1.symm.trans e)];exact⟨h1,ry⟩
  ·rw[ke e,ke (λz=>e (h1.trans z))];exact⟨h1,h2⟩
theorem KV.put{kvs:List (κ×V)}{vs:List (κ×zt)}(r:KV kvs vs)(k:κ)(ry:RelV y u):KV (putK kvs k y) (stored vs k u):=by
 unfold putK stored
 rw[r.any k]
 by_cases e:(vs.any λkv=>decide (kv.1=k))=true
 ·rw[vb e,vb e];exact r.XF k ry
 ·rw[ke e,ke e];exact Paired.snoc r ⟨rfl,ry⟩
theorem KV.length{kvs:List (κ×V)}{vs:List (κ×zt)}(r:KV kvs vs):kvs.length=vs.length:=Paired.length r
end
theorem rf{k:Key}(r:RelV (kV k) u):(xY P w).is k u=true:=by
 cases k with
 |inl i=>obtain⟨t,e⟩:=(show∃t,u=Value.int i t from r);subst e;exact qjx P w i t
 |inr x=>obtain⟨t,e⟩:=(show∃t,u=Value.str x t from r);subst e;exact qjk P w x t
theorem DY{P:cv}{w:fe}:∀{ks:List Key}{us:List zt},Vals (ks.map kV) us->ItemsAre (xY P w) ks us
 |[],_,r=>by rw[eJ]at r;cases r;exact .nil
 |k::ks,_,r=>by
  rw[wq]at r
  cases r with
  |cons h t=>exact .cons (rf h) (DY t)
abbrev KT(H:Hp):List (List Key×V)->List (List Key×jp×zt)->Prop:=Paired λp q=>p.1=q.1/\H q.2.1=some (.tup (p.1.map kV))/\RelV p.2 q.2.2
theorem KT.val{kvs:List (List Key×V)}{xs:List (List Key×jp×zt)}(r:KT H kvs xs)(k:List Key):kD (jo kvs k) ((atKey xs k).map (·.2)):=by
 induction r with
 |nil=>exact True.intro
 | @cons p q ps qs h t ih=>
  obtain⟨h1,_,h2⟩:=h
  by_cases e:p.1=k
  ·have e':q.1=k:=h1.symm.trans e
   have b:atKey (q::qs) k=some q.2:=by simp[atKey,eC,e']
   rw[wX e,b];exact h2
  ·have e':¬q.1=k:=λz=>e (h1.trans z)
   have b:atKey (q::qs) k=atKey qs k:=by simp[atKey,eC,e']
   rw[vc e,b];exact ih
theorem KT.XF{kvs:List (List Key×V)}{xs:List (List Key×jp×zt)}(r:KT H kvs xs)(k:List Key)(ry:RelV y u):
  KT H (kvs.map λkv=>if kv.1=k then(kv.1,y)else kv) (xs.map (putAt k u)):=by
 induction r with
 |nil=>exact .nil
 | @cons p q ps qs h t ih=>
  rw[wq,wq]
  refine .cons ?_ ih
  obtain⟨h1,h2,h3⟩:=h
  unfold putAt
  by_cases e:p.1=k
  ·rw[vb e,vb (h1.symm.trans e)];exact⟨h1,h2,ry⟩
  ·rw[ke e,ke (λz=>e (h1.trans z))];exact⟨h1,h2,h3⟩
theorem KT.put{kvs:List (List Key×V)}{xs:List (List Key×jp×zt)}(r:KT H kvs xs)(k:List Key){b:jp}(hb:H b=some (.tup (k.map kV)))(ry:RelV y u):
  KT H (putK kvs k y) (storedH xs k b u):=by
 have e:(kvs.any λkv=>decide (kv.1=k))=(atKey xs k).isSome:=by
  rw[ri,(r.val k).XD,qz0]
 unfold putK storedH
 rw[e]
 by_cases q:(atKey xs k).isSome=true
 ·rw[vb q,vb q];exact r.XF k ry
 ·rw[ke q,ke q];exact Paired.snoc r ⟨rfl,hb,ry⟩
theorem KT.keeps{kvs:List (List Key×V)}{xs:List (List Key×jp×zt)}(r:KT H kvs xs)(ht:∀b ys,H b=some (.tup ys)->H' b=some (.tup ys)):KT H' kvs xs:=
 Paired.Je r λ_ _ z=>⟨z.1,ht _ _ z.2.1,z.2.2⟩
theorem DU{u:HO}(ok:zF P w H h)(e:Rd H a u):jW P w H h a u:=e.ok ok
theorem rQ(ok:zF P w H h)(e:Rd H a (.dK kvs)):kvs.length<=sizeLine/\(a==ul)=false/\∃vs,KV kvs vs/\h.DictOf (xY P w) a vs:=
 show jW P w H h a (.dK kvs)from DU ok e
theorem DO(ok:zF P w H h)(e:H a=some (.dK kvs)):kvs.length<=sizeLine/\(a==ul)=false/\∃vs,KV kvs vs/\h.DictOf (xY P w) a vs:=rQ ok (.inl e)
theorem QZ{ks:List Key}(ok:zF P w H h)(e:H a=some (.tup (ks.map kV))):(qzt (xY P w)).is h ks a:=by
 obtain⟨_,qy,r,o,h1,h2,n,h3⟩:=(show jW P w H h a (.tup (ks.map kV))from ok a _ e)
 exact⟨o,qy.toArray,n,h1,h2,h3,by simpa using DY r⟩
theorem QJ{kvs:List (List Key×V)}(ok:zF P w H h)(e:Rd H a (.dT kvs)):kvs.length<=sizeLine/\(a==ul)=false/\
  ∃xs,KT H kvs xs/\h.DictOfH (qzt (xY P w)) a xs:=by
 obtain⟨z,y,xs,r,o,es,ep,h1,h2,h3,h4,h5⟩:=(show jW P w H h a (.dT kvs)from DU ok e)
 refine⟨z,y,xs,r,o,es,ep,h1,h2,h3,h4,λx hx=>?_,h5⟩
 have all:∀{l:List (List Key×V)}{m:List (List Key×jp×zt)},KT H l m->∀x∈m,(qzt (xY P w)).is h x.1 x.2.1:=by
  intro l m q
  induction q with
  |nil=>intro x hx;exact nomatch hx
  | @cons p q ps qs hq t ih=>
   intro x hx
   rcases js.mp hx with e|hx
   ·subst e
    exact QZ ok (by rw[<-hq.1];exact hq.2.1)
   ·exact ih x hx
 exact all r x hx
theorem qvx{kvs:List (List Key×V)}(ok:zF P w H h)(e:H a=some (.dT kvs)):kvs.length<=sizeLine/\(a==ul)=false/\
  ∃xs,KT H kvs xs/\h.DictOfH (qzt (xY P w)) a xs:=QJ ok (.inl e)
def oq(H:Hp)(a:jp)(y:V)(r:Option V):Prop:=
 (∃kvs k,Rd H a (.dK kvs)/\y=kV k/\r=jo kvs k)\/∃kvs k b,Rd H a (.dT kvs)/\y= .ref b/\H b=some (.tup (k.map kV))/\r=jo kvs k
def cj(H:Hp)(a:jp)(y v:V)(H':Hp):Prop:=
 (∃kvs k,H a=some (.dK kvs)/\y=kV k/\kvs.length<sizeLine/\H'=upd H a (.dK (putK kvs k v)))\/
 ∃kvs k b,H a=some (.dT kvs)/\y= .ref b/\H b=some (.tup (k.map kV))/\kvs.length<sizeLine/\H'=upd H a (.dT (putK kvs k v))
theorem oq.k{H:Hp}{a:jp}{kvs:List (Key×V)}{k:Key}(e:H a=some (.dK kvs)):oq H a (kV k) (jo kvs k):=.inl ⟨kvs,k,.inl e,rfl,rfl⟩
theorem cj.k{H:Hp}{a:jp}{kvs:List (Key×V)}{k:Key}{v:V}(e:H a=some (.dK kvs))(hl:kvs.length<sizeLine):cj H a (kV k) v (upd H a (.dK (putK kvs k v))):=.inl ⟨kvs,k,e,rfl,hl,rfl⟩
section
variable {s:zr} {r:zt} {o:Option V} {E:zt->zr->Prop}
theorem Inv.big(I:Inv X pins σ H s):ul<(~~~s):=by
 have h:xi<(~~~s):=(I.mod.glob.keeps I.bk).lt
 exact qzL (by decide) h
theorem qvk{Q:zt->zr->Prop}(hu:A.units+1<eI)(I:Inv X pins σ H s)(g:oq H a y (some v))(ry:RelV y u)(h:∀w' s',Inv X pins σ H s'->RelV v w'->Q w' s'):
  xI (vk X.prog X.w) A (qqF (.ref a) u) Q E s:=by
 rcases g with⟨kvs,k,e,ey,l⟩|⟨kvs,k,b,e,ey,eb,l⟩
 ·subst ey
  obtain⟨z,hd,vs,rel,dd⟩:=rQ I.qt e
  obtain⟨w',hw,vD⟩:=kD.some_of (v:=v) (o:=qza vs k) (by rw[l];exact rel.val k)
  exact wpAny_getItem_of (rf ry) dd.mapOf hw (h w' _ (I.tok _) vD)
 ·subst ey
  cases (show u=Value.ref b from ry)
  obtain⟨z,hd,xs,rel,dd⟩:=QJ I.qt e
  obtain⟨w',hw,vD⟩:=kD.some_of (v:=v) (o:=(atKey xs k).map (·.2)) (by rw[l];exact rel.val k)
  obtain⟨p,hp,ia⟩:=ve.mp hw
  refine wpAny_getItem_heap (qqW hu) (QZ I.qt eb) dd hp ?_
  rw[ia]
  exact h w' _ (I.tok _) vD
theorem qvv{Q:zt->zr->Prop}(hu:A.units+1<eI)(I:Inv X pins σ H s)(g:oq H a y o)(ry:RelV y u)(h:∀s',Inv X pins σ H s'->Q (.bool (!o.isSome)) s'):
  xI (vk X.prog X.w) A (cq .NotIn u (.ref a)) Q E s:=by
 rcases g with⟨kvs,k,e,ey,l⟩|⟨kvs,k,b,e,ey,eb,l⟩
 ·subst ey
  obtain⟨z,hd,vs,rel,dd⟩:=rQ I.qt e
  refine wpAny_notIn_of (rf ry) hd dd.mapOf ?_
  rw[<-(rel.val k).XD,<-l]
  exact h _ (I.tok _)
 ·subst ey
  cases (show u=Value.ref b from ry)
  obtain⟨z,hd,xs,rel,dd⟩:=QJ I.qt e
  refine wpAny_notIn_heap (qqW hu) (QZ I.qt eb) hd dd ?_
  have q:=(rel.val k).XD
  rw[qz0]at q
  rw[<-q,<-l]
  exact h _ (I.tok _)
theorem XH{t':Nat}{ob:HO}(I:Inv X pins σ H s)(mu:yl (H a))(hs:rh a s.heap h')(he:∃q,h'.get? a=some q)(new:jW X.prog X.w (upd H a ob) h' a ob):
  Inv X pins σ (upd H a ob) {s with heap:=h',toks:=t'}:=
 I.write (x:=a) (e:=a) mu (.inl rfl) (λb q hb z=>(hs.2 b hb).trans z) he new
theorem DI{vs:List (Key×zt)}(z:kvs.length<=sizeLine)(hd:(a==ul)=false)(rel:KV kvs vs)(dd:h'.DictOf (xY P w) a vs):
  jW P w H' h' a (.dK kvs):=⟨z,hd,vs,rel,dd⟩
theorem qvw{Q:Unit->zr->Prop}(hu:A.units+1<eI)(I:Inv X pins σ H s)(g:cj H a y v H')(ry:RelV y u)(rv:RelV v r)(h:∀s',Inv X pins σ H' s'->Q () s'):
  xI (vk X.prog X.w) A (setItem (.ref a) u r) Q E s:=by
 rcases g with⟨kvs,k,e,ey,l,eH⟩|⟨kvs,k,b,e,ey,eb,l,eH⟩
 ·subst ey eH
  obtain⟨z,hd,vs,rel,dd⟩:=DO I.qt e
  have hz:vs.length<=sizeLine:=by rw[<-rel.length];exact z
  have hl:(putK kvs k v).length<=sizeLine:=by have :=rg kvs k v;lia
  refine wpAny_setItem_pairs (hsz:=hz) (rf ry) dd λh' vH hs=>h _ ?_
  have he:∃q,h'.get? a=some q:=let⟨q,_,_,hq,_⟩:=vH;⟨q,hq⟩
  exact XH I (by rw[e];exact True.intro) hs he (DI hl hd (rel.put k rv) vH)
 ·subst ey eH
  cases (show u=Value.ref b from ry)
  obtain⟨z,hd,xs,rel,dd⟩:=qvx I.qt e
  have hz:xs.length<=sizeLine:=by rw[<-Paired.length rel];exact z
  have hl:(putK kvs k v).length<=sizeLine:=by have :=rg kvs k v;lia
  refine wpAny_setItem_heap (hsz:=hz) (qqW hu) (QZ I.qt eb) dd λh' vH hs=>h _ ?_
  obtain⟨q,es,ep,hq,h2,h3,h4,_,h5⟩:=vH
  refine XH I (by rw[e];exact True.intro) hs ⟨q,hq⟩ ⟨hl,hd,_,(rel.put k eb rv).keeps λc ys ec=>?_,q,es,ep,hq,h2,h3,h4,h5⟩
  rw[qm (j9 ec e (λz=>nomatch z))]
  exact ec
end
section
variable {s:zr} {k:Key} {E:zt->zr->Prop}
theorem qvy{Q:zt->zr->Prop}(I:Inv X pins σ H s)(e:Rd H a (.dK kvs))(h:∀t s',Inv X pins σ H s'->Q (.int kvs.length t) s'):xI (vk X.prog X.w) A (call (.builtin "len") [.ref a]) Q E s:=by
 obtain⟨z,hd,vs,rel,dd⟩:=rQ I.qt e
 refine call_len_dict hd dd (by rw[<-rel.length];rw[xt]at z;lia) ?_
 rw[<-rel.length]
 exact h _ _ (I.tok _)
end
def DC(i:hU):Prop:=∀ov iv,qzs i false ov iv=operate [ov,iv] (qqF ov iv)
theorem qvu{E:zt->zr->Prop}{s:zr}{value slice:hU}{id:String}{Q:zt->zr->Prop}(hl:cp (.type T) "__getitem__"=pure (some (.builtin id)))(hs:DC slice)(h:xI (vk prog w) A (eval value env) (λo s₁=>xI (vk prog w) A (eval slice env) (λi s₂=>s₂.TypeIs o T/\xI (vk prog w) A (qqF o i) Q E s₂) E s₁) E s):
  xI (vk prog w) A (eval (.Subscript value slice pos) env) Q E s:=by
 refine Subscript_ (wb h (λo s₁ h₁=>wb h₁ (λi s₂ h₂=>?_) λ_ _ x=>x) λ_ _ x=>x)
 obtain⟨hT,h₂⟩:=h₂
 unfold subscriptTail
 refine qr ?_
 rw[getitemInPython_of_ne hT.not_modules]
 refine qr (qzQ hT hl ?_)
 have fin:xI (vk prog w) A (qzs slice false o i) (λr s₃=>xI (vk prog w) A (letTemporaryGo value o r>>=λ_=>pure r) Q E s₃) E s₂:=by
  rw[hs o i]
  exact wpAny_operating (wb h₂ (λr s₃ h₃=>qr (wpAny_letTemporaryGo (xk h₃))) λ_ _ x=>x)
 first
  |exact xk (qr fin)
  |exact qr (xk (qr fin))
  |exact qr fin
theorem qvo{s:zr}{o:Option V}(I:Inv X pins σ H s)(g:oq H a y o):s.TypeIs (.ref a) "dict":=by
 rcases g with⟨kvs,k,e,_,_⟩|⟨kvs,k,b,e,_,_,_⟩
 ·obtain⟨_,_,vs,_,dd⟩:=rQ I.qt e
  exact dd.typeIs
 ·obtain⟨_,_,xs,_,dd⟩:=QJ I.qt e
  exact dd.typeIs
inductive DL(Q:VK)(x:V)(y:V)(H2:Hp):Prop
 |mk (a:_) (v:_) (qQ:x= .ref a) (qZ:oq H2 a y (some v)) (qV:Q v H2):DL Q x y H2
def qvi(td ty:TE):TE:=λσ H Q=>td σ H λx H1=>ty σ H1 λy H2=>DL Q x y H2
inductive DG(Q:VK)(y:V)(x:V)(H2:Hp):Prop
 |mk (a:_) (o:_) (qQ:x= .ref a) (qZ:oq H2 a y o) (qV:Q (.bl (!o.isSome)) H2):DG Q y x H2
def qvc(ty td:TE):TE:=λσ H Q=>ty σ H λy H1=>td σ H1 λx H2=>DG Q y x H2
inductive DM(N_:St->Hp->Prop)(σ:St)(v:V)(x:V)(y:V)(H3:Hp):Prop
 |mk (a:_) (H4:_) (qQ:x= .ref a) (qZ:cj H3 a y v H4) (qV:N_ σ H4):DM N_ σ v x y H3
def DN(td ty tv:TE):TS:=λD σ H=>tv σ H λv H1=>td σ H1 λx H2=>ty σ H2 λy H3=>DM D.nx σ v x y H3
section
variable {o i value:hU} {Bg:Pos} {td ty:TE}
theorem DB(hu:X.A.units+1<eI)(ho:PE X o td)(hi:PE X i ty)(hs:DC i):PE X (.Subscript o i pos) (qvi td ty):=by
 exfalso
 refine qvu PySem.F.slot_dict_getitem.lookup hs (qX (ho pins s σ H _ I h) λu s1⟨x,H1,I1,rx,q1⟩=>qX (hi pins s1 σ H1 _ I1 q1) λiv s2⟨y,H2,I2,ry,a,v,ex,g,q2⟩=>?_)
 subst ex
 obtain rfl:u=Value.ref a:=rx
 exact⟨qvo I2 g,qvk hu I2 g ry λw' s3 I3 vD=>⟨v,H2,I3,vD,q2⟩⟩
theorem qvl(hu:X.A.units+1<eI)(hi:PE X i ty)(ho:PE X o td):PC X .NotIn i o (qvc ty td):=by
 exfalso
 refine qX (hi pins s σ H _ I h) λiv s1⟨y,H1,I1,ry,q1⟩=>qX (ho pins s1 σ H1 _ I1 q1) λu s2⟨x,H2,I2,rx,a,ov,ex,g,q2⟩=>?_
 subst ex
 obtain rfl:u=Value.ref a:=rx
 exact qvv hu I2 g ry λs3 I3=>⟨.bl (!ov.isSome),H2,I3,rfl,q2⟩
theorem QX(hu:X.A.units+1<eI)(ho:PE X o td)(hi:PE X i ty)(hv:PE X value tv)(hs:Nw value (some (.Subscript o i pos')) pos.line X.env=pure false):
  PS X (.Assign [.Subscript o i pos'] value pos) (DN td ty tv):=by
 intro pins s σ H D I h
 refine wpAny_Assign_Subscript (qX (hv pins s σ H _ I h) λr s1⟨v,H1,I1,rv,q1⟩=>qX (ho pins s1 σ H1 _ I1 q1) λu s2⟨x,H2,I2,rx,q2⟩=>qX (hi pins s2 σ H2 _ I2 q2) λiv s3⟨y,H3,I3,ry,a,H4,ex,g,q3⟩=>?_) hs
 subst ex
 obtain rfl:u=Value.ref a:=rx
 exact qvw hu I3 g ry rv λs4 I4=>⟨σ,H4,I4,q3⟩
end
theorem DF(h:ll)(hb:ul<h.objs.size):jW P w H (h.push {cls:=.type "dict",data:=.dict #[]}) h.objs.size (.dK []):=
 ⟨io _,kS.mpr (y7 (zK hb)),[],.nil,Heap.DictOf.new h⟩
def qvg:TE:=λ_ H Q=>∀p,H p=none->Q (.ref p) (upd H p (.dK []))
theorem QK:PE X (.Dict [] [] pos) qvg:=λpins s σ H Q I h=>
 wpAny_Dict_empty ⟨.ref (~~~s),_,I.laid (a:=(~~~s)) (o:=.dK []) (t':=s.toks) (λ_ _ q=>qF _ q) (qL _) (DF s.heap I.big),rfl,h _ (I.qt.fresh (qL _))⟩
def XR:List (TE×TE)->St->Hp->(List (V×V)->Hp->Prop)->Prop
 |[],_,H,Q=>Q [] H
 |(tk,tv)::r,σ,H,Q=>tk σ H λx H1=>tv σ H1 λy H2=>XR r σ H2 λps H3=>Q ((x,y)::ps) H3
abbrev VV:List (V×V)->List (zt×zt)->Prop:=Paired λp q=>RelV p.1 q.1/\RelV p.2 q.2
def rZ(X:Cx)(pos:Pos)(keys:List (Option hU))(values:List hU)(xO:List (TE×TE)):Prop:=
 ∀(pins:List (jp×Obj))(s:zr)(σ:St)(H:Hp)(Q:List (V×V)->Hp->Prop),Inv X pins σ H s->XR xO σ H Q->
  xI (vk X.prog X.w) X.A (evalPairs (pairTrees keys values X.env pos)) (λvs s'=>∃ps H',Inv X pins σ H' s'/\VV ps vs/\Q ps H') X.xe s
theorem qvm:rZ X pos [] [] []:=λpins s σ H Q I h=>pairTrees_nil_walk ⟨[],H,I,.nil,h⟩
theorem qvn{k v:hU}{ks:List (Option hU)}{vs:List hU}{tk:TE}{xO:List (TE×TE)}(hk:PE X k tk)(hv:PE X v tv)(hr:rZ X pos ks vs xO):
  rZ X pos (some k::ks) (v::vs) ((tk,tv)::xO):=λpins s σ H Q I h=>
 pairTrees_cons_walk (qX (hk pins s σ H _ I h) λu s1⟨x,H1,I1,rx,q1⟩=>qX (hv pins s1 σ H1 _ I1 q1) λw2 s2⟨y,H2,I2,ry,q2⟩=>
  qX (hr pins s2 σ H2 _ I2 q2) λws s3⟨ps,H3,I3,rel,q3⟩=>⟨(x,y)::ps,H3,I3,.cons ⟨rx,ry⟩ rel,q3⟩)
def nV(kvs more:List (Key×V)):List (Key×V):=more.foldl (λacc kv=>putK acc kv.1 kv.2) kvs
theorem KV.merge:∀{more:List (Key×V)}{rs:List (Key×zt)}{kvs:List (Key×V)}{vs:List (Key×zt)},KV more rs->KV kvs vs->KV (nV kvs more) (merged vs rs):=by
 intro more rs kvs vs r
 unfold KV at r
 induction r generalizing kvs vs with
 |nil=>intro q;exact q
 | @cons p q ps qs h t ih=>
  intro r0
  have e:KV (putK kvs p.1 p.2) (stored vs q.1 q.2):=by
   have :=r0.put p.1 h.2
   rw[<-h.1];exact this
  exact ih e
theorem DH:∀(more kvs:List (Key×V)),(nV kvs more).length<=kvs.length+more.length
 |[],kvs=>by show kvs.length<=kvs.length+0;lia
 |p::r,kvs=>by
  have h1:=DH r (putK kvs p.1 p.2)
  have h2:=rg kvs p.1 p.2
  show(nV (putK kvs p.1 p.2) r).length<=_
  rw[zH];lia
theorem DP{P:cv}{w:fe}:∀{kvs:List (Key×V)}{ws:List (zt×zt)},VV (kvs.map λkv=>(kV kv.1,kv.2)) ws->∃rs,Carries (xY P w) ws rs/\KV kvs rs
 |[],_,r=>by rw[eJ]at r;cases r;exact⟨[],True.intro,.nil⟩
 |p::kvs,_,r=>by
  rw[wq]at r
  cases r with
  | @cons a b as bs h t=>
   obtain⟨rs,c,q⟩:=DP (P:=P) (w:=w) t
   obtain⟨b1,b2⟩:=b
   exact⟨(p.1,b2)::rs,⟨rf h.1,rfl,c⟩,.cons ⟨rfl,h.2⟩ q⟩
def XS(xO:List (TE×TE)):TE:=λσ H Q=>∀p,H p=none->XR xO σ (upd H p (.dK [])) λps H2=>H2 p=some (.dK [])/\∃kvs:List (Key×V),ps=kvs.map (λkv=>(kV kv.1,kv.2))/\kvs.length<=15/\Q (.ref p) (upd H2 p (.dK (nV [] kvs)))
theorem qvb{keys:List (Option hU)}{values:List hU}{xO:List (TE×TE)}(h:rZ X pos keys values xO)(uS:keys.all (·.isSome)=true)(hl:keys.length=values.length)(h0:keys≠[])(XT:keys.length<=15):PE X (.Dict keys values pos) (XS xO):=by
 intro pins s σ H Q I q
 have hn:=I.qt.fresh (qL (~~~s))
 have I1:=I.laid (a:=(~~~s)) (o:=.dK []) (h':=s.heap.push {cls:=.type "dict",data:=.dict #[]}) (t':=s.toks) (λ_ _ q=>qF _ q) (qL _) (DF s.heap I.big)
 refine wpAny_Dict_walk (knd:=xY X.prog X.w) uS hl h0 XT (qX (h pins _ σ _ _ I1 (q _ hn)) λws s2⟨ps,H2,I2,rel,e,kvs,ep,lk,q2⟩=>?_)
 subst ep
 obtain⟨rs,c,rk⟩:=DP (P:=X.prog) (w:=X.w) rel
 obtain⟨z,hd,vs0,r0,dd⟩:=DO I2.qt e
 cases r0
 refine⟨rs,c,dd,λh' vH hs=>⟨.ref (~~~s),_,?_,rfl,q2⟩⟩
 have hz:(nV [] kvs).length<=sizeLine:=by
  have h1:=DH kvs []
  rw[yn]at h1
  rw[xt];lia
 have he:∃q,h'.get? (~~~s)=some q:=let⟨q,_,_,hq,_⟩:=vH;⟨q,hq⟩
 exact XH I2 (by rw[e];exact True.intro) hs he (DI hz hd (rk.merge .nil) vH)
section
variable {s:zr} {d:V} {r:zt} {o:Option V} {E:zt->zr->Prop}
end
section
variable {o f:hU} {kK:Pos} {td ty tx:TE}
end
section
variable {s:zr} {E:zt->zr->Prop}
end
section
variable {s:zr} {E:zt->zr->Prop}
end
theorem qvd:vG X (.builtin "len") (λxs H Q=>∃a kvs,xs=[V.ref a]/\H a=some (.dK kvs)/\Q (.int kvs.length) H):=by
 intro pins s σ H xs us Q I r h
 obtain⟨a,kvs,rfl,ha,q⟩:=h
 obtain⟨u,rfl,ru⟩:=vals1 r
 cases ru
 exact qvy I (.inl ha) λt s' I'=>⟨.int kvs.length,H,I',⟨t,rfl⟩,q⟩
section
variable {κ:Type} [DecidableEq κ]
end
end L2
inductive Dt where
 |qd|bl (b:Bool)|int (i:Int)|str (x:PySem.Str)|tup (ds:List Dt)
namespace Dt
open PySem
mutual
def zU:Dt->Dt->Bool
 | .qd,.qd=>true
 | .bl a,.bl b=>a==b
 | .bl a,.int b=>(if a then 1 else 0)==b
 | .int a,.bl b=>a==(if b then 1 else 0)
 | .int a,.int b=>a==b
 | .str a,.str b=>a==b
 | .tup xs,.tup ys=>jC xs ys
 |_,_=>false
def jC:List Dt->List Dt->Bool
 |[],[]=>true
 |x::xs,y::ys=>zU x y&&jC xs ys
 |_,_=>false
end
mutual
def dep:Dt->Nat
 | .tup xs=>j7 xs+1
 |_=>0
def j7:List Dt->Nat
 |[]=>0
 |x::xs=>max (dep x) (j7 xs)
end
mutual
theorem DR:∀d:Dt,zU d d=true
 | .qd=>rfl
 | .bl a=>by simp[zU]
 | .int a=>by simp[zU]
 | .str a=>by simp[zU]
 | .tup xs=>by rw[zU];exact X0 xs
theorem X0:∀ds:List Dt,jC ds ds=true
 |[]=>rfl
 |x::xs=>by rw[jC,DR x,X0 xs];rfl
end
theorem DS:∀{xs ys:List Dt},jC xs ys=true->xs.length=ys.length
 |[],[],_=>rfl
 |[],_::_,h=>by simp[jC]at h
 |_::_,[],h=>by simp[jC]at h
 |x::xs,y::ys,h=>by
  rw[jC,o3]at h
  rw[zH,zH,DS h.2]
theorem QV(z:Dt):∀(xs ys:List Dt),((qqv (min xs.length ys.length)).all (λj=>zU (xs.getD j z) (ys.getD j z))&&xs.length==ys.length)=jC xs ys
 |[],[]=>rfl
 |[],_::_=>by simp[jC]
 |_::_,[]=>by simp[jC]
 |x::xs,y::ys=>by
  rw[jC,<-QV z xs ys]
  have e:min (x::xs).length (y::ys).length=min xs.length ys.length+1:=by simp only[zH];lia
  rw[e,List.range_succ_eq_map,qzl,qqu]
  have e2:((x::xs).length==(y::ys).length)=(xs.length==ys.length):=by
   rw[mi,XB,XB,zH,zH];lia
  rw[e2,Bool.and_assoc]
  rfl
end Dt
namespace L2
open PySem PySem.Spec PyProof.Rows PyProof Dt
mutual
def qw(K:Fg)(H:Hp):Dt->V->Prop
 | .qd,v=>v= .qd
 | .bl b,v=>v= .bl b
 | .int i,v=>v= .int i
 | .str x,v=>v= .str x
 | .tup ds,v=>∃a vs,v= .ref a/\qb K H a vs/\qf K H ds vs
def qf(K:Fg)(H:Hp):List Dt->List V->Prop
 |[],vs=>vs=[]
 |d::ds,vs=>∃v r,vs=v::r/\qw K H d v/\qf K H ds r
end
theorem qb.mono(e:kP H H')(h:qb K H a xs):qb K H' a xs:=by
 rcases h with(h|⟨o,h⟩)|h
 ·exact .inl (.inl (e _ _ h))
 ·exact .inl (.inr ⟨o,e _ _ h⟩)
 ·exact .inr h
mutual
theorem qw.mono(e:kP H H'):∀{d:Dt}{v:V},qw K H d v->qw K H' d v
 | .qd,_,h=>by rw[qw]at h⊢;exact h
 | .bl _,_,h=>by rw[qw]at h⊢;exact h
 | .int _,_,h=>by rw[qw]at h⊢;exact h
 | .str _,_,h=>by rw[qw]at h⊢;exact h
 | .tup ds,_,h=>by
  rw[qw]at h⊢
  obtain⟨a,vs,h1,h2,h3⟩:=h
  exact⟨a,vs,h1,h2.mono e,qf.mono e h3⟩
theorem qf.mono(e:kP H H'):∀{ds:List Dt}{vs:List V},qf K H ds vs->qf K H' ds vs
 |[],_,h=>by rw[qf]at h⊢;exact h
 |d::ds,_,h=>by
  rw[qf]at h⊢
  obtain⟨v,r,h1,h2,h3⟩:=h
  exact⟨v,r,h1,qw.mono e h2,qf.mono e h3⟩
end
theorem qf.length:∀{ds:List Dt}{vs:List V},qf K H ds vs->vs.length=ds.length
 |[],_,h=>by rw[qf]at h;rw[h];rfl
 |d::ds,_,h=>by
  rw[qf]at h
  obtain⟨v,r,rfl,_,h3⟩:=h
  rw[zH,zH,qf.length h3]
theorem qf.get:∀{ds:List Dt}{vs:List V}{i:Nat}{d:Dt},qf K H ds vs->ds[i]? =some d->∃v,vs[i]? =some v/\qw K H d v
 |[],_,_,_,_,e=>by simp at e
 |d::ds,_,0,d',h,e=>by
  rw[qf]at h
  obtain⟨v,r,rfl,h2,_⟩:=h
  have :d=d':=by simpa using e
  subst this
  exact⟨v,rfl,h2⟩
 |d::ds,_,i+1,d',h,e=>by
  rw[qf]at h
  obtain⟨v,r,rfl,_,h3⟩:=h
  obtain⟨v',h4,h5⟩:=qf.get (i:=i) h3 (by simpa using e)
  exact⟨v',by simpa using h4,h5⟩
theorem qf.append:∀{ds es:List Dt}{vs ws:List V},qf K H ds vs->qf K H es ws->qf K H (ds++es) (vs++ws)
 |[],_,_,_,h,g=>by rw[qf]at h;subst h;exact g
 |d::ds,_,_,_,h,g=>by
  rw[qf]at h
  obtain⟨v,r,rfl,h2,h3⟩:=h
  rw[hG,qf]
  exact⟨v,r++_,rfl,h2,qf.append h3 g⟩
section
variable {s:zr}
mutual
theorem QW(I:Inv X pins σ H s):∀{d e:Dt}{v:V},qw X.K H d v->qw X.K H e v->d=e
 | .qd,e,v,h,g=>by
  rw[qw]at h
  subst h
  cases e with
  |qd=>first|rfl|(rw[qw]at g;cases g)
  |bl c=>rw[qw]at g;cases g;all_goals rfl
  |int c=>rw[qw]at g;cases g;all_goals rfl
  |str c=>rw[qw]at g;cases g;all_goals rfl
  |tup es=>rw[qw]at g;obtain⟨_,_,z,_⟩:=g;cases z
 | .bl b,e,v,h,g=>by
  rw[qw]at h
  subst h
  cases e with
  |qd=>first|rfl|(rw[qw]at g;cases g)
  |bl c=>rw[qw]at g;cases g;all_goals rfl
  |int c=>rw[qw]at g;cases g;all_goals rfl
  |str c=>rw[qw]at g;cases g;all_goals rfl
  |tup es=>rw[qw]at g;obtain⟨_,_,z,_⟩:=g;cases z
 | .int i,e,v,h,g=>by
  rw[qw]at h
  subst h
  cases e with
  |qd=>first|rfl|(rw[qw]at g;cases g)
  |bl c=>rw[qw]at g;cases g;all_goals rfl
  |int c=>rw[qw]at g;cases g;all_goals rfl
  |str c=>rw[qw]at g;cases g;all_goals rfl
  |tup es=>rw[qw]at g;obtain⟨_,_,z,_⟩:=g;cases z
 | .str x,e,v,h,g=>by
  rw[qw]at h
  subst h
  cases e with
  |qd=>first|rfl|(rw[qw]at g;cases g)
  |bl c=>rw[qw]at g;cases g;all_goals rfl
  |int c=>rw[qw]at g;cases g;all_goals rfl
  |str c=>rw[qw]at g;cases g;all_goals rfl
  |tup es=>rw[qw]at g;obtain⟨_,_,z,_⟩:=g;cases z
 | .tup ds,e,v,h,g=>by
  rw[qw]at h
  obtain⟨a,vs,rfl,h2,h3⟩:=h
  cases e with
  |tup es=>
   rw[qw]at g
   obtain⟨a',nJ,e1,g2,g3⟩:=g
   cases e1
   have e2:=I.NB h2 g2
   subst e2
   rw[DT I h3 g3]
  |_=>rw[qw]at g;cases g
theorem DT(I:Inv X pins σ H s):∀{ds es:List Dt}{vs:List V},qf X.K H ds vs->qf X.K H es vs->ds=es
 |[],es,vs,h,g=>by
  rw[qf]at h
  subst h
  cases es with
  |nil=>rfl
  |cons e es=>rw[qf]at g;obtain⟨_,_,z,_⟩:=g;cases z
 |d::ds,es,vs,h,g=>by
  rw[qf]at h
  obtain⟨v,r,rfl,h2,h3⟩:=h
  cases es with
  |nil=>rw[qf]at g;cases g
  |cons e es=>
   rw[qf]at g
   obtain⟨v',r',z,g2,g3⟩:=g
   cases z
   rw[QW I h2 g2,DT I h3 g3]
end
theorem tup_is(I:Inv X pins σ H s){ds:List Dt}(h:qw X.K H (.tup ds) v)(r:RelV v u):∃a qy,u= .ref a/\s.heap.IsTuple a qy/\v= .ref a:=by
 rw[qw]at h
 obtain⟨a,vs,rfl,h2,_⟩:=h
 obtain⟨qy,_,ht,_⟩:=I.tuple h2
 exact⟨a,_,r,ht,rfl⟩
mutual
theorem DA(I:Inv X pins σ H s):∀(d e:Dt)(A:si)(x y:V)(u v:zt),A.units+dep d<eI->qw X.K H d x->qw X.K H e y->RelV x u->RelV y v->F' A s u v (zU d e)
 | .qd,e,A,x,y,u,v,hu,h,g,r1,r2=>by
  have jr:A.units<eI:=by lia
  rw[qw]at h;subst h;cases r1
  cases e with
  |qd=>rw[qw]at g;subst g;cases r2;exact TC _
  |bl b=>rw[qw]at g;subst g;cases r2;exact qqB b
  |int b=>rw[qw]at g;subst g;obtain⟨t,rfl⟩:=r2;exact qq4 b t
  |str b=>rw[qw]at g;subst g;obtain⟨t,rfl⟩:=r2;exact qq5 b t
  |tup es=>obtain⟨a,qy,rfl,ht,_⟩:=tup_is I g r2;exact SeqAt.EqAt.none_tuple ht jr
 | .bl b,e,A,x,y,u,v,hu,h,g,r1,r2=>by
  have jr:A.units<eI:=by lia
  rw[qw]at h;subst h;cases r1
  cases e with
  |qd=>rw[qw]at g;subst g;cases r2;exact qqN b
  |bl c=>rw[qw]at g;subst g;cases r2;exact qqM b c
  |int c=>rw[qw]at g;subst g;obtain⟨t,rfl⟩:=r2;exact qq0 b c t
  |str c=>rw[qw]at g;subst g;obtain⟨t,rfl⟩:=r2;exact qq1 b c t
  |tup es=>obtain⟨a,qy,rfl,ht,_⟩:=tup_is I g r2;exact SeqAt.EqAt.bool_tuple b ht jr
 | .int i,e,A,x,y,u,v,hu,h,g,r1,r2=>by
  have jr:A.units<eI:=by lia
  rw[qw]at h;subst h;obtain⟨t',rfl⟩:=r1
  cases e with
  |qd=>rw[qw]at g;subst g;cases r2;exact qq3 i t'
  |bl c=>rw[qw]at g;subst g;cases r2;exact qq2 i t' c
  |int c=>rw[qw]at g;subst g;obtain⟨t,rfl⟩:=r2;exact qzk i t' c t
  |str c=>rw[qw]at g;subst g;obtain⟨t,rfl⟩:=r2;exact Hk i t' c t
  |tup es=>obtain⟨a,qy,rfl,ht,_⟩:=tup_is I g r2;exact SeqAt.EqAt.int_tuple i t' ht jr
 | .str i,e,A,x,y,u,v,hu,h,g,r1,r2=>by
  have jr:A.units<eI:=by lia
  rw[qw]at h;subst h;obtain⟨t',rfl⟩:=r1
  cases e with
  |qd=>rw[qw]at g;subst g;cases r2;exact qq7 i t'
  |bl c=>rw[qw]at g;subst g;cases r2;exact qq6 i t' c
  |int c=>rw[qw]at g;subst g;obtain⟨t,rfl⟩:=r2;exact Hm i t' c t
  |str c=>rw[qw]at g;subst g;obtain⟨t,rfl⟩:=r2;exact qzv i t' c t
  |tup es=>obtain⟨a,qy,rfl,ht,_⟩:=tup_is I g r2;exact SeqAt.EqAt.str_tuple i t' ht jr
 | .tup ds,e,A,x,y,u,v,hu,h,g,r1,r2=>by
  rw[dep]at hu
  have jr:A.units<eI:=by lia
  cases e with
  |qd=>obtain⟨a,qy,rfl,ht,_⟩:=tup_is I h r1;rw[qw]at g;subst g;cases r2;exact SeqAt.EqAt.tuple_none ht jr
  |bl c=>obtain⟨a,qy,rfl,ht,_⟩:=tup_is I h r1;rw[qw]at g;subst g;cases r2;exact SeqAt.EqAt.tuple_bool c ht jr
  |int c=>obtain⟨a,qy,rfl,ht,_⟩:=tup_is I h r1;rw[qw]at g;subst g;obtain⟨t,rfl⟩:=r2;exact SeqAt.EqAt.tuple_int c t ht jr
  |str c=>obtain⟨a,qy,rfl,ht,_⟩:=tup_is I h r1;rw[qw]at g;subst g;obtain⟨t,rfl⟩:=r2;exact SeqAt.EqAt.tuple_str c t ht jr
  |tup es=>
   have h0:=h
   have g0:=g
   rw[qw]at h g
   obtain⟨a,vs,rfl,h2,h3⟩:=h
   obtain⟨b,ws,rfl,g2,g3⟩:=g
   cases r1
   cases r2
   by_cases uv:a=b
   ·subst uv
    have e0:=QW I h0 g0
    rw[e0,DR]
    exact TC _
   ·obtain⟨qy,rv,ht,_⟩:=I.tuple h2
    obtain⟨xf,vD,ye,_⟩:=I.tuple g2
    refine SeqAt.EqAt.of_refs uv ?_
    have l1:qy.length=ds.length:=by rw[<-rv.length,h3.length]
    have l2:xf.length=es.length:=by rw[<-vD.length,g3.length]
    have key:=qzm (e:=λj=>zU (ds.getD j .qd) (es.getD j .qd)) (show s.heap.IsTuple a qy.toArray from ht) (show s.heap.IsTuple b xf.toArray from ye) jr λj h1 rJ=>by
     have :=QY I ds es A.in1 vs ws qy xf (by show A.units+1+j7 ds<eI;lia) h3 g3 rv vD j (by simpa using h1) (by simpa using rJ)
     simpa using this
    rw[jd,jd,l1,l2,QV]at key
    rw[zU]
    exact key
theorem QY(I:Inv X pins σ H s):∀(ds es:List Dt)(A:si)(xs ys:List V)(us vs:List zt),A.units+j7 ds<eI->qf X.K H ds xs->qf X.K H es ys->Vals xs us->Vals ys vs->
  ∀(j:Nat)(h1:j<us.length)(h2:j<vs.length),F' A s us[j] vs[j] (zU (ds.getD j .qd) (es.getD j .qd))
 |[],es,A,xs,ys,us,vs,hu,h,g,r1,r2,j,h1,h2=>by
  rw[qf]at h;subst h;cases r1;simp at h1
 |d::ds,[],A,xs,ys,us,vs,hu,h,g,r1,r2,j,h1,h2=>by
  rw[qf]at g;subst g;cases r2;simp at h2
 |d::ds,e::es,A,xs,ys,us,vs,hu,h,g,r1,r2,j,h1,h2=>by
  rw[j7]at hu
  rw[qf]at h g
  obtain⟨x,xr,rfl,h3,h4⟩:=h
  obtain⟨y,yr,rfl,g3,g4⟩:=g
  cases r1 with
  |cons p1 q1=>
   cases r2 with
   |cons p2 q2=>
    cases j with
    |zero=>exact DA I d e A x y _ _ (by lia) h3 g3 p1 p2
    |succ j=>
     have :=QY I ds es A xr yr _ _ (by lia) h4 g4 q1 q2 j (by simpa using h1) (by simpa using h2)
     simpa using this
end
end
section
variable {s:zr}
theorem qvf(I:Inv X pins σ H s)(d e:Dt)(A:si)(x y:V)(u v:zt)(hu:A.units+dep d<eI)(h:qw X.K H d x)(g:qw X.K H e y)(r1:RelV x u)(r2:RelV y v):SeqAt.RcAt A s u v (zU d e):=by
 have jr:A.units<eI:=by lia
 cases d with
 |qd=>
  rw[qw]at h;subst h;cases r1
  cases e with
  |qd=>rw[qw]at g;subst g;cases r2;exact SeqAt.RcAt.none_none
  |bl c=>rw[qw]at g;subst g;cases r2;exact SeqAt.RcAt.none_bool c
  |int c=>rw[qw]at g;subst g;obtain⟨t,rfl⟩:=r2;exact SeqAt.RcAt.none_int c t
  |str c=>rw[qw]at g;subst g;obtain⟨t,rfl⟩:=r2;exact SeqAt.RcAt.none_str c t
  |tup es=>obtain⟨a,qy,rfl,ht,_⟩:=tup_is I g r2;exact SeqAt.RcAt.none_tuple ht jr
 |bl b=>
  rw[qw]at h;subst h;cases r1
  cases e with
  |qd=>rw[qw]at g;subst g;cases r2;exact SeqAt.RcAt.bool_none b
  |bl c=>rw[qw]at g;subst g;cases r2;exact SeqAt.RcAt.bool_bool b c
  |int c=>rw[qw]at g;subst g;obtain⟨t,rfl⟩:=r2;exact SeqAt.RcAt.bool_int b c t
  |str c=>rw[qw]at g;subst g;obtain⟨t,rfl⟩:=r2;exact SeqAt.RcAt.bool_str b c t
  |tup es=>obtain⟨a,qy,rfl,ht,_⟩:=tup_is I g r2;exact SeqAt.RcAt.bool_tuple b ht jr
 |int b=>
  rw[qw]at h;subst h;obtain⟨t',rfl⟩:=r1
  cases e with
  |qd=>rw[qw]at g;subst g;cases r2;exact SeqAt.RcAt.int_none b t'
  |bl c=>rw[qw]at g;subst g;cases r2;exact SeqAt.RcAt.int_bool b t' c
  |int c=>rw[qw]at g;subst g;obtain⟨t,rfl⟩:=r2;exact SeqAt.RcAt.int_int b t' c t
  |str c=>rw[qw]at g;subst g;obtain⟨t,rfl⟩:=r2;exact SeqAt.RcAt.int_str b t' c t
  |tup es=>obtain⟨a,qy,rfl,ht,_⟩:=tup_is I g r2;exact SeqAt.RcAt.int_tuple b t' ht jr
 |str b=>
  rw[qw]at h;subst h;obtain⟨t',rfl⟩:=r1
  cases e with
  |qd=>rw[qw]at g;subst g;cases r2;exact SeqAt.RcAt.str_none b t'
  |bl c=>rw[qw]at g;subst g;cases r2;exact SeqAt.RcAt.str_bool b t' c
  |int c=>rw[qw]at g;subst g;obtain⟨t,rfl⟩:=r2;exact SeqAt.RcAt.str_int b t' c t
  |str c=>rw[qw]at g;subst g;obtain⟨t,rfl⟩:=r2;exact SeqAt.RcAt.str_str b t' c t
  |tup es=>obtain⟨a,qy,rfl,ht,_⟩:=tup_is I g r2;exact SeqAt.RcAt.str_tuple b t' ht jr
 |tup ds=>
  cases e with
  |qd=>obtain⟨a,qy,rfl,ht,_⟩:=tup_is I h r1;rw[qw]at g;subst g;cases r2;exact SeqAt.RcAt.tuple_none ht jr
  |bl c=>obtain⟨a,qy,rfl,ht,_⟩:=tup_is I h r1;rw[qw]at g;subst g;cases r2;exact SeqAt.RcAt.tuple_bool c ht jr
  |int c=>obtain⟨a,qy,rfl,ht,_⟩:=tup_is I h r1;rw[qw]at g;subst g;obtain⟨t,rfl⟩:=r2;exact SeqAt.RcAt.tuple_int c t ht jr
  |str c=>obtain⟨a,qy,rfl,ht,_⟩:=tup_is I h r1;rw[qw]at g;subst g;obtain⟨t,rfl⟩:=r2;exact SeqAt.RcAt.tuple_str c t ht jr
  |tup es=>
   rw[qw]at h g
   obtain⟨a,vs,rfl,h2,h3⟩:=h
   obtain⟨b,ws,rfl,g2,g3⟩:=g
   cases r1
   cases r2
   rw[dep]at hu
   obtain⟨qy,rv,ht,_⟩:=I.tuple h2
   obtain⟨xf,vD,ye,_⟩:=I.tuple g2
   have l1:qy.length=ds.length:=by rw[<-rv.length,h3.length]
   have l2:xf.length=es.length:=by rw[<-vD.length,g3.length]
   have key:=qzm (e:=λj=>zU (ds.getD j .qd) (es.getD j .qd)) (show s.heap.IsTuple a qy.toArray from ht) (show s.heap.IsTuple b xf.toArray from ye) jr λj h1 rJ=>by
    have :=QY I ds es A.in1 vs ws qy xf (by show A.units+1+j7 ds<eI;lia) h3 g3 rv vD j (by simpa using h1) (by simpa using rJ)
    simpa using this
   rw[jd,jd,l1,l2,QV]at key
   rw[zU]
   exact key
theorem nW:jf X (cq .Eq) (λx y H Q=>∃d e,qw X.K H d x/\qw X.K H e y/\X.A.units+dep d<eI/\Q (.bl (zU d e)) H):=by
 intro pins s σ H x y v u Q I rx ry h
 obtain⟨d,e,h1,h2,hu,q⟩:=h
 exact qvf I d e X.A x y v u hu h1 h2 rx ry X.prog X.w X.xe _ ⟨.bl _,H,I,rfl,q⟩
end
end L2
namespace L2
open PySem PySem.Spec PyProof.Rows PyProof
def jR(ix:List Nat)(o:List (Option V))(σ:St):St:=o++ix.map λi=>σ.getD i none
def wK:Option TT->TT
 |none=>λ_ H Q=>Q true H
 |some t=>t
def rX(X:Cx)(ifs:List hU)(t:Option TT):Prop:=match ifs,t with
 |[],none=>True
 |[c],some tc=>PT X c tc
 |_,_=>False
def gq(wi:TI)(g:TG)(tc:Option TT)(te:TE)(n:Nat)(ix:List Nat):TE:=λσ H Q=>wi σ H λJ H1=>∀D,H1 D=none->∃W:Nat->Nat->List V->Hp->Prop,(∃m,W 0 m [] (upd H1 D (.lst [])))/\∀i m ys H2,W i m ys H2->
 (J.stop i H2/\Q (.ref D) H2)\/(J.go i H2/\∀(o:List (Option V))v H3,o.length=n->J.vZ i H2 v H3->g v (jR ix o σ) H3 λσ2 H4=>(∃o':List (Option V),σ2=jR ix o' σ/\o'.length=n)/\
  wK tc σ2 H4 λb H5=>if b=true then te σ2 H5 λy H6=>H6 D=some (.lst ys)/\ys.length<sizeLine/\∃m',m'<m/\W (i+1) m' (ys++[y]) (upd H6 D (.lst (ys++[y])))else∃m',m'<m/\W (i+1) m' ys H5)
structure wR(X:Cx)(scope:Scope)(cl:List (Str×jp))(own rest:List Str)(ix:List Nat):Prop where
 X3:closureFor scope X.env=pure cl
 cell:∀y∈scope.names,y.2≠ .cell
 kind:scope.kind= .function
 names:∀y∈scope.names,y.2= .local->scope.names.lookup y.1=some .local
 cls:∀y c,cl.lookup y=some c->X.env.cells.lookup y=some c
 fr:∀y,scope.names.lookup y=some .free->∃c,cl.lookup y=some c
 nd:(own++rest).Nodup
 at_:∀(j:Nat)(y:Str),rest[j]? =some y->∃i:Nat,ix[j]? =some i/\X.N[i]? =some y
 len:ix.length=rest.length
 out:∀y∈rest,scope.names.lookup y=some .free/\(X.env.kindOf y=some .cell\/X.env.kindOf y=some .free)
section
variable {rest:List Str}
theorem qvh(ok:wR X scope cl own rest ix){s:zr}(I:Inv X pins σ H s)(hf:∀b∈fp,xA X pins H b)(hb:∀b∈fp,b<(~~~s)):
  (ju X scope cl (own++rest) (~~~s) s H fp pins).Ok where
 mod:=I.ok.mod
 kind:=ok.kind
 glob:=I.ok.glob
 blt:=I.ok.blt
 above:=qL _
 inj:=λy z c h1 h2=>I.ok.inj y z c (ok.cls y c h1) (ok.cls z c h2)
 has:=λy hy=>by
  rcases hy with hy|hy
  ·exact ok.fr y (DJ hy (.inl rfl) ok.cell)
  ·exact ok.fr y (DJ hy (.inr rfl) ok.cell)
 lJ:=λy c h _=>by cases h
 hd:=I.ok.hd
 frames:=I.ok.frames
 qI:=.inl rfl
 eY:=λb jE=>⟨zK (hb b jE),λy c h=>(hf b jE).2.2.2.2.1 y c (ok.cls y c h)⟩
 bs:=I.bs
 yg:=vy I.ok.yg I.sz
 lX:=λb o e jE=>by
  rcases(hf b jE).2.2.2.1 with z|z
  ·exact I.ok.lX b o e z
  ·exact absurd (vx (vx (zu e) I.ok.yg) z) (bj _)
 mY:=λb jE hm=>by
  rcases js.mp (I.dG b hm)with z|z
  ·exact(hf b jE).2.1 z
  ·exact(hf b jE).2.2.1 z
 vQ:=I.stack
 uG:=I.dM
theorem DE(ok:wR X scope cl own rest ix){s:zr}{h₁:ll}{tk:Nat}{o:Obj}(I:Inv X pins σ H s)(hf:∀b∈fp,xA X pins H b)(hb:∀b∈fp,b<(~~~s))(hn:h₁.Ns (~~~s) λ_=>none)(hs:rh (~~~s) (s.heap.push o) h₁):
  Inv (ju X scope cl (own++rest) (~~~s) s H fp pins) [] (jR ix (px own.length none) σ) H {s with heap:=h₁,toks:=tk}:=by
 have kp:∀b u,s.heap.get? b=some u->h₁.get? b=some u:=λb u e=>(hs.2 b (zK (zu e))).trans (qF _ e)
 refine⟨qvh ok I hf hb,rfl,I.bare,Un.kept kp,⟨_,hn,λj y v e1 e2 e3=>?_⟩,λy c h=>?_,I.qt.fresh (qL _),λy c h=>I.ym y c (ok.cls y c h),λp hp=>?_,I.qt.kept kp,?_⟩
 ·have yQ:(own++rest)[j]? =some y:=e1
  have uw:(px own.length none++ix.map λi=>σ.getD i none)[j]? =some (some v):=e2
  by_cases hj:j<own.length
  ·rw[qqT (by simpa using hj),B1]at uw
   split at uw<;>cases uw
  ·rw[Y2 (by lia)]at yQ
   rw[Y2 (by simpa using hj),Fs]at uw
   obtain⟨i,hi,hN⟩:=ok.at_ _ y yQ
   rw[qk6 hi]at uw
   have hσ:σ[i]? =some (some v):=by
    have e4:σ.getD i none=some v:=xb uw
    rw[tq]at e4
    cases q:σ[i]?with
    |none=>rw[q]at e4;cases e4
    |some w=>rw[q]at e4;exact ag some e4
   obtain⟨d7,D4⟩:=ok.out y (kM yQ)
   obtain⟨m,hm,hl⟩:=I.loc
   obtain⟨u,ru,lk⟩:=hl i y v hN hσ (by rcases D4 with z|z;exact .inr (.inl z);exact .inr (.inr z))
   refine⟨u,ru,.inr ⟨?_,?_⟩⟩
   ·have e:(QQ scope cl (~~~s) X.env).kindOf y=(scope.names.lookup y).map λk=>if(k==NameKind.free&&X.env.scope.kind== .function&&X.env.kindOf y==some .cell)then NameKind.cell else k:=DZ X.env scope.names y
    show(QQ scope cl (~~~s) X.env).kindOf y=some .cell\/(QQ scope cl (~~~s) X.env).kindOf y=some .free
    rw[e,d7,b0]
    by_cases hc:(NameKind.free==NameKind.free&&X.env.scope.kind== .function&&X.env.kindOf y==some .cell)=true
    ·rw[vb hc];exact .inl rfl
    ·rw[ke hc];exact .inr rfl
   ·obtain⟨c,hc⟩:=ok.fr y d7
    have xQ:=ok.cls y c hc
    rcases lk with⟨z,_⟩|⟨_,c',e',ce⟩
    ·rcases D4 with z'|z'<;>(rw[z]at z';cases z')
    ·rw[xQ]at e';cases e'
     obtain⟨oc,mO,hd⟩:=ce
     exact⟨c,hc,oc,kp _ _ mO,hd⟩
 ·obtain⟨v,oc,mO,hd⟩:=I.cell y c (ok.cls y c h)
  exact⟨v,oc,kp _ _ mO,hd⟩
 ·have X4:p∈X.pn++pins:=by simpa[ju]using hp
  obtain⟨e,n,ne,nf,d⟩:=I.pin p X4
  refine⟨kp _ _ e,n,zK (zu e),λhm=>?_,d⟩
  rcases js.mp (I.dG _ hm)with z|z
  ·exact ne z
  ·exact nf z
 ·show(jR ix (px own.length none) σ).length=(own++rest).length
  simp[jR,ok.len]
theorem qvp{Xb:Cx}(h:rX Xb ifs tc){s:zr}{Q:Bool->Hp->Prop}(I:Inv Xb pins σ H s)(q:wK tc σ H Q):
  xI (vk Xb.prog Xb.w) Xb.A (forIn ifs true λc r=>if r=true then do let ok<-isTrue c Xb.env (eval c Xb.env);pure (ForInStep.yield ok)else pure (ForInStep.yield r)) (TP Xb pins σ Q) Xb.xe s:=by
 cases ifs with
 |nil=>
  cases tc with
  |none=>exact xk ⟨H,I,q⟩
  |some tc=>exact h.elim
 |cons c r=>
  cases tc with
  |none=>cases r<;>exact h.elim
  |some tc=>
   cases r with
   |cons c2 r=>exact h.elim
   |nil=>
    have hp:PT Xb c tc:=h
    simp only[qqO,qqS,qq9]
    refine qr (qr (qX (hp pins s σ H Q I q) λb s1 z=>xk (xk z)))
def X5(X:Cx)(scope:Scope)(cl:List (Str×jp))(Nb:List Str)(elt:hU)(te:TE)(XE:zt->zr->Prop)(s:zr)(H:Hp)(fp:List jp)(pins:List (jp×Obj)):Prop:=
 ∀(kF:List (jp×Obj))(s':zr)(σ':St)(H':Hp)(Q':VK),(∀b∈fp,∃ob,(b,ob)∈kF)->Inv (ju X scope cl Nb (~~~s) s H fp pins) kF σ' H' s'->te σ' H' Q'->
  xI (vk X.prog X.w) X.A (eval elt (QQ scope cl (~~~s) X.env)) (EP (ju X scope cl Nb (~~~s) s H fp pins) kF σ' Q') XE s'
theorem PE.elt{Nb:List Str}{elt:hU}{te:TE}{s:zr}{H:Hp}{fp:List jp}{pins:List (jp×Obj)}(he:PE (ju X scope cl Nb (~~~s) s H fp pins) elt te):X5 X scope cl Nb elt te (λ_ _=>False) s H fp pins:=
 λkF s' σ' H' Q' _ I q=>he kF s' σ' H' Q' I q
theorem D5{Nb:List Str}{σb:St}{s s5:zr}(I:Inv X pins σ H s)(I5:Inv (ju X scope cl Nb (~~~s) s H fp pins) [] σb H' s5)(hf:∀b∈fp,xA X pins H b){h'':ll}(hs:rh (~~~s) s5.heap h''):
  Inv X pins σ H' {s5 with heap:=h''}:=by
 have B:=I5.base
 have ne:∀b u,s.heap.get? b=some u->b≠(~~~s):=λb u e=>zK (zu e)
 have un:Un (xR X.stack) fp H H' s.heap h'':=
  ⟨λb u e n hx hy=>(hs.2 b (ne b u e)).trans (B.keep b u e n hx hy),λb u e n hx hy=>(let⟨sl,z⟩:=B.slot b u e n hx hy;⟨sl,(hs.2 b (ne b u e)).trans z⟩),B.free,
   λb u e hy=>(let⟨u',z⟩:=B.there b u e hy;⟨u',(hs.2 b (ne b u e)).trans z⟩),B.jv,B.vI,B.wo⟩
 have qt:zF X.prog X.w H' h'':=λb u e=>(I5.qt b u e).xP (λc v xq z=>(hs.2 c (λzz=>by
  have fz:H' (~~~s)=none:=I5.free
  rcases xq with y|y
  ·rw[<-y,zz,fz]at e;cases e
  ·rw[zz,fz]at y;cases y)).trans z) (λ_ z=>z) λ_ _ z=>z
 refine I.d8 (s':={s5 with heap:=h''}) (ch:=fp) I5.os un qt I5.bare λb hm=>?_
 obtain⟨g0,g1,g2,g3,g4,g5⟩:=hf b hm
 exact⟨g3,g1,g4,g5⟩
theorem D6{elt iter:hU}{g:TG}{s s4:zr}{it D:jp}{tn:Nat->ll->Prop}{J:It}{Q:VK}{RR:qz1->zr->Prop}{W:Nat->Nat->List V->Hp->Prop}{m0:Nat}(ok:wR X scope cl own rest ix)(hc:X.calm=true){XE:zt->zr->Prop}(he:X5 X scope cl (own++rest) elt te XE s H fp pins)(hE:∀x s',XE x s'->notedBy (vk X.prog X.w) X.A (QQ scope cl (~~~s) X.env) (λx s'=>RR (.error x) s') x s')(hg:∀(C:jp)(s:zr)(H:Hp)(fp:List jp)(pins:List (jp×Obj)),PG (ju X scope cl (own++rest) C s H fp pins) tg g)(uy:∀(C:jp)(s:zr)(H:Hp)(fp:List jp)(pins:List (jp×Obj)),rX (ju X scope cl (own++rest) C s H fp pins) ifs tc)(I:Inv X pins σ H s)(T:Turn X.prog X.w X.K tg J fp it tn)(hf:∀b∈fp,xA X pins H b)(hb:∀b∈fp,b<(~~~s))(J4:Inv (ju X scope cl (own++rest) (~~~s) s H fp pins) [] (jR ix (px own.length none) σ) H s4)(st:tn 0 s4.heap)(w0:W 0 m0 [] H)(fin:∀f H' s5 o,o.length=own.length->Inv (ju X scope cl (own++rest) (~~~s) s H fp pins) [] (jR ix o σ) H' s5->Q (.ref D) H'->RR (.ok f) s5)(turn:∀i m ys H2,W i m ys H2->(J.stop i H2/\Q (.ref D) H2)\/(J.go i H2/\∀(o:List (Option V))v H3,o.length=own.length->J.vZ i H2 v H3->g v (jR ix o σ) H3 λσ2 H4=>(∃o':List (Option V),σ2=jR ix o' σ/\o'.length=own.length)/\
   wK tc σ2 H4 λb H5=>if b=true then te σ2 H5 λy H6=>H6 D=some (.lst ys)/\ys.length<sizeLine/\∃m',m'<m/\W (i+1) m' (ys++[y]) (upd H6 D (.lst (ys++[y])))else∃m',m'<m/\W (i+1) m' ys H5)):
  Qr (vk X.prog X.w) X.A (.compLoop (.ListComp elt [⟨tg,iter,ifs,0⟩] scope pos) 0 (.ref it) (.ref D) (QQ scope cl (~~~s) X.env)) RR s4:=by
 have lI:∀{H':Hp},(∀b∈fp,H' b=none)->∀b∈fp,xA (ju X scope cl (own++rest) (~~~s) s H fp pins) [] H' b:=λhn b hm=>by
  obtain⟨g0,g1,g2,g3,g4,g5⟩:=hf b hm
  refine⟨hn b hm,zK (hb b hm),λz=>?_,.inl hm,λy c h=>g4 y c (ok.cls y c h),λp hp=>g5 p (by simpa[ju]using hp)⟩
  rcases js.mp (I.dG b z)with z|z
  ·exact g1 z
  ·exact g2 z
 refine codeAny_loop rfl (λn s'=>∃i ys o H',o.length=own.length/\Inv (ju X scope cl (own++rest) (~~~s) s H fp pins) [] (jR ix o σ) H' s'/\tn i s'.heap/\(∀b∈fp,H' b=none)/\W i n ys H') (λn s' hI=>?_) m0 ⟨0,[],px own.length none,H,by simp,J4,st,λb hm=>(hf b hm).1,w0⟩
 obtain⟨i,ys,o,H',ho,I',vL,D7,w'⟩:=hI
 show xI _ _ ((compTurn (.ListComp elt [⟨tg,iter,ifs,0⟩] scope pos) 0 (.ref it) (.ref D) (QQ scope cl (~~~s) X.env)).onRaise (λx=>do Fn x (QQ scope cl (~~~s) X.env);theTreesLotGoes x)) _ _ s'
 refine wpAny_noted ?_
 rw[compTurn_list]
 refine qr (Pm (qr ?_))
 rcases turn i n ys H' w' with⟨stop,q⟩|⟨go,step⟩
 ·refine qX (T.done (ju X scope cl (own++rest) (~~~s) s H fp pins) rfl rfl rfl hc i [] s' _ H' _ I' (lI D7) vL stop) λr s5⟨hr,I5⟩=>?_
  subst hr
  exact xk (fin _ H' s5 o ho I5 q)
 ·refine qX (T.item (ju X scope cl (own++rest) (~~~s) s H fp pins) rfl rfl rfl hc i [] s' _ H' _ I' (lI D7) vL go) λr s5⟨u,hr,h5⟩=>?_
  subst hr
  refine qr (qX h5 λ_ s6⟨xv,H6,I6,r6,y6,st6,fr6⟩=>?_)
  have I6':=I6.pinned (lI fr6) (T.obj _ _ st6)
  refine qr (wb (hg _ _ _ _ _ _ s6 (jR ix o σ) H6 xv u _ I6' r6 (step o xv H6 ho y6)) (λ_ s7⟨σ7,H7,I7,⟨o',e7,yD⟩,q7⟩=>?_) λ_ _ z=>z.elim)
  subst e7
  have again:∀{H9:Hp}{s9:zr}{X6:List V}{m':Nat},Inv (ju X scope cl (own++rest) (~~~s) s H fp pins) ([]++fQ fp s6.heap) (jR ix o' σ) H9 s9->m'<n->W (i+1) m' X6 H9->
    ∃m,m<n/\∃i ys o H',o.length=own.length/\Inv (ju X scope cl (own++rest) (~~~s) s H fp pins) [] (jR ix o σ) H' s9/\tn i s9.heap/\(∀b∈fp,H' b=none)/\W i m ys H':=fun {H9 s9 X6 m'}I9 hm w9=>by
   refine⟨m',hm,i+1,X6,o',H9,yD,I9.fZ,?_,λb hm=>?_,w9⟩
   ·exact T.keep _ _ _ st6 λb hm ob e=>(I9.pin (b,ob) (kL _ (kL _ (nq hm e)))).1
   ·obtain⟨ob,e,d⟩:=T.obj _ _ st6 b hm
    exact(I9.pin (b,ob) (kL _ (kL _ (nq hm e)))).2.1
  refine qr (wb (qvp (uy _ _ _ _ _) I7 q7) (λb s8⟨H8,I8,q8⟩=>?_) λ_ _ z=>z.elim)
  cases b with
  |false=>
   obtain⟨m',rK,w8⟩:=(show∃m',m'<n/\W (i+1) m' ys H8 from q8)
   exact xk ⟨rfl,again I8 rK w8⟩
  |true=>
   refine qr (qr (wb (he _ s8 _ _ _ (λb hm=>let⟨ob,e,_⟩:=T.obj _ _ st6 b hm;⟨ob,kL _ (nq hm e)⟩) I8 q8) (λyv s9⟨y,H9,I9,r9,hD,hz,m',rK,w9⟩=>?_) hE))
   refine qr (wb (vj (X:=ju X scope cl (own++rest) (~~~s) s H fp pins) _ s9 _ H9 (.ref D) [y] (.ref D) [yv] (λ_ cy=>cy=upd H9 D (.lst (ys++[y]))) I9 rfl (.cons r9 .nil) ⟨D,ys,y,rfl,rfl,hD,hz,rfl⟩) (λ_ s10⟨_,cy,I10,_,e10⟩=>?_) λ_ _ z=>z.elim)
   subst e10
   exact xk (xk ⟨rfl,again I10 rK w9⟩)
theorem D8{elt iter:hU}{g:TG}(ok:wR X scope cl own rest ix)(hc:X.calm=true)(hi:PI X tg iter wi)(he:∀(C:jp)(s:zr)(H:Hp)(fp:List jp)(pins:List (jp×Obj)),PE (ju X scope cl (own++rest) C s H fp pins) elt te)(hg:∀(C:jp)(s:zr)(H:Hp)(fp:List jp)(pins:List (jp×Obj)),PG (ju X scope cl (own++rest) C s H fp pins) tg g)(uy:∀(C:jp)(s:zr)(H:Hp)(fp:List jp)(pins:List (jp×Obj)),rX (ju X scope cl (own++rest) C s H fp pins) ifs tc)(hs:∀x,mn iter X.env x=pure x:=by intro _;rfl):PE X (.ListComp elt [⟨tg,iter,ifs,0⟩] scope pos) (gq wi g tc te own.length ix):=by
 exfalso
 rw[eval_ListComp]
 refine qz4 (use:=none) rfl hs ok.X3 ok.kind ok.names (qX (hi pins s σ H _ I h) λv s1 h1=>qX h1 λeT s2 h2=>?_)
 obtain⟨it,fp,tn,J,H1,e,I2,T,yP,f2,hq⟩:=h2
 subst e
 refine gL (wpAny_newFunctionEnv ok.cell (by intro y hy;simp at hy) (λh₁ uA ie=>?_) ok.kind)
 dsimp only at uA ie⊢
 have na:H1 (~~~s2)=none:=I2.qt.fresh (qL _)
 obtain⟨W,⟨m0,w0⟩,turn⟩:=hq (~~~s2) na
 have I3:=I2.laid (t':=s2.toks) (o:=.lst []) (h':=s2.heap.push {cls:=.type "list",dict:=none,data:=.seq ([]:List zt).toArray}) (λb u e=>qF _ e) (qL _) ⟨by decide,[],0,.nil,jg _ rfl⟩
 have fa:∀b∈fp,b<(~~~s2):=λb hb=>by
  obtain⟨o,ho,_⟩:=T.obj 0 _ yP b hb
  exact zu ho
 generalize vK:({s2 with heap:=s2.heap.push {cls:=.type "list",dict:=none,data:=.seq ([]:List zt).toArray}}:zr)=s3 at uA ie I3⊢
 have z3:(~~~s3)=(~~~s2)+1:=by rw[<-vK];exact ik _ _
 have k3:∀b u,s2.heap.get? b=some u->s3.heap.get? b=some u:=λb u e=>by rw[<-vK];exact qF _ e
 have gz:∀b∈fp,b<(~~~s3):=λb hb=>by rw[z3];exact Bz (fa b hb)
 have f3:∀b∈fp,xA X pins (upd H1 (~~~s2) (.lst [])) b:=λb hb=>by
  obtain⟨g0,g1⟩:=f2 b hb
  exact⟨by rw[qm (zK (fa b hb))];exact g0,g1⟩
 subst vK
 have J4:=DE ok (tk:=s2.toks+([]:List (Str×zt)).length) I3 f3 gz uA ie
 have rV:tn 0 h₁:=T.keep _ _ _ yP λb hm o e=>(ie.2 b (zK (gz b hm))).trans (qF _ (k3 b o e))
 have loop:=D6 (RR:=compPost (vk X.prog X.w) X.A X.xe none (EP X pins σ Q) (.ref (~~~s2)) (s2.heap.push {cls:=.type "list",dict:=none,data:=.seq ([]:List zt).toArray}).objs.size) (elt:=elt) (iter:=iter) (pos:=pos) (s4:={s2 with heap:=h₁,toks:=s2.toks+([]:List (Str×zt)).length}) ok hc (he _ _ _ _ _).elt (λ_ _ z=>z.elim) hg uy I3 T f3 gz J4 rV w0 (λf H' s5 o ho I5 q=>let⟨m,hn,_⟩:=I5.loc;⟨m,hn,λh'' hs=>⟨.ref (~~~s2),H',D5 I3 I5 f3 hs,rfl,q⟩⟩) turn
 exact codeAny_compStart_list loop (T.self _ 0 _ _ _ rV loop)
end
open Dt
section
variable {func:hU} {tf:TE}
inductive qvs(X:Cx)(CX:vz)(t:TA)(σ:St)(Q:VK)(x:V)(H1:Hp):Prop
 |mk (f:jp) (fd:ol) (ps:List Str) (sp:Sp) (zW:List V) (ds:List zt) (E:XK) (k:Nat) (qQ:x= .ref f) (qZ:xg X.prog X.w X.K X.mg X.base CX k f fd ps sp) (qV:z7 k X.A) (qG:PySem.W.keepIn X.K (.ref f)=true) (zm:Binds X.K fd ps ds) (je:Vals zW ds) (kc:Passes CX X E) (uu:t σ H1 λvs H2=>sp (vs++zW) H2 Q E)
def qvt(X:Cx)(CX:vz)(tf:TE)(t:TA):TE:=λσ H Q=>tf σ H λx H1=>qvs X CX t σ Q x H1
theorem gj(hf:PE X func tf)(ha:PA X (e::es) t)(hc:eval (.Call func (e::es) [] pos) X.env=(do Pl pos (<-eval func X.env) [] (gN pos (ky (e::es) X.env)) (ac pos (gd [] X.env))):=by rfl)
  (he:ky (e::es) X.env=(false,eval e X.env)::ky es X.env:=by rfl)(qH:(gN pos (ky es X.env)).any (·.1)=false:=by rfl):
  PE X (.Call func (e::es) [] pos) (qvt X CX tf t):=by
 exfalso
 refine Call_ (qX (hf pins s σ H _ I h) λu s0⟨x,H0,I0,rx,f,fd,ps,sp,zW,ds,E,k,ex,F,hr,hk,hb,hd,hx,q⟩=>?_) hc
 subst ex
 obtain rfl:u=Value.ref f:=rx
 exact PySem.W.callWith_K (h₀:=X.base) I.ok.mod.yN hk (qX (ha pos pins s0 σ H0 _ I0 q) λus s1⟨vs,H1,I1,r,q1⟩=>⟨I1.zZ,fP F hr hb hd hx I1 r q1⟩) he qH
theorem D9{K:Fg}{H:Hp}:∀{ds:List Dt}{vs:List V},qf K H ds vs->∀v∈vs,∃d∈ds,qw K H d v
 |[],_,h=>by rw[qf]at h;subst h;intro v hv;cases hv
 |d::ds,_,h=>by
  rw[qf]at h
  obtain⟨v,r,rfl,h2,h3⟩:=h
  intro w hw
  rcases js.mp hw with rfl|hw
  ·exact⟨d,xK,h2⟩
  ·obtain⟨d',m,x⟩:=D9 h3 w hw
   exact⟨d',jF _ m,x⟩
theorem Fq:jf X (cq .Eq) (λx y H Q=>∃p q xs ys ds es,x= .ref p/\y= .ref q/\qp X.K H p xs/\qp X.K H q ys/\qf X.K H ds xs/\qf X.K H es ys/\X.A.units+1+j7 ds<eI/\Q (.bl (jC ds es)) H):=by
 intro pins s σ H x y v u Q I rx ry h
 obtain⟨p,q',xs,ys,ds,es,rfl,rfl,h1,h2,d1,d2,hu,q⟩:=h
 cases rx
 cases ry
 obtain⟨qy,r1,p1,_⟩:=I.list h1
 obtain⟨xf,r2,p2,_⟩:=I.list h2
 have l1:qy.length=ds.length:=by rw[<-r1.length,d1.length]
 have l2:xf.length=es.length:=by rw[<-r2.length,d2.length]
 have jr:X.A.units<eI:=by lia
 by_cases hl:ds.length=es.length
 ·have key:=SeqAt.eq_listAt (prog:=X.prog) (w:=X.w) (A:=X.A) (E:=X.xe) (Q:=EP X pins σ Q) (e:=λj=>zU (ds.getD j .qd) (es.getD j .qd)) p1.isList p2.isList (by simp;lia) jr (λj h1 rJ=>by
   have :=QY I ds es X.A.in1 xs ys qy xf (by show X.A.units+1+j7 ds<eI;lia) d1 d2 r1 r2 j (by simpa using h1) (by simpa using rJ)
   simpa using this)
  refine key ⟨.bl (jC ds es),H,I,?_,q⟩
  rw[jd,l1,<-QV .qd ds es,hl,Nat.min_self]
  simp
  rfl
 ·refine qzw p1.isList p2.isList (by simp;lia) jr ⟨.bl false,H,I,rfl,?_⟩
  have :jC ds es=false:=by
   cases e:jC ds es with
   |false=>rfl
   |true=>exact absurd (DS e) hl
  rw[this]at q
  exact q
def X7:Dt->String
 | .qd=>"NoneType"
 | .bl _=>"bool"
 | .int _=>"int"
 | .str _=>"str"
 | .tup _=>"tuple"
theorem QU:vG X (.builtin "isinstance") (λxs H Q=>∃d x n b,xs=[x,.ty n]/\qw X.K H d x/\PySem.W.kitOne X.K (.type (X7 d)) (.type n)=some b/\Q (.bl b) H):=by
 intro pins s σ H xs us Q I r h
 obtain⟨d,x,n,b,rfl,hd,ko,q⟩:=h
 obtain⟨u,u2,rfl,r1,r2⟩:=vals2 r
 cases r2
 have fin:∀tk,EP X pins σ Q (.bool b) {s with toks:=tk}:=λtk=>⟨.bl b,H,I.tok tk,rfl,q⟩
 cases d with
 |qd=>rw[qw]at hd;subst hd;cases r1;exact PySem.W.kia_one PySem.W.kitx_none I.zZ True.intro ko (λz=>nomatch z) fin
 |bl y=>rw[qw]at hd;subst hd;cases r1;exact PySem.W.kia_one PySem.W.kitx_bool I.zZ True.intro ko (λz=>nomatch z) fin
 |int y=>rw[qw]at hd;subst hd;obtain⟨t,rfl⟩:=r1;exact PySem.W.kia_one PySem.W.kitx_int I.zZ True.intro ko (λz=>nomatch z) fin
 |str y=>rw[qw]at hd;subst hd;obtain⟨t,rfl⟩:=r1;exact PySem.W.kia_one PySem.W.kitx_str I.zZ True.intro ko (λz=>nomatch z) fin
 |tup ds=>
  obtain⟨a,qy,rfl,ht,_⟩:=tup_is I hd r1
  obtain⟨o,h1,h2,_⟩:=ht
  exact PySem.W.kia_one PySem.W.kitx_tuple I.zZ ⟨o,h1,h2⟩ ko (λz=>nomatch z) fin
theorem Fz{d:Dt}:∀{ds:List Dt},d∈ds->dep d<=j7 ds
 |[],h=>by cases h
 |e::es,h=>by
  rw[j7]
  rcases js.mp h with rfl|h
  ·lia
  ·have :=Fz h;lia
def QO(x:Dt)(ds:List Dt):Bool:=ds.any λd=>zU d x
theorem any_eq{s:zr}(I:Inv X pins σ H s)(A:si)(x:Dt)(xv:V)(xu:zt)(hx:qw X.K H x xv)(rx:RelV xv xu):∀{ds:List Dt}{vs:List V}{us:List zt},qf X.K H ds vs->Vals vs us->A.units+j7 ds<eI->
  ∃f:zt->Bool,(∀u∈us,F' A s u xu (f u))/\us.map f=ds.map λd=>zU d x:=by
 classical
 intro ds vs us hd hv hu
 have one:∀u∈us,∃d∈ds,∃v,qw X.K H d v/\RelV v u:=by
  intro u jr
  obtain⟨i,hi,e⟩:=ap jr
  have hl:=hv.length
  have vR:i<vs.length:=by lia
  obtain⟨d,X8,X9⟩:=D9 hd vs[i] (qql vR)
  obtain⟨u',h1,h2⟩:=hv.get (jm vR)
  rw[jm hi,e]at h1
  cases h1
  exact⟨d,X8,vs[i],X9,h2⟩
 refine⟨λu=>if h:∃d v,qw X.K H d v/\RelV v u then zU h.choose x else false,λu jr=>?_,?_⟩
 ·obtain⟨d,X8,v,h1,h2⟩:=one u jr
  have hex:∃d v,qw X.K H d v/\RelV v u:=⟨d,v,h1,h2⟩
  show F' A s u xu (if h:∃d v,qw X.K H d v/\RelV v u then zU h.choose x else false)
  rw[dif_pos hex]
  obtain⟨v',g1,g2⟩:=hex.choose_spec
  have ev:v'=v:=g2.inj h2
  subst ev
  have ed:=QW I g1 h1
  rw[ed]
  have qh8:dep d<=j7 ds:=Fz X8
  exact DA I d x A _ xv u xu (by lia) h1 hx h2 rx
 ·clear one hu
  induction ds generalizing vs us with
  |nil=>rw[qf]at hd;subst hd;cases hv;rfl
  |cons d ds ih=>
   rw[qf]at hd
   obtain⟨v,r,rfl,h2,h3⟩:=hd
   cases hv with
   | @cons _ u _ Qp p q=>
    rw[wq,wq,ih h3 q]
    congr 1
    have hex:∃d v,qw X.K H d v/\RelV v u:=⟨d,v,h2,p⟩
    rw[dif_pos hex]
    obtain⟨v',g1,g2⟩:=hex.choose_spec
    have ev:v'=v:=g2.inj p
    subst ev
    rw[QW I g1 h2]
theorem any_map'{α:Type}(f:α->Bool)(l:List α):l.any f=(l.map f).any id:=by rw[List.any_map];rfl
theorem qva:jf X (cq .In) (λx y H Q=>∃p xs d ds,y= .ref p/\qp X.K H p xs/\qw X.K H d x/\qf X.K H ds xs/\X.A.units+1+j7 ds<eI/\Q (.bl (QO d ds)) H):=by
 intro pins s σ H x y v u Q I rx ry h
 obtain⟨p,xs,d,ds,rfl,hq,hd,xw,hu,q⟩:=h
 cases ry
 obtain⟨qy,r,pl,hz⟩:=I.list hq
 obtain⟨f,hf,hm⟩:=any_eq I X.A.in1 d x v hd rx xw r (by show X.A.units+1+j7 ds<eI;exact hu)
 refine SeqAt.in_listAt f pl.isList (λw hw=>hf w (by simpa using hw)) ⟨.bl _,H,I,rfl,?_⟩
 have e:qy.toArray.any f=QO d ds:=by
  rw[show qy.toArray.any f=qy.any f by simp,any_map',hm]
  unfold QO
  rw[<-any_map']
 rw[e]
 exact q
abbrev TJ:=Str->St->Hp->VK->Prop
def PJ(X:Cx)(es:List hU)(t:TJ):Prop:=∀(out:Str)(pins:List (jp×Obj))(s:zr)(σ:St)(H:Hp)(Q:VK),Inv X pins σ H s->t out σ H Q->xI (vk X.prog X.w) X.A (joinParts out (evalEach es X.env)) (EP X pins σ Q) X.xe s
theorem Kq:PJ X [] (λout _ H Q=>out.length<=sizeLine/\Q (.str out) H):=λout pins s σ H Q I h=>joinParts_nil (s:=s) ⟨.str out,H,I.tok _,⟨_,rfl⟩,h.2⟩ h.1
theorem iQ{t:TJ}(he:PE X e te)(hr:PJ X es t)(hE:evalEach (e::es) X.env=eval e X.env::evalEach es X.env:=by rfl):
  PJ X (e::es) (λout σ H Q=>te σ H λx H1=>∃y,x= .str y/\(out++y).length<=sizeLine/\t (out++y) σ H1 Q):=by
 intro out pins s σ H Q I h
 rw[hE]
 refine joinParts_cons (qX (he pins s σ H _ I h) λu s1⟨x,H1,I1,r1,y,ex,hl,q⟩=>?_)
 subst ex
 obtain⟨t',rfl⟩:=r1
 exact⟨hl,hr _ pins s1 σ H1 Q I1 q⟩
theorem Kz{e2:hU}{t:TJ}(h:PJ X (e::e2::es) t)(hE:evalEach (e::e2::es) X.env=eval e X.env::eval e2 X.env::evalEach es X.env:=by rfl):PE X (.JoinedStr (e::e2::es) pos) (λσ H Q=>t ci σ H Q):=by
 intro pins s σ H Q I q
 have :=h ci pins s σ H Q I q
 rw[hE]at this
 exact JoinedStr_many this
theorem Kx(he:PE X e te):PE X (.FormattedValue e (-1) none pos) (λσ H Q=>te σ H λx H1=>∃y,x= .str y/\y.length<=sizeLine/\Q (.str y) H1):=by
 exfalso
 refine FormattedValue_plain (qX (he pins s σ H _ I h) λu s1⟨x,H1,I1,r1,y,ex,hl,q⟩=>?_)
 subst ex
 obtain⟨t',rfl⟩:=r1
 exact formatField_str (λt' tk=>⟨.str y,H1,I1.tok _,⟨_,rfl⟩,q⟩) hl
theorem qve:vG X (.type "dict") (λxs H Q=>∃a kvs,xs=[.ref a]/\H a=some (.dK kvs)/\∀b,H b=none->Q (.ref b) (upd H b (.dK kvs))):=by
 intro pins s σ H xs us Q I r h
 obtain⟨a,kvs,rfl,ha,q⟩:=h
 obtain⟨u,rfl,r1⟩:=vals1 r
 cases r1
 obtain⟨hz,hS,vs,rel,m⟩:kvs.length<=sizeLine/\(a==ul)=false/\∃vs,KV kvs vs/\s.heap.DictOf (xY X.prog X.w) a vs:=I.qt a _ ha
 have hlen:kvs.length=vs.length:=Paired.length rel
 refine kt_call_dict hS m (by lia) λh' hd hs=>?_
 have na:H (~~~s)=none:=I.qt.fresh (qL _)
 refine⟨.ref (~~~s),_,I.laid (t':=s.toks) (o:=.dK kvs) (λb u e=>(hs.2 b (zK (zu e))).trans (qF _ e)) (qL _) ⟨hz,kS.mpr (y7 (zK I.big)),vs,rel,hd⟩,rfl,q _ na⟩
end
end L2
namespace L2
open PySem PySem.Spec PyProof.Rows PyProof
theorem Inv.cu{s:zr}{t':Nat}{ch:List jp}(I:Inv X pins σ H s)(k:∀b o,b∉ch->s.heap.get? b=some o->h'.get? b=some o)(f:∀b∈ch,xA X pins H b):
  Inv X pins σ H {s with heap:=h',toks:=t'}:=by
 have dF:∀b u,H b=some u->b∉ch:=λb u e z=>by rw[(f b z).1]at e;cases e
 have nl:X.env.locals∉ch:=λz=>(f _ z).2.1 rfl
 refine I.step (g':=s.gens) (d':=s.drawn) (ch:=ch) (λb hb=>let⟨_,a2,_,a4,a5,a6⟩:=f b hb;⟨a4,a2,a5,a6⟩) (λb o _ _ hc e _=>k b o hc e) (λb o _ _ hc e _=>⟨o.slots,k b o hc e⟩) (λ_ _ _ _ n=>n)
  (λb o hc e=>⟨o,k b o hc e⟩) (λ_ _ e=>e) (λ_ _ _ e=>e) (λb ps e=>⟨#[],by rw[e];simp⟩) (λm hm=>?_) (λb u e=>?_) I.bare
 ·obtain⟨o,es,ep,ho,r⟩:=hm
  exact⟨o,es,ep,k _ o nl ho,r⟩
 ·refine(I.qt b u e).xP (λc v hc q=>k c v ?_ q) (λ_ q=>q) λ_ _ q=>q
  rcases hc with z|z
  ·rw[z];exact dF b u e
  ·exact dF c _ z
inductive qvQ(K:Fg)(t:TA)(σ:St)(Q:VK)(x:V)(H1:Hp):Prop
 |mk (a:_) (D:_) (qQ:x= .ref a) (qZ:kE K a D) (qV:t σ H1 λxs H2=>∃k dv,xs=[.str k,dv]/\Q ((hX k D).getD dv) H2)
def qvZ(K:Fg)(to:TE)(t:TA):TE:=λσ H Q=>to σ H λx H1=>qvQ K t σ Q x H1
theorem qvJ{o d:hU}{to:TE}{kK:Pos}(ho:PE X o to)(ha:PA X [e,d] t)(y9:OK o "get" X.env (eval o X.env)=eval o X.env:=by rfl)(Xy:((gN kK (ky [e,d] X.env)).all (λx=> !x.1)&&(ac kK (gd [] X.env)).all (λx=>x.1.isSome)&&decide ([e,d].length+([]:List Keyword).length+(if([]:List Keyword).isEmpty then 0 else 1)<30))=true:=by rfl)(pV:(apos.endLine==kK.line)=true:=by rfl)(hs:ky [e,d] X.env=(false,eval e X.env)::ky [d] X.env:=by rfl)(pW:(gN kK (ky [d] X.env)).any (·.1)=false:=by rfl):
  PE X (.Call (.Attribute o "get" apos) [e,d] [] kK) (qvZ X.K to t):=by
 exfalso
 refine wpAny_Call_method_late y9 Xy pV rfl (qX (ho pins s σ H _ I h) λv s1⟨x,H1,I1,r1,q1⟩=>?_)
 obtain⟨a,D,rfl,⟨lo,ob,es,ep,lk,hc,hd,hr⟩,q1⟩:=q1
 cases r1
 refine⟨"dict","dict.get",PySem.F.plainAttrs_dict,PySem.F.slot_dict_get,PySem.F.type_dict_get,⟨ob,I1.zZ _ _ lk,hc.1⟩,λb z=>?_,?_⟩
 ·cases z
  exact⟨ob,I1.zZ _ _ lk,hc.2.1⟩
 have hA:=ha kK pins s1 σ H1 _ I1 q1
 rw[hs]at hA⊢
 refine eM (by show(false||(gN kK (ky [d] X.env)).any (·.1))=false;rw[pW]<;>rfl) (Hn (qX hA λus s2⟨vs,H2,I2,r2,q2⟩=>?_))
 obtain⟨k,dv,rfl,q⟩:=q2
 obtain⟨u1,u2,rfl,⟨tk,rfl⟩,rd⟩:=Vals.two r2
 have Fj:=I2.zZ _ _ lk
 refine du PySem.F.slot_dict_get ⟨ob,Fj,hc.1⟩ PySem.F.entry_dict_get ?_ (PySem.F.args_dict_get_3 _ _ _)
 show xI _ _ (dictGet a (.str k tk)>>=_) _ _ s2
 refine qr (Dd Fj hd hr (λv u e ru=>?_) λe=>?_)
 ·rw[e]at q
  exact xk ⟨_,rfl,v,H2,I2.tok _,ru,q⟩
 ·rw[e]at q
  show xI _ _ (Builtin.Dict.missed a (.str k tk)>>=_) _ _ _
  exact qr (wpAny_missed_other lo (xk ⟨_,rfl,dv,H2,I2.tok _,rd,q⟩))
def rW(K:Fg)(l:jp):It:=⟨λi H=>∃xs x,qp K H l xs/\xs[i]? =some x,
 λi H v H'=>∃T x,H T=none/\v= .ref T/\H'=upd H T (.tup [.int i,x])/\∀ys,qp K H l ys->ys[i]? =some x,
 λi H=>∃xs,qp K H l xs/\xs.length<=i⟩
theorem QI{o:Obj}(e:h.get? a=some o):a≠h.objs.size:=zK (zu e)
theorem qvX{k0}(l e it:jp)(ne:e≠it):Turn P w K (.Tuple es k0 pos) (rW K l) [e,it] e (λi h=>(∃old,IsEnum h e it i old)/\h.IsListIter it l i)where
 mem:=by simp
 obj:=λi h st b hb=>by
  obtain⟨⟨old,e1⟩,o,e2,c2,d2⟩:=st
  rcases js.mp hb with z|z
  ·rw[z];exact⟨_,e1,λv z=>by cases z⟩
  ·rw[xX.mp z];exact⟨o,e2,λv z=>by rw[d2]at z;cases z⟩
 keep:=λi h h' st k=>⟨st.1.imp λold q=>k e (by simp) _ q,st.2.at λo q=>k it (by simp) o q⟩
 item:=by
  intro X hP hw hK hc i pins s σ H E I hf st hg
  subst hP hw hK
  obtain⟨xs,x,hq,hx⟩:=hg
  obtain⟨qy,rv,p,hz⟩:=I.list hq
  obtain⟨u,hu,ru⟩:=rv.get hx
  obtain⟨⟨old,e1⟩,e2⟩:=st
  refine wpAny_pyNext_enum_item e1 e2 p.isList (x:=u) (by simpa using hu) ne λh1 o1 i1 t1 z1 k1=>⟨_,rfl,qzY o1 λh2 o2 b2=>?_⟩
  have e3:e≠(~~~s):=QI e1
  have e4:it≠(~~~s):=by obtain⟨o,q,_⟩:=e2;exact QI q
  have nT:H (~~~s)=none:=I.qt.fresh (qL _)
  have t2:h2.get? (~~~s)=some {cls:=.type "tuple",data:=.seq #[.int i s.toks,u]}:=(b2.2 _ (y7 e3)).trans t1
  have I1:Inv X pins σ (upd H (~~~s) (.tup [.int i,x])) {s with heap:=s.heap.push {cls:=.type "tuple",data:=.seq #[.int i s.toks,u]},toks:=s.toks+1}:=
   I.laid (λb v q=>qF _ q) (qL _) ⟨by show 2<=sizeLine;decide,[.int i s.toks,u],.cons ⟨_,rfl⟩ (.cons ru .nil),⟨_,jg _ rfl,rfl,_,rfl⟩⟩
  have I2:Inv X pins σ (upd H (~~~s) (.tup [.int i,x])) {s with heap:=h2,toks:=s.toks+1}:=by
   refine Inv.cu (s:={s with heap:=s.heap.push {cls:=.type "tuple",data:=.seq #[.int i s.toks,u]},toks:=s.toks+1}) (ch:=[e,it]) (t':=s.toks+1) I1 (λb o hb q=>?_) λb hb=>?_
   ·have b1:b≠e:=λz=>hb (by simp[z])
    have b3:b≠it:=λz=>hb (by simp[z])
    by_cases bT:b=(~~~s)
    ·subst bT
     have z:(s.heap.push {cls:=.type "tuple",data:=.seq #[.int i s.toks,u]}).get? (~~~s)=some _:=jg _ rfl
     rw[z]at q
     exact t2.trans q
    ·have q':s.heap.get? b=some o:=by rw[<-q];exact(qqk _ _ _ bT).symm
     exact(b2.2 b b1).trans (k1 b o b1 b3 q')
   ·obtain⟨f0,f1⟩:=hf b hb
    refine⟨?_,f1⟩
    rw[qm ?_]
    ·exact f0
    ·rcases js.mp hb with z|z
     ·rw[z];exact e3
     ·rw[xX.mp z];exact e4
  refine⟨.ref (~~~s),_,I2,rfl,⟨(~~~s),x,nT,rfl,rfl,λys hy=>by rw[I.JK hy hq];exact hx⟩,⟨⟨u,by simpa using o2⟩,i1.at λo q=>(b2.2 it (y7 ne)).trans q⟩,λb hb=>?_⟩
  rw[qm ?_]
  ·exact(hf b hb).1
  ·rcases js.mp hb with z|z
   ·rw[z];exact e3
   ·rw[xX.mp z];exact e4
 done:=by
  intro X hP hw hK hc i pins s σ H E I hf st hg
  subst hP hw hK
  obtain⟨xs,hq,hx⟩:=hg
  obtain⟨qy,rv,p,hz⟩:=I.list hq
  have hl:=rv.length
  obtain⟨⟨old,e1⟩,e2⟩:=st
  exact wpAny_pyNext_enum_end (I.ok.hd hc) e1 e2 p.isList (by simp;lia) λh' eb=>⟨rfl,I.cu (t':=s.toks) (ch:=[e,it]) (λb o hb q=>eb b o (λz=>hb (by simp[z])) q) hf⟩
 self:=λ_ _ _ _ _ st h=>let⟨⟨_,e1⟩,_⟩:=st;Fh e1 h
def qvK(K:Fg)(ta:TA):TI:=λσ H R=>ta σ H λvs H1=>∃l,vs=[.ref l]/\(∃xs,qp K H1 l xs)/\R (rW K l) H1
theorem Fx{a:hU}{ta:TA}{p p2:Pos}{k0}(hg:Gl X "enumerate")(hm:X.mg "enumerate"=none)(ha:PA X [a] ta)(hs:ky [a] X.env=[(false,eval a X.env)]:=by rfl):
  PI X (.Tuple es k0 p2) (.Call (.Name "enumerate" p) [a] [] pos) (qvK X.K ta):=by
 intro pins s σ H R I h
 refine Call_ (oF I hg hm boot_enumerate (cx (qX (ha pos pins s σ H _ I h) λus s1⟨vs,H1,I1,r1,q1⟩=>?_) hs rfl))
 obtain⟨l,rfl,⟨xs,hq⟩,q⟩:=q1
 obtain⟨u,rfl,ru⟩:=vals1 r1
 cases ru
 obtain⟨qy,rv,pl,hz⟩:=I1.list hq
 refine call_enumerate_list pl.isList λh' e1 e2 sz kp=>Fh e1 ?_
 refine⟨_,[(~~~s1)+1,(~~~s1)],_,_,H1,rfl,I1.kept (t':=s1.toks) kp,qvX l _ _ (Nat.succ_ne_self _),⟨⟨_,e1⟩,e2⟩,λb hb=>?_,q⟩
 have jE:(~~~s1)<=b:=by
  rcases js.mp hb with z|z
  ·rw[z];exact eA _
  ·rw[xX.mp z];exact qL _
 exact I1.yH jE (I1.qt.fresh jE)
structure Nx(P:cv)(w:fe)(it:jp)(xs:Array zt)(dp:List jp)(N:Nat->ll->Prop):Prop where
 xP:∀k h h',N k h->(∀b∈dp,∀o,h.get? b=some o->h'.get? b=some o)->N k h'
 item:∀(A:si)(E:zt->zr->Prop)(s:zr)(k:Nat)(x:zt)(Q:zt->zr->Prop),N k s.heap->xs[k]? =some x->(∀g,N (k+1) g->rh it s.heap g->Q x {s with heap:=g})->xI (vk P w) A (u3 (.ref it)) Q E s
 fin:∀(A:si)(E:zt->zr->Prop)(s:zr)(k:Nat)(Q:zt->zr->Prop),A.handled=none->N k s.heap->xs[k]? =none->(∀g e,Heap.ExtBut it s.heap g->(∃o,g.get? e=some o/\o.cls= .type "StopIteration")->E (.ref e) {s with heap:=g})->
  xI (vk P w) A (u3 (.ref it)) Q E s
theorem QC(P:cv)(w:fe)(it t:jp)(xs:Array zt)(ne:t≠it):Nx P w it xs [it,t] (λk h=>h.IsTupleIter it t k/\h.IsTuple t xs)where
 xP:=λk h h' st f=>by
  obtain⟨⟨o,a1,a2⟩,⟨o',b1,b2⟩⟩:=st
  exact⟨⟨o,f it (by simp) o a1,a2⟩,⟨o',f t (by simp) o' b1,b2⟩⟩
 item:=by
  intro A E s k x Q st ex go
  obtain⟨ti,tt⟩:=st
  obtain⟨o,ob,oc,od⟩:=id ti
  obtain⟨u,ub,uc,un,ud⟩:=id tt
  unfold u3
  refine qr (p0 (name:=uk "__next__") ti.typeIs F.slot_tuple_iterator_next (du F.slot_tuple_iterator_next ti.typeIs F.entry_tuple_iterator_next ?_ (F.args_tuple_iterator_next_1 _)))
  show xI _ _ (field (.ref it) 0>>=_) _ _ s
  refine qr (oa ob od (x:=.ref t) rfl ?_)
  show xI _ _ (if(Value.ref t==Value.none)=true then _ else _) _ _ s
  rw[ke (by intro z;cases z)]
  show xI _ _ (field (.ref it) 1>>=_) _ _ s
  refine qr (oa ob od (x:=.int k 0) rfl ?_)
  show xI _ _ (seqItems? (.ref t)>>=_) _ _ s
  refine qr (fb ub ud ?_)
  simp only[Int.toNat_natCast,ex]
  refine qr (V' ob od (by simp) (xk ⟨x,rfl,xk (go _ ⟨?_,tt.extBut (Bi ..).extBut ne⟩ (Bi ..))⟩))
  exact⟨_,il _ ob (bo (lm od _)),(Obj.cls_mapFields ..).trans oc,by rw[lm od];simp[ro]⟩
 fin:=by
  intro A E s k Q hh st ex go
  obtain⟨ti,tt⟩:=st
  obtain⟨o,ob,oc,od⟩:=id ti
  obtain⟨u,ub,uc,un,ud⟩:=id tt
  unfold u3
  refine qr (p0 (name:=uk "__next__") ti.typeIs F.slot_tuple_iterator_next (du F.slot_tuple_iterator_next ti.typeIs F.entry_tuple_iterator_next ?_ (F.args_tuple_iterator_next_1 _)))
  show xI _ _ (field (.ref it) 0>>=_) _ _ s
  refine qr (oa ob od (x:=.ref t) rfl ?_)
  show xI _ _ (if(Value.ref t==Value.none)=true then _ else _) _ _ s
  rw[ke (by intro z;cases z)]
  show xI _ _ (field (.ref it) 1>>=_) _ _ s
  refine qr (oa ob od (x:=.int k 0) rfl ?_)
  show xI _ _ (seqItems? (.ref t)>>=_) _ _ s
  refine qr (fb ub ud ?_)
  simp only[Int.toNat_natCast,ex]
  refine qr (wpAny_rule (qr (V' ob od (by simp) ?_)))
  show xI _ _ (newExc (.type "StopIteration") []>>=_) _ _ _
  refine qr ?_
  simp only[newExc,newTuple]
  refine qr (gL ?_ (by size_fits))
  refine qr (m:=firstArgMember _ _) (wpAny_of_eq (a:=Value.none) (by first|rfl|(simp only[firstArgMember];rfl)) ?_)
  refine gL ?_ (by size_fits)
  simp only[raiseNew]
  refine qr (wpAny_handled ?_)
  first|rw[show A.in1.handled=none from hh]|rw[hh]
  refine qr (xk (wpAny_throw ?_))
  exact go _ _ (((Bi ..).extBut.push _).push _) ⟨_,jg _ rfl,rfl⟩
structure QL(z p q i j:jp)(d1 d2:List jp):Prop where
 pz:p≠z
 qz:q≠z
 iz:i≠z
 jz:j≠z
 pq:p≠q
 pi:p≠i
 pj:p≠j
 qi:q≠i
 qj:q≠j
 ij:i≠j
 z1:z∉d1
 q1:q∉d1
 j1:j∉d1
 z2:z∉d2
 q2:q∉d2
 i2:i∉d2
section
variable {E:zt->zr->Prop} {s:zr} {z p q i j:jp} {xs ys:Array zt} {d1 d2:List jp} {N1 N2:Nat->ll->Prop}
theorem wV{d:List jp}{b c:jp}(h:c∉d)(m:b∈d):b≠c:=λe=>h (e▸m)
theorem qvV{k:Nat}{x y a b:zt}{Q:zt->zr->Prop}(D:QL z p q i j d1 d2)(n1:Nx P w i xs d1 N1)(n2:Nx P w j ys d2 N2)(zo:qzn s.heap z p q .none)(po:BM s.heap p (.ref i) (.ref j))(qo:BM s.heap q a b)
  (Kv:N1 k s.heap)(yP:N2 k s.heap)(ex:xs[k]? =some x)(ey:ys[k]? =some y)
  (go:∀g,qzn g z p q (ro (~~~s))->BM g q x y->N1 (k+1) g->N2 (k+1) g->BM g (~~~s) x y->(∀c o,c∉[z,q,i,j]->s.heap.get? c=some o->g.get? c=some o)->Q (.ref (~~~s)) {s with heap:=g})
  (zi:i<(~~~s))(zj:j<(~~~s))(m1:∀c∈d1,c<(~~~s))(m2:∀c∈d2,c<(~~~s)):
  xI (vk P w) A (X1.«zip.__next__» ⟨[.ref z],[]⟩) (λfin s'=>∃v,fin= .done (.ret v)/\Q v s') E s:=by
 have zl:z<(~~~s):=zu zo
 have ql:q<(~~~s):=zu qo
 show xI _ _ (field (.ref z) 2>>=_) _ _ _
 refine qr (oa zo rfl (x:=.bool false) rfl ?_)
 show xI _ _ (field (.ref z) 3>>=_) _ _ _
 refine qr (oa zo rfl (x:=.ref p) rfl ?_)
 refine qr (fb po rfl ?_)
 show xI _ _ (lb (.ref z)>>=_) _ _ _
 refine qr ?_
 unfold lb
 refine qr (oa zo rfl (x:=.none) rfl (xk ?_))
 simp only[qq9]
 refine qr (wpAny_rule (qr (oa zo rfl (x:=.ref q) rfl ?_)))
 refine qr (sh zo (by simp) λg1 w1 b1=>?_)
 replace w1:qzn g1 z p q .ellipsis:=w1
 refine qr ?_
 simp only[List.zipIdx_cons,List.zipIdx_nil,qqO,qqS]
 refine qr (qr (Iy ?_))
 show xI _ _ (u3 (.ref i)>>=_) _ _ _
 have a1:N1 k g1:=n1.xP _ _ _ Kv λc hc o e=>b1.extBut _ _ (wV D.z1 hc) e
 refine qr (n1.item _ _ _ _ _ _ a1 ex λg2 a2 b2=>xk ?_)
 have q2:BM g2 q a b:=b2.extBut _ _ D.qi (b1.extBut _ _ D.qz qo)
 refine qr (fb q2 rfl (qr (qqx q2 λg3 q3 b3=>?_)))
 replace q3:BM g3 q x b:=q3
 refine qr (qze (xk ?_))
 refine qr (qr (Iy ?_))
 show xI _ _ (u3 (.ref j)>>=_) _ _ _
 have c3:N2 k g3:=n2.xP _ _ _ yP λc hc o e=>b3.extBut _ _ (wV D.q2 hc) (b2.extBut _ _ (wV D.i2 hc) (b1.extBut _ _ (wV D.z2 hc) e))
 refine qr (n2.item _ _ _ _ _ _ c3 ey λg4 c4 b4=>xk ?_)
 have q4:BM g4 q x b:=b4.extBut _ _ D.qj q3
 refine qr (fb q4 rfl (qr (qqx q4 λg5 q5 b5=>?_)))
 replace q5:BM g5 q x y:=q5
 refine qr (qze (xk (xk ?_)))
 refine qr (fb q5 rfl (qr (wpAny_newTuple ?_)))
 have sz:g5.objs.size=(~~~s):=by rw[b5.1,b4.1,b3.1,b2.1,b1.1]
 have w5:qzn g5 z p q .ellipsis:=b5.extBut _ _ D.qz.symm (b4.extBut _ _ D.jz.symm (b3.extBut _ _ D.qz.symm (b2.extBut _ _ D.iz.symm w1)))
 have k5:∀c o,c∉[z,q,i,j]->s.heap.get? c=some o->g5.get? c=some o:=λc o hc e=>by
  simp only[js,xa,ii,not_or]at hc
  obtain⟨h1,h2,h3,h4⟩:=hc
  exact b5.extBut _ _ h2 (b4.extBut _ _ h4 (b3.extBut _ _ h2 (b2.extBut _ _ h3 (b1.extBut _ _ h1 e))))
 have a5:N1 (k+1) g5:=n1.xP _ _ _ a2 λc hc o e=>b5.extBut _ _ (wV D.q1 hc) (b4.extBut _ _ (wV D.j1 hc) (b3.extBut _ _ (wV D.q1 hc) e))
 have c5:N2 (k+1) g5:=n2.xP _ _ _ c4 λc hc o e=>b5.extBut _ _ (wV D.q2 hc) e
 show xI _ _ (Yf (.ref z) (.ref g5.objs.size)>>=_) _ _ _
 refine qr ?_
 unfold Yf
 have w6:qzn (g5.push {cls:=.type "tuple",data:=.seq #[x,y]}) z p q .ellipsis:=qF _ w5
 refine qr (sh w6 (by simp) λg7 w7 b7=>?_)
 replace w7:qzn g7 z p q (ro g5.objs.size):=w7
 refine sh w7 (by simp) λg8 w8 b8=>?_
 replace w8:qzn g8 z p q (ro g5.objs.size):=w8
 have up:∀c o,c≠z->g5.get? c=some o->g8.get? c=some o:=λc o c1 e=>b8.extBut _ _ c1 (b7.extBut _ _ c1 (qF _ e))
 have zn:g5.objs.size≠z:=by rw[sz];exact y7 (zK zl)
 have t8:BM g8 g5.objs.size x y:=b8.extBut _ _ zn (b7.extBut _ _ zn (jg _ rfl))
 refine xk ⟨_,rfl,?_⟩
 show Q (.ref g5.objs.size) _
 rw[sz]at w8 t8⊢
 exact go g8 w8 (up _ _ D.qz q5) (n1.xP _ _ _ a5 λc hc o e=>up c o (wV D.z1 hc) e) (n2.xP _ _ _ c5 λc hc o e=>up c o (wV D.z2 hc) e) t8 λc o hc e=>up c o (λh=>hc (by simp[h])) (k5 c o hc e)
theorem qvW{k:Nat}{a b:zt}{Q:Fin->zr->Prop}(hh:A.handled=none)(D:QL z p q i j d1 d2)(n1:Nx P w i xs d1 N1)(n2:Nx P w j ys d2 N2)(zo:qzn s.heap z p q .none)(po:BM s.heap p (.ref i) (.ref j))(qo:BM s.heap q a b)
  (Kv:N1 k s.heap)(yP:N2 k s.heap)(ex:xs[k]? =none\/ys[k]? =none)
  (go:∀g e,(∀c o,c∉[z,q,i,j]->s.heap.get? c=some o->g.get? c=some o)->(∃o,g.get? e=some o/\o.cls= .type "StopIteration")->E (.ref e) {s with heap:=g}):
  xI (vk P w) A (X1.«zip.__next__» ⟨[.ref z],[]⟩) Q E s:=by
 show xI _ _ (field (.ref z) 2>>=_) _ _ _
 refine qr (oa zo rfl (x:=.bool false) rfl ?_)
 show xI _ _ (field (.ref z) 3>>=_) _ _ _
 refine qr (oa zo rfl (x:=.ref p) rfl ?_)
 refine qr (fb po rfl ?_)
 show xI _ _ (lb (.ref z)>>=_) _ _ _
 refine qr ?_
 unfold lb
 refine qr (oa zo rfl (x:=.none) rfl (xk ?_))
 simp only[qq9]
 refine qr (wpAny_rule (qr (oa zo rfl (x:=.ref q) rfl ?_)))
 refine qr (sh zo (by simp) λg1 w1 b1=>?_)
 replace w1:qzn g1 z p q .ellipsis:=w1
 refine qr ?_
 simp only[List.zipIdx_cons,List.zipIdx_nil,qqO,qqS]
 refine qr (qr (Iy ?_))
 show xI _ _ (u3 (.ref i)>>=_) _ _ _
 have a1:N1 k g1:=n1.xP _ _ _ Kv λc hc o e=>b1.extBut _ _ (wV D.z1 hc) e
 cases ex1:xs[k]?with
 |none=>
  refine qr (n1.fin _ _ _ _ _ hh a1 ex1 λg2 e b2 he=>?_)
  obtain⟨oe,e1,e2⟩:=he
  have w2:qzn g2 z p q .ellipsis:=b2 _ _ D.iz.symm w1
  have ez:e≠z:=λt=>by subst t;rw[w2]at e1;cases e1;simp at e2
  refine sh w2 (by simp) λg3 _ b3=>go g3 e (λc o hc r=>?_) ⟨oe,b3.extBut _ _ ez e1,e2⟩
  simp only[js,xa,ii,not_or]at hc
  obtain⟨h1,h2,h3,h4⟩:=hc
  exact b3.extBut _ _ h1 (b2 _ _ h3 (b1.extBut _ _ h1 r))
 |some x=>
  have ey:ys[k]? =none:=by
   rcases ex with h|h
   ·rw[ex1]at h;cases h
   ·exact h
  refine qr (n1.item _ _ _ _ _ _ a1 ex1 λg2 a2 b2=>xk ?_)
  have q2:BM g2 q a b:=b2.extBut _ _ D.qi (b1.extBut _ _ D.qz qo)
  refine qr (fb q2 rfl (qr (qqx q2 λg3 q3 b3=>?_)))
  refine qr (qze (xk ?_))
  refine qr (qr (Iy ?_))
  show xI _ _ (u3 (.ref j)>>=_) _ _ _
  have c3:N2 k g3:=n2.xP _ _ _ yP λc hc o e=>b3.extBut _ _ (wV D.q2 hc) (b2.extBut _ _ (wV D.i2 hc) (b1.extBut _ _ (wV D.z2 hc) e))
  refine qr (n2.fin _ _ _ _ _ hh c3 ey λg4 e b4 he=>?_)
  obtain⟨oe,e1,e2⟩:=he
  have w4:qzn g4 z p q .ellipsis:=b4 _ _ D.jz.symm (b3.extBut _ _ D.qz.symm (b2.extBut _ _ D.iz.symm w1))
  have ez:e≠z:=λt=>by subst t;rw[w4]at e1;cases e1;simp at e2
  refine sh w4 (by simp) λg5 _ b5=>go g5 e (λc o hc r=>?_) ⟨oe,b5.extBut _ _ ez e1,e2⟩
  simp only[js,xa,ii,not_or]at hc
  obtain⟨h1,h2,h3,h4⟩:=hc
  exact b5.extBut _ _ h1 (b4 _ _ h4 (b3.extBut _ _ h2 (b2.extBut _ _ h3 (b1.extBut _ _ h1 r))))
end
noncomputable def rY (K:Fg) (a b:jp) (xs ys:List V):It:=⟨λk H=>qb K H a xs/\qb K H b ys/\k<xs.length/\k<ys.length,
 λk H v H'=>∃T x y,H T=none/\v= .ref T/\H'=upd H T (.tup [x,y])/\xs[k]? =some x/\ys[k]? =some y,
 λk H=>qb K H a xs/\qb K H b ys/\(xs.length<=k\/ys.length<=k)⟩
noncomputable def ZSt (z p q i j l1 l2:jp) (k:Nat) (h:ll):Prop:=qzn h z p q .none/\BM h p (.ref i) (.ref j)/\(∃a b,BM h q a b)/\h.IsTupleIter i l1 k/\h.IsTupleIter j l2 k
theorem qvU{k0}(z p q i j l1 l2:jp)(xs ys:List V)(D:QL z p q i j [i,l1] [j,l2])(n1:l1≠i)(n2:l2≠j)(fr:p∉[z,q,i,j]):
  Turn P w K (.Tuple es k0 pos) (rY K l1 l2 xs ys) [z,p,q,i,j] z (ZSt z p q i j l1 l2)where
 mem:=by simp
 obj:=λk h st b hb=>by
  obtain⟨e1,e2,⟨a,c,e3⟩,⟨o4,e4,_,d4⟩,⟨o5,e5,_,d5⟩⟩:=st
  simp only[js,xa,ii]at hb
  rcases hb with rfl|rfl|rfl|rfl|rfl
  ·exact⟨_,e1,λv z=>by cases z⟩
  ·exact⟨_,e2,λv z=>by cases z⟩
  ·exact⟨_,e3,λv z=>by cases z⟩
  ·exact⟨_,e4,λv z=>by rw[d4]at z;cases z⟩
  ·exact⟨_,e5,λv z=>by rw[d5]at z;cases z⟩
 keep:=λk h h' st f=>by
  obtain⟨e1,e2,⟨a,c,e3⟩,⟨o4,e4,r4⟩,⟨o5,e5,r5⟩⟩:=st
  exact⟨f z (by simp) _ e1,f p (by simp) _ e2,⟨a,c,f q (by simp) _ e3⟩,⟨o4,f i (by simp) _ e4,r4⟩,⟨o5,f j (by simp) _ e5,r5⟩⟩
 item:=by
  intro X hP hw hK hc k pins s σ H E I hf st hg
  subst hP hw hK
  obtain⟨rO,rL,ig,xh⟩:=hg
  obtain⟨e1,e2,⟨a,c,e3⟩,e4,e5⟩:=st
  obtain⟨rG,QG,p1,z1⟩:=I.tuple rO
  obtain⟨rM,QM,p2,z2⟩:=I.tuple rL
  obtain⟨u1,wA,ru1⟩:=QG.get (jm ig)
  obtain⟨u2,uo,ru2⟩:=QM.get (jm xh)
  have gx:∀{b:jp}{o:Obj},s.heap.get? b=some o->b<(~~~s):=λe=>zu e
  have li:i<(~~~s):=by obtain⟨o,e,_⟩:=e4;exact gx e
  have lj:j<(~~~s):=by obtain⟨o,e,_⟩:=e5;exact gx e
  have Kw:l1<(~~~s):=by obtain⟨o,e,_⟩:=p1;exact gx e
  have Ky:l2<(~~~s):=by obtain⟨o,e,_⟩:=p2;exact gx e
  have lz:=gx e1
  have lp:=gx e2
  have lq:=gx e3
  have tz:s.TypeIs (.ref z) "zip":=⟨_,e1,rfl⟩
  have nT:H (~~~s)=none:=I.qt.fresh (qL _)
  have nf:∀b∈[z,p,q,i,j],b≠(~~~s):=λb hb=>by
   simp only[js,xa,ii]at hb
   rcases hb with h|h|h|h|h
   ·rw[h];exact zK lz
   ·rw[h];exact zK lp
   ·rw[h];exact zK lq
   ·rw[h];exact zK li
   ·rw[h];exact zK lj
  unfold pyNext
  refine qr (wpAny_attempt (p0 (name:=uk "__next__") tz F.slot_zip_next (du F.slot_zip_next tz F.entry_zip_next
   (qvV D (QC _ _ i l1 rG.toArray n1) (QC _ _ j l2 rM.toArray n2) e1 e2 e3 ⟨e4,p1⟩ ⟨e5,p2⟩ (by simpa using wA) (by simpa using uo) (λg f1 f2 f3 f4 f5 f6=>xk ?_) li lj (λc hc=>?_) (λc hc=>?_)) (F.args_zip_next_1 _))))
  rotate_left
  ·simp only[js,xa,ii]at hc
   rcases hc with rfl|rfl<;>lia
  ·simp only[js,xa,ii]at hc
   rcases hc with rfl|rfl<;>lia
  refine⟨_,rfl,wpAny_letOwnedTupleGo_zip f1 λg' w' b'=>?_⟩
  have I1:Inv X pins σ (upd H (~~~s) (.tup [xs[k],ys[k]])) {s with heap:=s.heap.push {cls:=.type "tuple",data:=.seq #[u1,u2]},toks:=s.toks}:=
   I.laid (λb v e=>qF _ e) (qL _) ⟨by show 2<=sizeLine;decide,[u1,u2],.cons ru1 (.cons ru2 .nil),⟨_,jg _ rfl,rfl,_,rfl⟩⟩
  have I2:Inv X pins σ (upd H (~~~s) (.tup [xs[k],ys[k]])) {s with heap:=g',toks:=s.toks}:=by
   refine Inv.cu (s:={s with heap:=s.heap.push {cls:=.type "tuple",data:=.seq #[u1,u2]},toks:=s.toks}) (ch:=[z,q,i,j]) (t':=s.toks) I1 (λb o hb e=>?_) λb hb=>?_
   ·have bz:b≠z:=λh=>hb (by simp[h])
    by_cases bT:b=(~~~s)
    ·subst bT
     have e':(s.heap.push {cls:=.type "tuple",data:=.seq #[u1,u2]}).get? (~~~s)=some _:=jg _ rfl
     rw[e']at e
     exact((b'.2 _ bz).trans f5).trans e
    ·have e':s.heap.get? b=some o:=by rw[<-e];exact(qqk _ _ _ bT).symm
     exact(b'.2 b bz).trans (f6 b o hb e')
   ·have jE:b∈[z,p,q,i,j]:=by
     simp only[js,xa,ii]at hb⊢
     rcases hb with h|h|h|h<;>simp[h]
    obtain⟨f0,fr⟩:=hf b jE
    exact⟨by rw[qm (nf b jE)];exact f0,fr⟩
  refine⟨.ref (~~~s),_,I2,rfl,⟨(~~~s),xs[k],ys[k],nT,rfl,rfl,jm ig,jm xh⟩,?_,λb hb=>by rw[qm (nf b hb)];exact(hf b hb).1⟩
  have up:∀{b:jp}{o:Obj},b≠z->g.get? b=some o->g'.get? b=some o:=λh e=>(b'.2 _ h).trans e
  exact⟨w',up D.pz (f6 p _ fr e2),⟨_,_,up D.qz f2⟩,f3.1.extBut b'.extBut D.iz,f4.1.extBut b'.extBut D.jz⟩
 done:=by
  intro X hP hw hK hc k pins s σ H E I hf st hg
  subst hP hw hK
  obtain⟨rO,rL,hx⟩:=hg
  obtain⟨e1,e2,⟨a,c,e3⟩,e4,e5⟩:=st
  obtain⟨rG,QG,p1,z1⟩:=I.tuple rO
  obtain⟨rM,QM,p2,z2⟩:=I.tuple rL
  have h1:=QG.length
  have h2:=QM.length
  have tz:s.TypeIs (.ref z) "zip":=⟨_,e1,rfl⟩
  unfold pyNext
  refine qr (wpAny_attempt (p0 (name:=uk "__next__") tz F.slot_zip_next (du F.slot_zip_next tz F.entry_zip_next
   (qvW (I.ok.hd hc) D (QC _ _ i l1 rG.toArray n1) (QC _ _ j l2 rM.toArray n2) e1 e2 e3 ⟨e4,p1⟩ ⟨e5,p2⟩ (hx.imp (λh=>by simp;lia) λh=>by simp;lia) λg e f6 he=>?_) (F.args_zip_next_1 _))))
  obtain⟨oe,e6,e7⟩:=he
  refine qr (wpAny_isInstance (T:="StopIteration") (b:=true) ⟨oe,e6,e7⟩ isSubtype_stop (xk ⟨rfl,?_⟩))
  exact I.cu (t':=s.toks) (ch:=[z,q,i,j]) f6 λb hb=>hf b (by
   simp only[js,xa,ii]at hb⊢
   rcases hb with h|h|h|h<;>simp[h])
 self:=λ_ _ _ _ _ st h=>wpAny_pyIter_zip st.1 h
noncomputable def zN (h:ll) (l1 l2:jp):ll:=((((h.push {cls:=.type "tuple_iterator",data:=.fields #[.ref l1,.int 0 0]}).push {cls:=.type "tuple_iterator",data:=.fields #[.ref l2,.int 0 0]}).push
 {cls:=.type "tuple",data:=.seq #[.ref h.objs.size,.ref (h.push {cls:=.type "tuple_iterator",data:=.fields #[.ref l1,.int 0 0]}).objs.size]}).push {cls:=.type "tuple",data:=.seq #[.none,.none]}).push
 {cls:=.type "zip",data:=.fields #[.none,.bool false,.bool false,.ref ((h.push {cls:=.type "tuple_iterator",data:=.fields #[.ref l1,.int 0 0]}).push {cls:=.type "tuple_iterator",data:=.fields #[.ref l2,.int 0 0]}).objs.size,
  .ref (((h.push {cls:=.type "tuple_iterator",data:=.fields #[.ref l1,.int 0 0]}).push {cls:=.type "tuple_iterator",data:=.fields #[.ref l2,.int 0 0]}).push
   {cls:=.type "tuple",data:=.seq #[.ref h.objs.size,.ref (h.push {cls:=.type "tuple_iterator",data:=.fields #[.ref l1,.int 0 0]}).objs.size]}).objs.size]}
theorem qvC(l1 l2:jp)(xs ys:Array zt):
  Meets (X1.«zip.__new__» ⟨[.type "zip",.ref l1,.ref l2],[]⟩) (λ_ R s=>s.heap.IsTuple l1 xs/\s.heap.IsTuple l2 ys/\R (.ok (.ret (.ref ((zN s.heap l1 l2).objs.size-1)))) {s with heap:=zN s.heap l1 l2}):=
 .of_wp λprog w A R s h=>by
  obtain⟨hp,g,d,tk,os⟩:=s
  obtain⟨a1,a2,h⟩:=h
  have Fv:=sub_zip
  have b1:Heap.IsTuple (qzK ⟨hp,g,d,tk,os⟩) l1 xs:=a1
  have b2:Heap.IsTuple (qzK ⟨hp.push {cls:=.type "tuple_iterator",data:=.fields #[.ref l1,.int 0 0]},g,d,tk,os⟩) l2 ys:=Heap.IsTuple.push a2 _
  wp_walk using qqY b1,qqY b2
  refine⟨_,rfl,?_⟩
  have e:(zN hp l1 l2).objs.size-1=((((hp.push {cls:=.type "tuple_iterator",data:=.fields #[.ref l1,.int 0 0]}).push {cls:=.type "tuple_iterator",data:=.fields #[.ref l2,.int 0 0]}).push
   {cls:=.type "tuple",data:=.seq #[.ref hp.objs.size,.ref (hp.push {cls:=.type "tuple_iterator",data:=.fields #[.ref l1,.int 0 0]}).objs.size]}).push {cls:=.type "tuple",data:=.seq #[.none,.none]}).objs.size:=by
   show(Heap.push _ _).objs.size-1=_
   rw[ik]
   rfl
  have h':=h
  rw[e]at h'
  exact h'
theorem qvL{l1 l2:jp}:qzn (zN h l1 l2) (h.objs.size+4) (h.objs.size+2) (h.objs.size+3) .none/\BM (zN h l1 l2) (h.objs.size+2) (.ref h.objs.size) (.ref (h.objs.size+1))/\BM (zN h l1 l2) (h.objs.size+3) .none .none/\
  (zN h l1 l2).IsTupleIter h.objs.size l1 0/\(zN h l1 l2).IsTupleIter (h.objs.size+1) l2 0/\(zN h l1 l2).objs.size=h.objs.size+5/\∀c o,h.get? c=some o->(zN h l1 l2).get? c=some o:=by
 unfold zN
 simp only[ik]
 refine⟨?_,?_,?_,⟨{cls:=.type "tuple_iterator",data:=.fields #[.ref l1,.int 0 0]},?_,rfl,rfl⟩,⟨{cls:=.type "tuple_iterator",data:=.fields #[.ref l2,.int 0 0]},?_,rfl,rfl⟩,?_,λc o e=>?_⟩
 ·have e:=jg ((((h.push {cls:=.type "tuple_iterator",data:=.fields #[.ref l1,.int 0 0]}).push {cls:=.type "tuple_iterator",data:=.fields #[.ref l2,.int 0 0]}).push
   {cls:=.type "tuple",data:=.seq #[.ref h.objs.size,.ref (h.objs.size+1)]}).push {cls:=.type "tuple",data:=.seq #[.none,.none]}) (o:={cls:=.type "zip",data:=.fields #[.none,.bool false,.bool false,.ref (h.objs.size+1+1),.ref (h.objs.size+1+1+1)]}) rfl
  simp only[ik]at e
  exact e
 ·have e:=jg (((h.push {cls:=.type "tuple_iterator",data:=.fields #[.ref l1,.int 0 0]}).push {cls:=.type "tuple_iterator",data:=.fields #[.ref l2,.int 0 0]})) (o:={cls:=.type "tuple",data:=.seq #[.ref h.objs.size,.ref (h.objs.size+1)]}) rfl
  simp only[ik]at e
  exact qF _ (qF _ e)
 ·have e:=jg (((h.push {cls:=.type "tuple_iterator",data:=.fields #[.ref l1,.int 0 0]}).push {cls:=.type "tuple_iterator",data:=.fields #[.ref l2,.int 0 0]}).push
   {cls:=.type "tuple",data:=.seq #[.ref h.objs.size,.ref (h.objs.size+1)]}) (o:={cls:=.type "tuple",data:=.seq #[.none,.none]}) rfl
  simp only[ik]at e
  exact qF _ e
 ·exact qF _ (qF _ (qF _ (qF _ (jg _ rfl))))
 ·have e:=jg (h.push {cls:=.type "tuple_iterator",data:=.fields #[.ref l1,.int 0 0]}) (o:={cls:=.type "tuple_iterator",data:=.fields #[.ref l2,.int 0 0]}) rfl
  simp only[ik]at e
  exact qF _ (qF _ (qF _ e))
 ·trivial
 ·exact qF _ (qF _ (qF _ (qF _ (qF _ e))))
theorem oz{a b:Nat}(h:a≠b):(show jp from a)≠(show jp from b):=h
theorem zap(n l1 l2:Nat)(h1:l1<n)(h2:l2<n):QL (n+4) (n+2) (n+3) n (n+1) [n,l1] [n+1,l2]where
 pz:=oz (by lia)
 qz:=oz (by lia)
 iz:=oz (by lia)
 jz:=oz (by lia)
 pq:=oz (by lia)
 pi:=oz (by lia)
 pj:=oz (by lia)
 qi:=oz (by lia)
 qj:=oz (by lia)
 ij:=oz (by lia)
 z1:=show(n+4:Nat)∉([n,l1]:List Nat)from by simp;lia
 q1:=show(n+3:Nat)∉([n,l1]:List Nat)from by simp;lia
 j1:=show(n+1:Nat)∉([n,l1]:List Nat)from by simp;lia
 z2:=show(n+4:Nat)∉([n+1,l2]:List Nat)from by simp;lia
 q2:=show(n+3:Nat)∉([n+1,l2]:List Nat)from by simp;lia
 i2:=show(n:Nat)∉([n+1,l2]:List Nat)from by simp;lia
theorem qvM(n:Nat):n+2∉[n+4,n+3,n,n+1]:=by simp
theorem qvN(n b:Nat)(h:b∈[n+4,n+2,n+3,n,n+1]):n<=b:=by
 simp only[js,xa,ii]at h
 lia
noncomputable def qvB (K:Fg) (ta:TA):TI:=λσ H R=>ta σ H λvs H1=>∃a b xs ys,vs=[.ref a,.ref b]/\qb K H1 a xs/\qb K H1 b ys/\R (rY K a b xs ys) H1
theorem qvD{a b:hU}{ta:TA}{p p2:Pos}{k0}(hg:Gl X "zip")(hm:X.mg "zip"=none)(ha:PA X [a,b] ta)(hs:ky [a,b] X.env=[(false,eval a X.env),(false,eval b X.env)]:=by rfl)(kJ:ky [b] X.env=[(false,eval b X.env)]:=by rfl):
  PI X (.Tuple es k0 p2) (.Call (.Name "zip" p) [a,b] [] pos) (qvB X.K ta):=by
 intro pins s σ H R I h
 refine Call_ (oF I hg hm boot_zip (cx (qX (ha pos pins s σ H _ I h) λus s1⟨vs,H1,I1,r1,q1⟩=>?_) (by rw[hs,kJ]) (by rw[kJ];rfl)))
 obtain⟨l1,l2,xs,ys,rfl,rO,rL,q⟩:=q1
 obtain⟨u1,u2,rfl,r1,r2⟩:=Vals.two r1
 cases r1
 cases r2
 obtain⟨rG,QG,p1,z1⟩:=I1.tuple rO
 obtain⟨rM,QM,p2,z2⟩:=I1.tuple rL
 have Kw:l1<(~~~s1):=by obtain⟨o,e,_⟩:=p1;exact zu e
 have Ky:l2<(~~~s1):=by obtain⟨o,e,_⟩:=p2;exact zu e
 refine callType_new F.called_zip (by decide) (F.typeCall_zip_2 _ _) (F.newCall_zip_2 _ _) (λobj=>F.args_object_init_3 obj _ _) F.entry_zip_new (qvC l1 l2 rG.toArray rM.toArray) ⟨p1,p2,?_⟩
 obtain⟨e1,e2,e3,e4,e5,e6,e7⟩:=qvL (h:=s1.heap) (l1:=l1) (l2:=l2)
 have e8:(zN s1.heap l1 l2).objs.size-1=(~~~s1)+4:=by rw[e6];rfl
 show _/\_
 rw[e8]
 refine⟨⟨_,e1,rfl⟩,wpAny_pyIter_zip e1 ?_⟩
 have D:=zap _ _ _ Kw Ky
 refine⟨_,[(~~~s1)+4,(~~~s1)+2,(~~~s1)+3,(~~~s1),(~~~s1)+1],_,_,H1,rfl,I1.kept (t':=s1.toks) e7,qvU _ _ _ _ _ l1 l2 xs ys D (zK Kw) (zK (Bz Ky)) (qvM _),
  ⟨e1,e2,⟨_,_,e3⟩,e4,e5⟩,λb hb=>?_,q⟩
 have jE:(~~~s1)<=b:=qvN _ _ hb
 exact I1.yH jE (I1.qt.fresh jE)
theorem qvF:cp (.type "list_reverseiterator") (uk "__len__")=pure none:=by rw[typeLookup_type,builtinLookup_eq_fast];kernel_rfl
theorem qvH:cp (.type "list_reverseiterator") (uk "__length_hint__")=pure (some (.builtin "list_reverseiterator.__length_hint__")):=by rw[typeLookup_type,builtinLookup_eq_fast];kernel_rfl
section
variable {E:zt->zr->Prop} {s:zr}
theorem qvP{r p:jp}{i:Int}{Q:Bool->zr->Prop}(hr:s.heap.IsRevIter r p i)(h:Q false s):xI (vk prog w) A (P2 (.ref r)) Q E s:=by
 unfold P2
 refine qr (qzQ hr.typeIs qvF ?_)
 show xI _ _ (specialOf (Value.ref r) (uk "__length_hint__")>>=_) _ _ _
 refine qr (qzQ hr.typeIs qvH ?_)
 generalize hid:("list_reverseiterator.__length_hint__":String)=id0
 wp_delta
 rw[show splitId id0=some ("list_reverseiterator","__length_hint__")from by subst hid;ext]
 subst hid
 refine qr (wpAny_isInstance (T:="list_reverseiterator") (b:=true) hr.typeIs (by rw[isSubtype_type];kernel_rfl) ?_)
 refine Tx (λz=>absurd z (by decide)) (λ_=>?_)
 refine Tx (λ_=>?_) (λz=>absurd (by ext) z)
 refine Tx (λz=>absurd z (by ext)) (λ_=>xk h)
theorem qvR{items acc:Array zt}(h:ItemsOf (λi v=>items[items.size-1-i]? =some v) acc items.size):acc.toList=items.toList.reverse:=by
 obtain⟨h1,h2⟩:=h
 apply List.ext_getElem?
 intro k
 by_cases hk:k<items.size
 ·have e1:acc[k]? =some (acc[k]'(by lia)):=Array.getElem?_eq_getElem (by lia)
  have e2:=h2 k _ e1
  rw[qzX (by simpa using hk)]
  simp only[ax,Fm]
  rw[e1,e2]
 ·rw[la (by simp;lia),la (by simp;lia)]
theorem qvS{r p:jp}{items:Array zt}{Q:zt->zr->Prop}(hh:A.handled=none)(hr:s.heap.IsRevIter r p ((items.size:Int)-1))(hl:s.heap.IsList p items)(ne:p≠r)(hz:items.size<=sizeLine)
  (go:∀g tk acc c,(∀b o,b≠r->s.heap.get? b=some o->g.get? b=some o)->g.get? (~~~s)=some {cls:=.type "list",data:=.seq acc c}->acc.toList=items.toList.reverse->Q (.ref (~~~s)) {s with heap:=g,toks:=tk}):
  xI (vk prog w) A (call (.type "list") [.ref r]) Q E s:=by
 refine callType_codes (Q₁:=λobj s₁=>obj= .ref (~~~s)/\s₁={s with heap:=s.heap.push {cls:=.type "list",data:=.seq #[]}}) F.called_list (F.typeCall_list_1 _) F.entry_list_init (code_list_new _ ⟨rfl,rfl⟩) λobj s₁ h₁=>?_
 obtain⟨rfl,rfl⟩:=h₁
 have S0:(s.heap.push {cls:=.type "list",data:=.seq #[]}).get? (~~~s)=some {cls:=.type "list",data:=.seq #[]}:=jg _ rfl
 have rl:r<(~~~s):=by obtain⟨o,e,_⟩:=hr;exact zu e
 have pl:p<(~~~s):=by obtain⟨o,e,_⟩:=hl;exact zu e
 refine⟨⟨_,S0,rfl⟩,F.args_list_init_2 _ _,?_⟩
 show xI _ _ (do let old<-qqy (.ref (~~~s));Builtin.List.listUpdate (.ref (~~~s)) (λ_=> #[]);letGo old.toList.reverse;eP (.ref (~~~s)) (.ref r) .none) _ _ _
 refine qr ?_
 unfold qqy
 refine qr (fb S0 rfl (xk ?_))
 show xI _ _ (updateSeq (~~~s) (λ_=> #[])>>=λ_=>letGo (#[]:Array zt).toList.reverse>>=λ_=>eP (.ref (~~~s)) (.ref r) .none) _ _ _
 refine qr (wpAny_updateSeq S0 rfl ?_)
 have S1:=il (PQ (λ_=>(#[]:Array zt))) S0 rfl
 have up:∀b o,s.heap.get? b=some o->((s.heap.push {cls:=.type "list",data:=.seq #[]}).update (~~~s) (PQ (λ_=>(#[]:Array zt)))).get? b=some o:=
  λb o e=>(yB _ _ (y7 (zK (zu e)))).trans (qF _ e)
 refine qr (qze ?_)
 generalize ((s.heap.push {cls:=.type "list",data:=.seq #[]}).update (~~~s) (PQ (λ_=>(#[]:Array zt))))=g0 at S1 up
 have r0:g0.IsRevIter r p ((items.size:Int)-1):=hr.at λo e=>up r o e
 have l0:g0.IsList p items:=hl.at λo e=>up p o e
 unfold eP
 refine qr (wpAny_typeOf (T:="list_reverseiterator") (s:={s with heap:=g0}) (Heap.IsRevIter.typeIs (s:={s with heap:=g0}) r0) ?_)
 have c1:Ee (.ref (~~~s)) (.ref r)=false:=by simp[Ee];exact y7 (zK rl)
 have c2:(Value.type "list_reverseiterator"==Value.type "list")=false:=by decide
 have c3:(Value.type "list_reverseiterator"==Value.type "tuple")=false:=by decide
 simp only[c1,c2,c3,Ta,Ts,if_false]
 refine qr (wpAny_pyIter_revIter (s:={s with heap:=g0}) r0 (qr (mm (qvP (s:={s with heap:=g0}) r0 ?_))))
 refine Tx (λz=>absurd z (by ext)) (λ_=>?_)
 have W:=(Walks.listRev (prog:=prog) (w:=w) (A:=A.in1.in1) hh r p ne items).toS
 refine xk ⟨plainId_quiet F.plain_extend_loop _,codeAny_extend_loopS W hz _ (by simp only[js,xa,ii,not_or];exact⟨y7 (zK rl),y7 (zK pl)⟩) _ items.size 0 _ #[] _ rfl (io _) ⟨io _,by simpa using r0,l0⟩ S1 (ItemsOf.nil _) λs' acc c hm hS ha=>?_⟩
 rw[Moved.eq_with hm]
 refine⟨rfl,go s'.heap s'.toks acc c (λb o hb e=>hm.heap b o ?_ (up b o e)) hS (qvR ha)⟩
 have :=zu e
 simp only[js,xa,ii,not_or]
 exact⟨zK this,hb⟩
end
inductive qvT(K:Fg)(Q:VK)(xs:List V)(H1:Hp):Prop
 |mk (p:_) (ys:_) (qQ:xs=[.ref p]) (qZ:qp K H1 p ys) (qV:∀l,H1 l=none->Q (.ref l) (upd H1 l (.lst ys.reverse)))
def Fw(K:Fg)(t:TA):TE:=λσ H Q=>t σ H λxs H1=>qvT K Q xs H1
theorem qvA{p1 p2 q1 q2:Pos}(hc:X.calm=true)(hg:Gl X "list")(hm:X.mg "list"=none)(hg':Gl X "reversed")(rK:X.mg "reversed"=none)(ha:PA X [e] t)(hs:ky [e] X.env=[(false,eval e X.env)]:=by rfl)(cg:ky [Expr.Call (.Name "reversed" q1) [e] [] q2] X.env=[(false,eval (Expr.Call (.Name "reversed" q1) [e] [] q2) X.env)]:=by rfl):
  PE X (.Call (.Name "list" p1) [.Call (.Name "reversed" q1) [e] [] q2] [] p2) (Fw X.K t):=by
 exfalso
 refine oP (oF I hg hm aw (cx ?_ cg rfl))
 rw[cg]
 show xI _ _ (spliced ((false,eval (Expr.Call (.Name "reversed" q1) [e] [] q2) X.env)::gN p2 [])) _ _ s
 refine qzH ?_
 refine oP (oF I hg' rK boot_reversed (cx (qX (ha q2 pins s σ H _ I h) λus s1⟨vs,H1,I1,r1,q⟩=>?_) hs rfl))
 obtain⟨p,ys,rfl,hq,q⟩:=q
 obtain⟨u,rfl,ru⟩:=vals1 r1
 cases ru
 obtain⟨qy,rv,pl,hz⟩:=I1.list hq
 have hl:=rv.length
 refine call_reversed_list pl.isList ?_
 refine Calls.spliced_nil ?_
 have I2:Inv X pins σ H1 {s1 with heap:=s1.heap.push (revObj p ((qy.toArray.size:Int)-1))}:=I1.kept (t':=s1.toks) λb o e=>qF _ e
 have Fy:=pl.isList
 have lp:p<(~~~s1):=by obtain⟨o,e,_⟩:=Fy;exact zu e
 have f2:xA X pins H1 (~~~s1):=I1.yH (qL _) (I1.qt.fresh (qL _))
 have sz:(s1.heap.push (revObj p ((qy.toArray.size:Int)-1))).objs.size=(~~~s1)+1:=ik ..
 refine qvS (s:={s1 with heap:=s1.heap.push (revObj p ((qy.toArray.size:Int)-1))}) (r:=(~~~s1)) (p:=p) (items:=qy.toArray) (I1.ok.hd hc) ⟨_,jg _ rfl,rfl,rfl⟩ (Fy.push _) (zK lp) (by simp;lia) λg tk acc c k1 k2 k3=>?_
 have hn:H1 (s1.heap.push (revObj p ((qy.toArray.size:Int)-1))).objs.size=none:=I1.qt.fresh (by rw[sz];lia)
 have I3:Inv X pins σ (upd H1 (s1.heap.push (revObj p ((qy.toArray.size:Int)-1))).objs.size (.lst ys.reverse)) {s1 with heap:=(s1.heap.push (revObj p ((qy.toArray.size:Int)-1))).push {cls:=.type "list",data:=.seq acc c},toks:=tk}:=by
  refine I2.laid (t':=tk) (λb u e=>qF _ e) (qL _) ⟨by simpa using hz,qy.reverse,c,?_,?_⟩
  ·exact rv.reverse
  ·have e:qy.reverse.toArray=acc:=by
    apply Array.toList_inj.mp
    rw[k3]
   rw[e]
   exact jg _ rfl
 refine⟨.ref _,_,Inv.cu (s:={s1 with heap:=(s1.heap.push (revObj p ((qy.toArray.size:Int)-1))).push {cls:=.type "list",data:=.seq acc c},toks:=tk}) (ch:=[(~~~s1)]) (t':=tk) I3 (λb o hb e=>?_) (λb hb=>?_),rfl,q _ hn⟩
 ·have jE:b≠(~~~s1):=λz=>hb (by simp[z])
  rcases Heap.get?_push_cases e with⟨rfl,rfl⟩|e
  ·exact k2
  ·exact k1 b o jE e
 ·rw[xX.mp hb]
  obtain⟨f0,fr⟩:=f2
  exact⟨by rw[qm (by rw[sz];exact zK (X2 _))];exact f0,fr⟩
theorem nY(f:Str)(v x:V)(r:List (Str×V)):zP f v ((f,x)::r)=(f,v)::r:=by
 show(if f=f then(f,v)::r else(f,x)::zP f v r)=_
 rw[vb rfl]
theorem xC{f g:Str}(h:¬g=f)(v x:V)(r:List (Str×V)):zP f v ((g,x)::r)=(g,x)::zP f v r:=by
 show(if g=f then(g,v)::r else(g,x)::zP f v r)=_
 rw[ke h]
theorem yq(f:Str)(v:V)(r:List (Str×V)):((f,v)::r).lookup f=some v:=by simp[kx]
theorem jj{f g:Str}(h:¬g=f)(v:V)(r:List (Str×V)):((f,v)::r).lookup g=r.lookup g:=by
 rw[kx,kS.mpr h]
abbrev QN:R2:=λx y H Q=>∃c j,x= .str ⟨#[c]⟩/\y= .str j/\Q (.bl (decide (c∈j.cps.toList))) H
theorem qv0{f:Nat->V}{D:jp}{R:Hp->Prop}(hz:z.length<=sizeLine)(he:∀(c:Nat)(H':Hp)(Q':VK),c∈z.cps.toList->Q' (f c) H'->te (De ix (some (.str ⟨#[c]⟩)) σ) H' Q')(hD:H D=none)(q:R (upd H D (.lst (z.cps.toList.map f)))):
  ∃W:Nat->Nat->List V->Hp->Prop,(∃m,W 0 m [] (upd H D (.lst [])))/\∀i m ys H2,W i m ys H2->
   ((u9 z).stop i H2/\R H2)\/((u9 z).go i H2/\∀v H3,(u9 z).vZ i H2 v H3->te (De ix (some v) σ) H3 λy H4=>H4 D=some (.lst ys)/\ys.length<sizeLine/\∃m',m'<m/\W (i+1) m' (ys++[y]) (upd H4 D (.lst (ys++[y])))):=by
 refine⟨λi m ys H2=>i<=z.cps.size/\m=z.cps.size-i/\ys=(z.cps.toList.take i).map f/\H2=upd H D (.lst ys),⟨_,io _,rfl,rfl,rfl⟩,?_⟩
 rintro i m ys H2 ⟨hi,rfl,rfl,rfl⟩
 by_cases hl:i<z.cps.size
 ·refine .inr ⟨hl,λv H3⟨e,c,hc,ev⟩=>?_⟩
  subst e ev
  have xq:z.cps.toList[i]? =some c:=by simpa using hc
  refine he c _ _ (kM xq) ⟨qu,?_,_,?_,hl,rfl,?_,?_⟩
  ·have h1:((z.cps.toList.take i).map f).length<=i:=by rw[za,i3];exact Nat.min_le_left _ _
   have h2:z.cps.size=z.length:=rfl
   lia
  ·lia
  ·rw[my,xq]
   simp
  ·rw[uL]
 ·have e:i=z.cps.size:=by lia
  subst e
  refine .inl ⟨qL _,?_⟩
  have e2:z.cps.toList.take z.cps.size=z.cps.toList:=yA (by simp)
  rw[e2]
  exact q
structure qv(H H':Hp):Prop where
 same:kP H H'
 none:∀b,H' b=Option.none->H b=Option.none
theorem qv.refl(H:Hp):qv H H:=⟨kP.refl H,λ_ h=>h⟩
theorem qv.trans(a:qv H H1)(b:qv H1 H2):qv H H2:=⟨a.same.trans b.same,λc h=>a.none c (b.none c h)⟩
theorem qv.put(h:H a=Option.none):qv H (upd H a o):=⟨λb u e=>by rw[qm (zM e h)];exact e,λb e=>by
 by_cases z:b=a
 ·subst z;exact h
 ·rw[qm z]at e;exact e⟩
theorem qv.set{H4:Hp}{D:jp}(g:qv H H4)(hD:H D=Option.none):qv H (upd H4 D o):=
 ⟨λb u e=>by rw[qm (zM e hD)];exact g.same b u e,λb e=>by
  by_cases z:b=D
  ·subst z;exact hD
  ·rw[qm z]at e;exact g.none b e⟩
theorem z7.u2{k:Nat}(r:z7 k A):A.units+2<eI:=by have :=r.un;lia
def nU(o:Obj)(x qual:Str)(st:cc)(dV zy:zt)(fd:ol):Prop:=
 ∃(oc:zt)(od:Option jp)(kV doc pm:zt)(an:Option jp)(ct:zt)(wB:Array (Option zt)),o=⟨oc,od,.func fd,wB⟩/\fd=PySem.W.fnOf x qual (Xg st) (uE st) (qK st) dV kV doc pm an zy ct
theorem nU.d{o:Obj}{zy:zt}(n:nU o x qual st dV zy fd)(l:K.lookup f=some o)(c:PySem.W.codeIn K zy qual=true)(k:PySem.W.keepIn K (.ref f)=true):qJ K x qual st dV f fd:=by
 obtain⟨oc,od,kV,doc,pm,an,ct,wB,rfl,e⟩:=n
 exact⟨⟨oc,od,kV,doc,pm,an,zy,ct,wB,e,l,c⟩,k⟩
def yz(o:Obj)(D:List (Str×V)):Prop:=o.ExactDict/\∃es ep,o.data= .dict es ep/\PyProof.Rows.KTD.Rows RelV es.toList D
theorem yz.s{o:Obj}{D:List (Str×V)}(h:yz o D)(l:K.lookup a=some o)(n:(a==ul)=false):kE K a D:=let⟨c,es,ep,d,r⟩:=h;⟨n,o,es,ep,l,c,d,r⟩
theorem QB{y:Str}{c:jp}(h1:closureFor scope X.env=pure [(y,c)])(h2:∀z∈scope.names,z.2≠ .cell)(h3:scope.kind= .function)(h4:∀z∈scope.names,z.2= .local->scope.names.lookup z.1=some .local)(hc:X.env.cells.lookup y=some c)(hf:∀z∈scope.names,z.2= .free->z.1=y)(hy:scope.names.lookup y=some .free)(ho:X.env.kindOf y=some .cell\/X.env.kindOf y=some .free)(hi:X.N[i]? =some y)(p8:(own++[y]).Nodup):wR X scope [(y,c)] own [y] [i]:=by
 refine⟨h1,h2,h3,h4,λz d h=>?_,λz h=>?_,p8,λj z h=>?_,rfl,λz h=>?_⟩
 ·by_cases e:z=y
  ·subst e
   simp only[kx,y8]at h
   cases h;exact hc
  ·simp only[kx,kS.mpr e]at h
   cases h
 ·have e:z=y:=hf (z,.free) (PySem.mem_of_lookup h) rfl
  subst e
  exact⟨c,by simp[kx]⟩
 ·cases j with
  |zero=>
   have e:y=z:=by simpa using h
   subst e
   exact⟨i,rfl,hi⟩
  |succ j=>simp at h
 ·have e:z=y:=by simpa using h
  subst e
  exact⟨hy,ho⟩
theorem qv1{y:Str}{c d:jp}(jP:¬y=x)(h1:closureFor scope X.env=pure [(x,c),(y,d)])(h2:∀z∈scope.names,z.2≠ .cell)(h3:scope.kind= .function)(h4:∀z∈scope.names,z.2= .local->scope.names.lookup z.1=some .local)(hc:X.env.cells.lookup x=some c)(hd:X.env.cells.lookup y=some d)(hf:∀z∈scope.names,z.2= .free->z.1=x\/z.1=y)(hx:scope.names.lookup x=some .free)(hy:scope.names.lookup y=some .free)(ox:X.env.kindOf x=some .cell\/X.env.kindOf x=some .free)(oy:X.env.kindOf y=some .cell\/X.env.kindOf y=some .free)(hi:X.N[i]? =some x)(hj:X.N[j]? =some y)(p8:(own++[x,y]).Nodup):wR X scope [(x,c),(y,d)] own [x,y] [i,j]:=by
 refine⟨h1,h2,h3,h4,λz e h=>?_,λz h=>?_,p8,λk z h=>?_,rfl,λz h=>?_⟩
 ·by_cases e1:z=x
  ·subst e1
   simp only[kx,y8]at h
   cases h;exact hc
  ·simp only[kx,kS.mpr e1]at h
   by_cases e2:z=y
   ·subst e2
    simp only[y8]at h
    cases h;exact hd
   ·simp only[kS.mpr e2]at h
    cases h
 ·rcases hf (z,.free) (PySem.mem_of_lookup h) rfl with e|e
  ·have e':z=x:=e
   subst e'
   exact⟨c,by simp[kx]⟩
  ·have e':z=y:=e
   subst e'
   exact⟨d,by rw[kx,kS.mpr jP,kx,y8]⟩
 ·match k,h with
  |0,h=>
   have e:x=z:=by simpa using h
   subst e
   exact⟨i,rfl,hi⟩
  |1,h=>
   have e:y=z:=by simpa using h
   subst e
   exact⟨j,rfl,hj⟩
  |k+2,h=>simp at h
 ·rcases(by simpa using h:z=x\/z=y)with e|e
  ·subst e;exact⟨hx,ox⟩
  ·subst e;exact⟨hy,oy⟩
theorem Fo{g:TG}{tb:TS}(Pv:Nat->St->Hp->Prop)(h0:Pv 0 σ H)(hl:∀i σ H,i<=xs.length->Pv i σ H->qp K H l xs)(hs:∀i x T σ H,xs[i]? =some x->Pv i σ H->H T=none->g (.ref T) σ (upd H T (.tup [.int i,x])) λσ2 H2=>tb {D with nx:=Pv (i+1),ct:=Pv (i+1),bk:=D.nx} σ2 H2)(hd:∀σ H,Pv xs.length σ H->D.nx σ H):
  ∃W:Nat->Nat->St->Hp->Prop,(∃m,W 0 m σ H)/\∀i m σ H,W i m σ H->
   ((rW K l).stop i H/\D.nx σ H)\/((rW K l).go i H/\∃N:St->Hp->Prop,(∀σ' H',N σ' H'->∃m',m'<m/\W (i+1) m' σ' H')/\∀x H',(rW K l).vZ i H x H'->g x σ H' λσ2 H2=>tb {D with nx:=N,ct:=N,bk:=D.nx} σ2 H2):=by
 refine⟨λi m σ H=>m=xs.length-i/\i<=xs.length/\Pv i σ H,⟨xs.length,by simp,io _,h0⟩,?_⟩
 rintro i m σ H ⟨rfl,hi,p⟩
 have q:=hl i σ H hi p
 by_cases jM:i<xs.length
 ·refine .inr ⟨⟨xs,xs[i],q,jm jM⟩,Pv (i+1),λσ' H' p'=>⟨xs.length-(i+1),by lia,rfl,jM,p'⟩,λx H' y=>?_⟩
  obtain⟨T,z,hT,rfl,rfl,hz⟩:=y
  exact hs i z T σ H (hz xs q) p hT
 ·have e:i=xs.length:=by lia
  subst e
  exact .inl ⟨⟨xs,q,qL _⟩,hd σ H p⟩
noncomputable def behind (ss:List Str) (xs:List V) (t:Str):List V:=((ss.zip xs).filter λp=>decide (p.1=t)).map (·.2)
theorem qv2{b:jp}{ss:List Str}{t:Str}{i0:Nat}{D:jp}{R:Hp->Prop}(hσ:σ.getD i0 none=some (.str t))(h1:qb K H a (ss.map V.str))(h2:qb K H b xs)(hn:xs.length<=1000)(hD:H D=none)(q:∀H',qv H H'->H' D=some (.lst (behind ss xs t))->R H'):
  ∃W:Nat->Nat->List V->Hp->Prop,(∃m,W 0 m [] (upd H D (.lst [])))/\∀i m ys H2,W i m ys H2->
   ((rY K a b (ss.map V.str) xs).stop i H2/\R H2)\/((rY K a b (ss.map V.str) xs).go i H2/\∀(o:List (Option V))v H3,o.length=2->(rY K a b (ss.map V.str) xs).vZ i H2 v H3->JU K 2 (fc (xF 0) (fc (xF 1) JY)) v (jR [i0] o σ) H3 λσ2 H4=>(∃o':List (Option V),σ2=jR [i0] o' σ/\o'.length=2)/\
    wK (some (Qk (vM NE (zO 0) (zO 2)))) σ2 H4 λb H5=>if b=true then zO 1 σ2 H5 λy H6=>H6 D=some (.lst ys)/\ys.length<sizeLine/\∃m',m'<m/\W (i+1) m' (ys++[y]) (upd H6 D (.lst (ys++[y])))else∃m',m'<m/\W (i+1) m' ys H5):=by
 have hz:(ss.zip xs).length=min ss.length xs.length:=List.length_zip
 refine⟨λi m ys H2=>i<=(ss.zip xs).length/\m=(ss.zip xs).length-i/\ys=(((ss.zip xs).take i).filter λp=>decide (p.1=t)).map (·.2)/\H2 D=some (.lst ys)/\qv H H2,⟨_,io _,rfl,rfl,qu,qv.put hD⟩,?_⟩
 rintro i m ys H2 ⟨hi,rfl,rfl,hd2,g2⟩
 have a2:=qb.mono g2.same h1
 have b2:=qb.mono g2.same h2
 by_cases hl:i<(ss.zip xs).length
 ·have hs:i<ss.length:=by lia
  have hx:i<xs.length:=by lia
  refine .inr ⟨⟨a2,b2,by rw[za];exact hs,hx⟩,λo v H3 ho hy=>?_⟩
  obtain⟨T,x,y,hT,rfl,rfl,ex,ey⟩:=hy
  have ez:(ss.zip xs)[i]? =some (ss[i],y):=by
   rw[List.getElem?_zip_eq_some]
   exact⟨jm hs,ey⟩
  have NK:x= .str ss[i]:=by
   rw[xH,jm hs]at ex
   exact(xb ex).symm
  subst NK
  have tD:D≠T:=zM hd2 hT
  have g3:=qv.put (o:=.tup [.str ss[i],y]) hT
  have qh9:((((ss.zip xs).take i).filter λp=>decide (p.1=t)).map (·.2)).length<=i:=by
   rw[za]
   exact vy (nz _ _) (by rw[i3];lia)
  match o,ho with
  |[_,_],_=>
   refine⟨T,_,rfl,qb.of qu,rfl,_,_,rfl,_,_,rfl,rfl,⟨[some (.str ss[i]),some y],rfl,rfl⟩,?_⟩
   refine⟨_,rfl,.str t,?_,rfl,_,rfl,?_⟩
   ·show some (σ.getD i0 none)=_
    rw[hσ]
   have e3:decide (V.str ss[i]=V.str t)=decide (ss[i]=t):=by rw[mi];simp
   rw[e3]
   have tk:(ss.zip xs).take (i+1)=(ss.zip xs).take i++[(ss[i],y)]:=by rw[my,ez];rfl
   refine zB (λhc=>?_) (λhc=>?_)
   ·refine⟨y,rfl,(qm tD).trans hd2,?_,_,?_,hl,rfl,?_,qu,(g2.trans g3).set hD⟩
    ·rw[xt];lia
    ·lia
    ·rw[tk,TK,kG]
     simp[vi hc]
   ·refine⟨_,?_,hl,rfl,?_,(qm tD).trans hd2,g2.trans g3⟩
    ·lia
    ·rw[tk,TK,kG]
     have xq:¬ss[i]=t:=λz=>hc (vw z)
     simp[xq]
 ·have e:i=(ss.zip xs).length:=by lia
  subst e
  refine .inl ⟨⟨a2,b2,?_⟩,q _ g2 ?_⟩
  ·rw[za];lia
  ·rw[hd2,yA (qL _)]
   rfl
theorem Fi(x:V)(r:List V):yS (x::r) (some 1) none=r:=by
 unfold yS
 have e1:HT.zk (x::r).length 0 (some 1)=1:=by
  show(if(1:Int)<0 then((1:Int)+((x::r).length:Int)).toNat else min (1:Int).toNat (x::r).length)=1
  rw[ke (by decide)]
  show min 1 (r.length+1)=1
  lia
 rw[e1,HT.qxZ]
 simp
theorem Fc(x:V)(r:List V):¬(HT.zk (x::r).length 0 (some 1)=0/\HT.zk (x::r).length (x::r).length none=(x::r).length):=by
 intro h
 have e1:HT.zk (x::r).length 0 (some 1)=1:=by
  show(if(1:Int)<0 then((1:Int)+((x::r).length:Int)).toNat else min (1:Int).toNat (x::r).length)=1
  rw[ke (by decide)]
  show min 1 (r.length+1)=1
  lia
 rw[e1]at h
 cases h.1
theorem Fl{rest:List Str}{elt iter:hU}{g:TG}{tc:TT}(ok:wR X scope cl own rest ix)(hc:X.calm=true)(hi:PI X tg iter wi)(he:∀(C:jp)(s:zr)(H:Hp)(fp:List jp)(pins:List (jp×Obj)),PE (ju X scope cl (own++rest) C s H fp pins) elt te)(hg:∀(C:jp)(s:zr)(H:Hp)(fp:List jp)(pins:List (jp×Obj)),PG (ju X scope cl (own++rest) C s H fp pins) tg g)(uy:∀(C:jp)(s:zr)(H:Hp)(fp:List jp)(pins:List (jp×Obj)),PT (ju X scope cl (own++rest) C s H fp pins) c tc)(hs:∀x,mn iter X.env x=pure x:=by intro x;rfl):PE X (.ListComp elt [⟨tg,iter,[c],0⟩] scope pos) (gq wi g (some tc) te own.length ix):=D8 (tc:=some tc) ok hc hi he hg uy hs
theorem rN{rest:List Str}{elt iter:hU}{g:TG}(ok:wR X scope cl own rest ix)(hc:X.calm=true)(hi:PI X tg iter wi)(he:∀(C:jp)(s:zr)(H:Hp)(fp:List jp)(pins:List (jp×Obj)),PE (ju X scope cl (own++rest) C s H fp pins) elt te)(hg:∀(C:jp)(s:zr)(H:Hp)(fp:List jp)(pins:List (jp×Obj)),PG (ju X scope cl (own++rest) C s H fp pins) tg g)(hs:∀x,mn iter X.env x=pure x:=by intro x;rfl):PE X (.ListComp elt [⟨tg,iter,[],0⟩] scope pos) (gq wi g none te own.length ix):=D8 (tc:=none) ok hc hi he hg (λ_ _ _ _ _=>trivial) hs
theorem qv3{n1 n2:Str}{p1 p2:Pos}{k:Nat}(K:Fg)(hK:X.K=K)(hc:X.calm=true)(hN:X.N.Nodup)(h0:X.N[0]? =some n1)(h1:X.N[1]? =some n2)(x1:Loc X.env.scope n1)(x2:Loc X.env.scope n2)(l0:X.env.scope.names.lookup n1=some .local)(l1:X.env.scope.names.lookup n2=some .local):
  PG X (.Tuple [.Name n1 p1,.Name n2 p2] k pos) (JU K 2 (fc (xF 0) (fc (xF 1) JY))):=by
 subst hK
 exact fh hc (uD (xU (i:=0) hN h0 x1 (Or.inr l0)) (uD (xU (i:=1) hN h1 x2 (Or.inr l1)) fm))
section
variable {rest:List Str}
def Fb(X:Cx)(C:jp)(x:zt)(s':zr):Prop:=∃m,s'.heap.Ns C m/\∀h',rh C s'.heap h'->∀QD:Env,QD.locals=C->xI (vk X.prog X.w) X.A (passOn "comprehension.variables-let-go" x QD:Sem zt) (λ_ _=>False) X.xe {s' with heap:=h'}
theorem Fd{elt iter:hU}{ug py:Pos}{g:TG}(hN:X.N.Nodup)(vR:X.N[i]? =some x)(hx:Loc X.env.scope x)(ok:wR X scope cl own rest ix)(hc:X.calm=true)(hi:PI X tg iter wi){XE:zr->Hp->List jp->List (jp×Obj)->zt->zr->Prop}(he:∀(s:zr)(H:Hp)(fp:List jp)(pins:List (jp×Obj)),X5 X scope cl (own++rest) elt te (XE s H fp pins) s H fp pins)(hE:∀(s:zr)(H:Hp)(fp:List jp)(pins:List (jp×Obj))(σ:St)(x:zt)(s':zr),Inv X pins σ H s->(∀b∈fp,xA X pins H b)->XE s H fp pins x s'->notedBy (vk X.prog X.w) X.A (QQ scope cl (~~~s) X.env) (Fb X (~~~s)) x s')(hg:∀(C:jp)(s:zr)(H:Hp)(fp:List jp)(pins:List (jp×Obj)),PG (ju X scope cl (own++rest) C s H fp pins) tg g)(uy:∀(C:jp)(s:zr)(H:Hp)(fp:List jp)(pins:List (jp×Obj)),rX (ju X scope cl (own++rest) C s H fp pins) ifs tc)(gk:Nw (.ListComp elt [⟨tg,iter,ifs,0⟩] scope pos) (some (.Name x py)) ug.line X.env=pure true)(hf:X.fn x=true\/X.env.scope.names.lookup x=some .local)(hs:∀x,mn iter X.env x=pure x:=by intro _;rfl):PS X (.Assign [.Name x py] (.ListComp elt [⟨tg,iter,ifs,0⟩] scope pos) ug) (uF (gq wi g tc te own.length ix) (xF i)):=by
 intro pins s σ H E I h
 rw[exec_Assign_Name_used _ _ _ _ gk]
 refine qr (Pm (qr ?_))
 show xI _ X.A (do let _<-comprehension (.ListComp elt [⟨tg,iter,ifs,0⟩] scope pos) scope X.env _ (newList []) false (eval iter X.env) (some (assign (.Name x py) X.env))) _ _ s
 refine qr (wb (qz4 (use:=some (assign (.Name x py) X.env)) (Q:=λ_ s'=>SP X pins E .next s') rfl hs ok.X3 ok.kind ok.names (qX (hi pins s σ H _ I h) λv s1 h1=>qX h1 λeT s2 h2=>?_)) (λ_ s' hq=>xk (xk hq)) λ_ _ e=>e)
 obtain⟨it,fp,tn,J,H1,e,I2,T,yP,f2,hq⟩:=h2
 subst e
 refine gL (wpAny_newFunctionEnv ok.cell (by intro y hy;simp at hy) (λh₁ uA ie=>?_) ok.kind)
 dsimp only at uA ie⊢
 have na:H1 (~~~s2)=none:=I2.qt.fresh (qL _)
 obtain⟨W,⟨m0,w0⟩,turn⟩:=hq (~~~s2) na
 have I3:=I2.laid (t':=s2.toks) (o:=.lst []) (h':=s2.heap.push {cls:=.type "list",dict:=none,data:=.seq ([]:List zt).toArray}) (λb u e=>qF _ e) (qL _) ⟨by decide,[],0,.nil,jg _ rfl⟩
 have fa:∀b∈fp,b<(~~~s2):=λb hb=>by
  obtain⟨o,ho,_⟩:=T.obj 0 _ yP b hb
  exact zu ho
 generalize vK:({s2 with heap:=s2.heap.push {cls:=.type "list",dict:=none,data:=.seq ([]:List zt).toArray}}:zr)=s3 at uA ie I3⊢
 have z3:(~~~s3)=(~~~s2)+1:=by rw[<-vK];exact ik _ _
 have k3:∀b u,s2.heap.get? b=some u->s3.heap.get? b=some u:=λb u e=>by rw[<-vK];exact qF _ e
 have gz:∀b∈fp,b<(~~~s3):=λb hb=>by rw[z3];exact Bz (fa b hb)
 have f3:∀b∈fp,xA X pins (upd H1 (~~~s2) (.lst [])) b:=λb hb=>by
  obtain⟨g0,g1⟩:=f2 b hb
  exact⟨by rw[qm (zK (fa b hb))];exact g0,g1⟩
 subst vK
 have J4:=DE ok (tk:=s2.toks+([]:List (Str×zt)).length) I3 f3 gz uA ie
 have rV:tn 0 h₁:=T.keep _ _ _ yP λb hm o e=>(ie.2 b (zK (gz b hm))).trans (qF _ (k3 b o e))
 refine(λloop=>codeAny_compStart_list loop (T.self _ 0 _ _ _ rV loop)) (D6 (Q:=λv H'=>xF i v σ H' E.nx) (elt:=elt) (iter:=iter) (pos:=pos) (s4:={s2 with heap:=h₁,toks:=s2.toks+([]:List (Str×zt)).length}) ok hc (he _ _ _ _) (λx s' z=>hE _ _ _ _ σ x s' I3 f3 z) hg uy I3 T f3 gz J4 rV w0 (λf H' s5 o ho I5 q=>?_) turn)
 obtain⟨m,hn,_⟩:=I5.loc
 obtain⟨oC,es,ep,Ff,rC⟩:=id hn
 have nC:H' _=none:=I5.free
 have Jx:=D5 I3 I5 f3 (h'':=s5.heap) (Heap.SameBut.refl ..)
 have fC:xA X pins H' (s2.heap.push {cls:=.type "list",dict:=none,data:=.seq ([]:List zt).toArray}).objs.size:=I3.yH (qL _) nC
 have Jp:=Jx.pinned (fp:=[(s2.heap.push {cls:=.type "list",dict:=none,data:=.seq ([]:List zt).toArray}).objs.size]) (λb hb=>by rw[xX.mp hb];exact fC) (λb hb=>by
  rw[xX.mp hb]
  exact⟨oC,Ff,λv z=>by rw[rC.1]at z;cases z⟩)
 show xI _ X.A (assign (.Name x py) X.env (.ref (~~~s2))) _ _ s5
 refine wb (xU (pos:=py) hN vR hx hf _ s5 σ H' (.ref (~~~s2)) (.ref (~~~s2)) (λσ6 H6=>σ6=σ.set i (some (.ref (~~~s2)))/\H6=H') Jp rfl ⟨rfl,rfl⟩) (λ_ s6⟨σ6,H6,I6,e1,e2⟩=>?_) λ_ _ e=>e
 subst e1 e2
 have pC:=(I6.pin (_,oC) (kL _ (kL _ (nq (xX.mpr rfl) Ff)))).1
 refine⟨m,⟨oC,es,ep,pC,rC⟩,λh' cg=>⟨_,_,Inv.cu (t':=s6.toks) (ch:=[_]) I6.fZ (λb o hb e=>(cg.2 b (λz=>hb (xX.mpr z))).trans e) (λb hb=>by rw[xX.mp hb];exact fC),q⟩⟩
theorem qv4{elt iter:hU}{ug py:Pos}{g:TG}(hN:X.N.Nodup)(vR:X.N[i]? =some x)(hx:Loc X.env.scope x)(ok:wR X scope cl own rest ix)(hc:X.calm=true)(hi:PI X tg iter wi)(he:∀(C:jp)(s:zr)(H:Hp)(fp:List jp)(pins:List (jp×Obj)),PE (ju X scope cl (own++rest) C s H fp pins) elt te)(hg:∀(C:jp)(s:zr)(H:Hp)(fp:List jp)(pins:List (jp×Obj)),PG (ju X scope cl (own++rest) C s H fp pins) tg g)(uy:∀(C:jp)(s:zr)(H:Hp)(fp:List jp)(pins:List (jp×Obj)),rX (ju X scope cl (own++rest) C s H fp pins) ifs tc)(gk:Nw (.ListComp elt [⟨tg,iter,ifs,0⟩] scope pos) (some (.Name x py)) ug.line X.env=pure true)(hf:X.fn x=true\/X.env.scope.names.lookup x=some .local)(hs:∀x,mn iter X.env x=pure x:=by intro _;rfl):PS X (.Assign [.Name x py] (.ListComp elt [⟨tg,iter,ifs,0⟩] scope pos) ug) (uF (gq wi g tc te own.length ix) (xF i)):=Fd hN vR hx ok hc hi (λ_ _ _ _=>(he _ _ _ _ _).elt) (λ_ _ _ _ _ _ _ _ _ z=>z.elim) hg uy gk hf hs
theorem qv5{elt iter:hU}{ug py:Pos}{g:TG}(hN:X.N.Nodup)(vR:X.N[i]? =some x)(hx:Loc X.env.scope x)(ok:wR X scope cl own rest ix)(hc:X.calm=true)(hi:PI X tg iter wi)(he:∀(C:jp)(s:zr)(H:Hp)(fp:List jp)(pins:List (jp×Obj)),PE (ju X scope cl (own++rest) C s H fp pins) elt te)(hg:∀(C:jp)(s:zr)(H:Hp)(fp:List jp)(pins:List (jp×Obj)),PG (ju X scope cl (own++rest) C s H fp pins) tg g)(gk:Nw (.ListComp elt [⟨tg,iter,[],0⟩] scope pos) (some (.Name x py)) ug.line X.env=pure true)(hf:X.fn x=true\/X.env.scope.names.lookup x=some .local)(hs:∀x,mn iter X.env x=pure x:=by intro _;rfl):PS X (.Assign [.Name x py] (.ListComp elt [⟨tg,iter,[],0⟩] scope pos) ug) (uF (gq wi g none te own.length ix) (xF i)):=qv4 hN vR hx ok hc hi he hg (λ_ _ _ _ _=>trivial) gk hf hs
end
end L2
open PySem
inductive Kd where
 |int|bool
 |list (k:Kd)|pair (k l:Kd)|fn (k l:Kd)
deriving DecidableEq
namespace Kd
noncomputable def dt:Kd->Dt
 | .int=>.str "int"
 | .bool=>.str "bool"
 | .list k=>.tup [.str "list",k.dt]
 | .pair k l=>.tup [.str "pair",k.dt,l.dt]
 | .fn k l=>.tup [.str "fun",k.dt,l.dt]
noncomputable def qa:Kd->Nat
 | .int=>0
 | .bool=>0
 | .list k=>k.qa+1
 | .pair k l=>max k.qa l.qa+1
 | .fn k l=>max k.qa l.qa+1
noncomputable def sz:Kd->Nat
 | .int=>1
 | .bool=>1
 | .list k=>k.sz+1
 | .pair k l=>k.sz+l.sz+1
 | .fn k l=>k.sz+l.sz+1
theorem wW:∀k:Kd,k.qa<k.sz
 | .int=>by simp[qa,sz]
 | .bool=>by simp[qa,sz]
 | .list k=>by have :=wW k;simp only[qa,sz];lia
 | .pair k l=>by have :=wW k;have :=wW l;simp only[qa,sz];lia
 | .fn k l=>by have :=wW k;have :=wW l;simp only[qa,sz];lia
theorem nO:∀k:Kd,Dt.dep k.dt=k.qa
 | .int=>by simp[dt,Dt.dep,qa]
 | .bool=>by simp[dt,Dt.dep,qa]
 | .list k=>by simp[dt,Dt.dep,Dt.j7,qa,nO k]
 | .pair k l=>by simp[dt,Dt.dep,Dt.j7,qa,nO k,nO l]
 | .fn k l=>by simp[dt,Dt.dep,Dt.j7,qa,nO k,nO l]
theorem qv6:(("list":Str)==("pair":Str))=false:=by ext
theorem qv7:(("pair":Str)==("list":Str))=false:=by ext
theorem qv8:(("list":Str)==("fun":Str))=false:=by ext
theorem qv9:(("fun":Str)==("list":Str))=false:=by ext
theorem qwq:(("pair":Str)==("fun":Str))=false:=by ext
theorem qwz:(("fun":Str)==("pair":Str))=false:=by ext
theorem qwj:(("int":Str)==("bool":Str))=false:=by ext
theorem qwx:(("bool":Str)==("int":Str))=false:=by ext
theorem um:∀k l:Kd,Dt.zU k.dt l.dt=decide (k=l)
 | .int,.int=>by simp[dt,Dt.zU]
 | .int,.bool=>by simp[dt,Dt.zU,qwj]
 | .int,.list _=>by simp[dt,Dt.zU]
 | .int,.pair _ _=>by simp[dt,Dt.zU]
 | .int,.fn _ _=>by simp[dt,Dt.zU]
 | .bool,.int=>by simp[dt,Dt.zU,qwx]
 | .bool,.bool=>by simp[dt,Dt.zU]
 | .bool,.list _=>by simp[dt,Dt.zU]
 | .bool,.pair _ _=>by simp[dt,Dt.zU]
 | .bool,.fn _ _=>by simp[dt,Dt.zU]
 | .list _,.int=>by simp[dt,Dt.zU]
 | .list _,.bool=>by simp[dt,Dt.zU]
 | .list k,.list l=>by simp[dt,Dt.zU,Dt.jC,um k l]
 | .list _,.pair _ _=>by simp[dt,Dt.zU,Dt.jC,qv6]
 | .list _,.fn _ _=>by simp[dt,Dt.zU,Dt.jC,qv8]
 | .pair _ _,.int=>by simp[dt,Dt.zU]
 | .pair _ _,.bool=>by simp[dt,Dt.zU]
 | .pair _ _,.list _=>by simp[dt,Dt.zU,Dt.jC,qv7]
 | .pair k l,.pair k' l'=>by simp[dt,Dt.zU,Dt.jC,um k k',um l l']
 | .pair _ _,.fn _ _=>by simp[dt,Dt.zU,Dt.jC,qwq]
 | .fn _ _,.int=>by simp[dt,Dt.zU]
 | .fn _ _,.bool=>by simp[dt,Dt.zU]
 | .fn _ _,.list _=>by simp[dt,Dt.zU,Dt.jC,qv9]
 | .fn _ _,.pair _ _=>by simp[dt,Dt.zU,Dt.jC,qwz]
 | .fn k l,.fn k' l'=>by simp[dt,Dt.zU,Dt.jC,um k k',um l l']
end Kd
inductive U1|head|tail
deriving DecidableEq
inductive U2|cons|pair|call|plus|over
deriving DecidableEq
noncomputable def U1.str:U1->Str
 | .head=>"head"| .tail=>"tail"
noncomputable def U2.str:U2->Str
 | .cons=>"cons"| .pair=>"pair"| .call=>"call"| .plus=>"plus"| .over=>"over"
inductive Pt where
 |num (n:Int)|zI (b:Bool)|jx (x:Str)|nil (k:Kd)
 |one (u:U1) (p:Pt)|two (u:U2) (p q:Pt)
 |jy (x:Str) (p q:Pt)|fn (x:Str) (k:Kd) (p:Pt)|rc (f x:Str) (k l:Kd) (p:Pt)
noncomputable abbrev kg:=List (Str×Kd)
namespace Pt
noncomputable def dt:Pt->Dt
 | .num n=>.tup [.str "num",.int n]
 | .zI b=>.tup [.str "truth",.bl b]
 | .jx x=>.tup [.str "name",.str x]
 | .nil k=>.tup [.str "nil",k.dt]
 | .one u p=>.tup [.str u.str,p.dt]
 | .two u p q=>.tup [.str u.str,p.dt,q.dt]
 | .jy x p q=>.tup [.str "let",.str x,p.dt,q.dt]
 | .fn x k p=>.tup [.str "fn",.str x,k.dt,p.dt]
 | .rc f x k l p=>.tup [.str "rec",.str f,.str x,k.dt,l.dt,p.dt]
noncomputable def k1:U1->Kd->Option Kd
 | .head,.list k=>some k
 | .tail,.list k=>some (.list k)
 |_,_=>none
noncomputable def k2:U2->Kd->Kd->Option Kd
 | .cons,k,.list l=>if k=l then some (.list l)else none
 | .pair,k,l=>some (.pair k l)
 | .call,.fn k l,m=>if k=m then some l else none
 | .plus,.int,.int=>some .int
 | .over,.int,.int=>some .int
 |_,_,_=>none
noncomputable def qa:Pt->Nat
 | .one _ p=>p.qa+1
 | .two _ p q=>max p.qa q.qa+1
 | .jy _ p q=>max p.qa q.qa+1
 | .fn _ _ p=>p.qa+1
 | .rc _ _ _ _ p=>p.qa+1
 |_=>0
noncomputable def sz:Pt->Nat
 | .one _ p=>p.sz+1
 | .two _ p q=>p.sz+q.sz+1
 | .jy _ p q=>p.sz+q.sz+1
 | .fn _ _ p=>p.sz+1
 | .rc _ _ _ _ p=>p.sz+1
 |_=>1
noncomputable def fv:Pt->Str->Prop
 | .jx y,x=>x=y
 | .one _ p,x=>p.fv x
 | .two _ p q,x=>p.fv x\/q.fv x
 | .jy y p q,x=>p.fv x\/(q.fv x/\x≠y)
 | .fn y _ p,x=>p.fv x/\x≠y
 | .rc f y _ _ p,x=>p.fv x/\x≠f/\x≠y
 |_,_=>False
theorem gv{y:Str}{k:Kd}{Γ:kg}(h:x≠y):i5 x ((y,k)::Γ)=Γ.lookup x:=by rw[kx,kS.mpr h]
end Pt
open PySem
def kh(n:Int):Prop:= -9223372036854775808<=n/\n<=9223372036854775807
open PySem
inductive AV where
 |int (n:Int)|bl (b:Bool)|nil|at_ (n:Nat)
deriving DecidableEq
inductive oj where
 |cell|pair|fn
deriving DecidableEq
structure Th where
 sort:oj
 held:List AV
deriving DecidableEq
inductive Sm where
 |plus|over
deriving DecidableEq
inductive zX where
 |num (n:Int)|zI (b:Bool)|nil|get (k:Nat)
 |make (s:oj)|take (x:Str) (i:Nat)
 |sum (s:Sm)|func (rc:Bool) (kept:List Nat) (len:Nat)
 |call|last|tell
inductive Sd where
 |running|done|Ku|ofEmpty|qwk|Ko
deriving DecidableEq
structure Ms where
 code:List zX
 room:Nat
 things:List Th
 made:Nat
 qI:List AV
 base:Nat
 place:Nat
 pend:List (Nat×Nat)
 st:Sd
namespace Ms
noncomputable def yZ:Nat:=100000
noncomputable def cQ:Sm->Int->Bool
 | .over,b=>decide (b=0)
 |_,_=>false
noncomputable def found (things:List Th):Nat->List Nat->List AV->Option (List Nat)
 |_,seen,[]=>some seen
 |0,_,_::_=>none
 |zg+1,seen,w::ws=>match w with
  | .at_ k=>if k∈seen then found things zg seen ws else match things[k]?with
   |some t=>found things zg (seen++[k]) (t.held.reverse++ws)
   |none=>none
  |_=>found things zg seen ws
noncomputable def ow (m:Ms):Option Ms:=if m.room<=m.things.length then none else some m
noncomputable def add (m:Ms) (s:oj) (h:List AV):Ms:={m with things:=m.things++[⟨s,h⟩],made:=m.made+1,qI:=.at_ m.things.length::m.qI}
noncomputable def enter (m:Ms) (k:Nat) (handed:AV):Option Ms:=match m.things[k]?with
 |some ⟨_,.int pl:: .bl rc::kept⟩=>if pl<0 then none else some {m with place:=pl.toNat,qI:=handed::((if rc then[.at_ k]else[])++(kept.reverse++m.qI))}
 |_=>none
noncomputable def slot (m:Ms) (k:Nat):Option AV:=if m.base+k<m.qI.length then m.qI[m.qI.length-1-(m.base+k)]?else none
noncomputable def cut (l:List AV) (h:Nat):List AV:=l.drop (l.length-h)
noncomputable def exec (m:Ms):zX->Option Ms
 | .num n=>some {m with qI:=.int n::m.qI}
 | .zI b=>some {m with qI:=.bl b::m.qI}
 | .nil=>some {m with qI:=.nil::m.qI}
 | .get k=>(m.slot k).map λv=>{m with qI:=v::m.qI}
 | .make s=>m.ow.bind λm1=>if m1.st= .running then(match m1.qI with
   |b::a::r=>some (({m1 with qI:=r}:Ms).add s [a,b])
   |_=>none)else some m1
 | .take _ i=>match m.qI with
  | .nil::r=>some {m with qI:=r,st:=.ofEmpty}
  |_=>none
 | .sum s=>match m.qI with
  | .int y:: .int _::r=>if cQ s y then some {m with qI:=r,st:=.Ku}else none
  |_=>none
 | .func rc kept len=>m.ow.bind λm1=>if m1.st= .running then((kept.mapM λk=>m1.slot k).map λvs=>let m2:=m1.add .fn (.int m1.place:: .bl rc::vs);{m2 with place:=m2.place+len})else some m1
 | .call=>if 40<=m.pend.length then some {m with st:=.Ko}else match m.qI with
  |h:: .at_ k::_=>({m with pend:=(m.place,m.base)::m.pend,base:=m.qI.length}:Ms).enter k h
  |_=>none
 | .last=>match m.qI with
  |h:: .at_ k::r=>({m with qI:=cut r m.base}:Ms).enter k h
  |_=>none
 | .tell=>match m.qI with
  |v::r=>match m.pend with
   |_::_=>none
   |[]=>some {m with qI:=[v],st:=.done}
  |_=>none
noncomputable def order (m:Ms):Option Ms:=m.code[m.place]?.bind λo=>(({m with place:=m.place+1}:Ms).exec o).bind λm1=>if m1.qI.length<=yZ then some m1 else none
noncomputable def Kc:zX->Bool
 | .tell=>true|_=>false
noncomputable def ends:Nat->Ms->Option Ms
 |0,_=>none
 |n+1,m=>if m.st= .running then m.code[m.place]?.bind λo=>if Kc o then m.order.bind (ends n)else some m else some m
noncomputable def step (zg:Nat) (m:Ms):Option Ms:=m.order.bind (ends zg)
noncomputable def run (zg:Nat):Nat->Ms->Option Ms
 |0,m=>some m
 |n+1,m=>if m.st= .running then(m.step zg).bind (run zg n)else some m
noncomputable def new (code:List zX) (room:Nat):Ms:=⟨code,room,[],0,[],0,0,[],.running⟩
end Ms
variable {p q:Pt} {m m':Ms} {S:Option Ms} {r:List AV} {ds:List Dt}
namespace Pt
noncomputable def ins (acc:List Str):List Str->List Str
 |[]=>acc
 |x::xs=>ins (if x∈acc then acc else acc++[x]) xs
noncomputable def outs:Pt->List Str
 | .jx x=>[x]
 | .one _ p=>ins [] (outs p)
 | .two _ p q=>ins (ins [] (outs p)) (outs q)
 | .jy x p q=>ins (ins [] (outs p)) ((outs q).filter (·≠x))
 | .fn x _ p=>ins [] ((outs p).filter (·≠x))
 | .rc f x _ _ p=>ins [] ((outs p).filter λy=>y≠f/\y≠x)
 |_=>[]
noncomputable abbrev Sl:=List (Str×Nat)
noncomputable def yJ (sl:Sl) (x:Str):Nat:=(sl.lookup x).getD 0
noncomputable def vg:Nat->List Str->Sl
 |_,[]=>[]
 |i,x::xs=>vg (i+1) xs++[(x,i)]
noncomputable def u1:U1->zX
 | .head=>.take "head" 0
 | .tail=>.take "tail" 1
noncomputable def u2:U2->zX
 | .cons=>.make .cell
 | .pair=>.make .pair
 | .plus=>.sum .plus
 | .over=>.sum .over
 |_=>.call
noncomputable def told (last:Bool) (c:List zX):List zX:=if last then c++[.tell]else c
noncomputable def codeOf:Pt->Sl->Nat->Bool->List zX
 | .num n,_,_,b=>told b [.num n]
 | .zI v,_,_,b=>told b [.zI v]
 | .jx x,sl,_,b=>told b [.get (yJ sl x)]
 | .nil _,_,_,b=>told b [.nil]
 | .one u p,sl,h,b=>told b (codeOf p sl h false++[u1 u])
 | .two .call p q,sl,h,b=>codeOf p sl h false++codeOf q sl (h+1) false++[if b then .last else .call]
 | .two u p q,sl,h,b=>told b (codeOf p sl h false++codeOf q sl (h+1) false++[u2 u])
 | .jy _ _ _,_,_,_=>[]
 | .fn x k p,sl,_,b=>
  let kept:=outs (.fn x k p)
  let body:=codeOf p (vg 0 (kept++[x])) (kept.length+1) true
  told b (.func false (kept.map (yJ sl)) body.length::body)
 | .rc f x k l p,sl,_,b=>
  let kept:=outs (.rc f x k l p)
  let bound:=if f=x then[f]else[f,x]
  let body:=codeOf p (vg 0 (kept++bound)) (kept.length+bound.length) true
  told b (.func (decide (f≠x)) (kept.map (yJ sl)) body.length::body)
end Pt
open PySem
namespace Pt
theorem qwv(acc ys:List Str)(x:Str):ins acc (ys++[x])=if x∈ins acc ys then ins acc ys else ins acc ys++[x]:=by
 induction ys generalizing acc with
 |nil=>rfl
 |cons y ys ih=>exact ih _
theorem cZ{x:Str}:∀{acc ys:List Str},x∈ins acc ys↔x∈acc\/x∈ys
 |acc,[]=>by simp[ins]
 |acc,y::ys=>by
  rw[ins,cZ]
  by_cases h:y∈acc
  ·rw[vb h]
   constructor
   ·rintro(z|z)
    ·exact .inl z
    ·exact .inr (jF _ z)
   ·rintro(z|z)
    ·exact .inl z
    ·rcases js.mp z with rfl|z
     ·exact .inl h
     ·exact .inr z
  ·rw[ke h]
   simp[or_assoc]
theorem iZ:∀{acc ys:List Str},acc.Nodup->(ins acc ys).Nodup
 |acc,[],h=>h
 |acc,y::ys,h=>by
  rw[ins]
  by_cases z:y∈acc
  ·rw[vb z];exact iZ h
  ·rw[ke z]
   refine iZ (List.nodup_append.mpr ⟨h,by simp,λa ha b hb e=>?_⟩)
   rw[xX.mp hb]at e
   exact z (e▸ha)
theorem iJ:∀(acc ys:List Str),(ins acc ys).length<=acc.length+ys.length
 |acc,[]=>by simp[ins]
 |acc,y::ys=>by
  rw[ins]
  have :=iJ (if y∈acc then acc else acc++[y]) ys
  have e:(if y∈acc then acc else acc++[y]).length<=acc.length+1:=by split<;>simp
  rw[zH];lia
theorem ou(x:Str):∀p:Pt,x∈outs p↔p.fv x
 | .num _=>by simp[outs,fv]
 | .zI _=>by simp[outs,fv]
 | .jx y=>by simp[outs,fv]
 | .nil _=>by simp[outs,fv]
 | .one _ p=>by rw[outs,cZ,fv,ou x p];simp
 | .two _ p q=>by rw[outs,cZ,cZ,fv,ou x p,ou x q];simp
 | .jy y p q=>by rw[outs,cZ,cZ,fv,ou x p,W1,ou x q];simp
 | .fn y _ p=>by rw[outs,cZ,fv,W1,ou x p];simp
 | .rc f y _ _ p=>by rw[outs,cZ,fv,W1,ou x p];simp
theorem qww:∀p:Pt,(outs p).Nodup
 | .num _=>by simp[outs]
 | .zI _=>by simp[outs]
 | .jx y=>by simp[outs]
 | .nil _=>by simp[outs]
 | .one _ p=>iZ eR
 | .two _ p q=>iZ (iZ eR)
 | .jy y p q=>iZ (iZ eR)
 | .fn y _ p=>iZ eR
 | .rc f y _ _ p=>iZ eR
theorem yX:∀p:Pt,(outs p).length<=p.sz
 | .num _=>by simp[outs,sz]
 | .zI _=>by simp[outs,sz]
 | .jx y=>by simp[outs,sz]
 | .nil _=>by simp[outs,sz]
 | .one _ p=>by have :=iJ [] (outs p);have :=yX p;simp only[outs,sz,yn]at *;lia
 | .two _ p q=>by have :=iJ (ins [] (outs p)) (outs q);have :=iJ [] (outs p);have :=yX p;have :=yX q;simp only[outs,sz,yn]at *;lia
 | .jy y p q=>by have :=iJ (ins [] (outs p)) ((outs q).filter (·≠y));have :=iJ [] (outs p);have :=yX p;have :=yX q;have :=nz (λz=>decide (z≠y)) (outs q);simp only[outs,sz,yn]at *;lia
 | .fn y _ p=>by have :=iJ [] ((outs p).filter (·≠y));have :=yX p;have :=nz (λz=>decide (z≠y)) (outs p);simp only[outs,sz,yn]at *;lia
 | .rc f y _ _ p=>by have :=iJ [] ((outs p).filter λz=>z≠f/\z≠y);have :=yX p;have :=nz (λz=>decide (z≠f/\z≠y)) (outs p);simp only[outs,sz,yn]at *;lia
noncomputable def kW (ns:List Str) (ps:List Pt):Nat->List Str
 |0=>[]
 |i+1=>match ps[i]?with
  |some q=>ins (kW ns ps i) ((outs q).filter λx=>decide (i+1<ps.length\/x∉ns))
  |none=>kW ns ps i
theorem rB{f:Str->Bool}:∀{xs:List Str},(∀x,f x=true)->xs.filter f=xs:=λh=>List.filter_eq_self.mpr λx _=>h x
theorem cJ(b:Bool)(c:List zX):(told b c).length<=c.length+1:=by unfold told;split<;>simp
theorem gw:∀(p:Pt)(sl:Sl)(h:Nat)(b:Bool),(codeOf p sl h b).length+4<=6*p.sz
 | .num n,sl,h,b=>by have :=cJ b [zX.num n];simp only[codeOf,sz,zH,yn]at *;lia
 | .zI n,sl,h,b=>by have :=cJ b [zX.zI n];simp only[codeOf,sz,zH,yn]at *;lia
 | .jx n,sl,h,b=>by have :=cJ b [zX.get (yJ sl n)];simp only[codeOf,sz,zH,yn]at *;lia
 | .nil n,sl,h,b=>by have :=cJ b [zX.nil];simp only[codeOf,sz,zH,yn]at *;lia
 | .one u p,sl,h,b=>by have :=cJ b (codeOf p sl h false++[u1 u]);have :=gw p sl h false;simp only[codeOf,sz,zH,yn,va]at *;lia
 | .two u p q,sl,h,b=>by
  have i1:=gw p sl h false
  have i2:=gw q sl (h+1) false
  cases u
  case call=>simp only[codeOf,sz,zH,yn,va]at *;lia
  all_goals
   rw[codeOf]
   ·refine vy (PH (cJ b _) 4) ?_
    simp only[sz,zH,yn,va]at *;lia
   all_goals (intro z;cases z)
 | .jy x p q,sl,h,b=>by simp only[codeOf,sz,yn];lia
 | .fn x k p,sl,h,b=>by
  rw[codeOf]
  have i1:=gw p (vg 0 (outs (.fn x k p)++[x])) ((outs (.fn x k p)).length+1) true
  refine vy (PH (cJ b _) 4) ?_
  simp only[sz,zH]at *;lia
 | .rc f x k l p,sl,h,b=>by
  rw[codeOf]
  have i1:=gw p (vg 0 (outs (.rc f x k l p)++if f=x then[f]else[f,x])) ((outs (.rc f x k l p)).length+(if f=x then[f]else[f,x]).length) true
  refine vy (PH (cJ b _) 4) ?_
  simp only[sz,zH]at *;lia
theorem QF{x:Str}:∀{a b:Sl},i5 x (a++b)=(i5 x a).or (i5 x b)
 |[],b=>by simp
 |(y,n)::a,b=>by
  rw[hG,kx,kx,QF]
  cases (x==y)<;>rfl
theorem Fp{x:Str}:∀{i:Nat}{l:List Str},x∉l->i5 x (vg i l)=none
 |_,[],_=>rfl
 |i,y::l,h=>by
  have jP:x≠y:=λz=>h (by rw[z];exact xK)
  rw[vg,QF,Fp λz=>h (jF _ z),kx,kS.mpr jP]
  rfl
theorem Ft{x:Str}:∀{i j:Nat}{l:List Str},l.Nodup->l[j]? =some x->yJ (vg i l) x=i+j
 |_,_,[],_,h=>by simp at h
 |i,0,y::l,hn,h=>by
  have e:y=x:=by simpa using h
  subst e
  rw[ra]at hn
  unfold yJ
  rw[vg,QF,Fp hn.1,kx,y8]
  rfl
 |i,j+1,y::l,hn,h=>by
  rw[ra]at hn
  have h':l[j]? =some x:=by simpa using h
  have ih:=Ft (i:=i+1) hn.2 h'
  unfold yJ at ih⊢
  rw[vg,QF]
  have hl:∃n,i5 x (vg (i+1) l)=some n:=by
   cases e:i5 x (vg (i+1) l)with
   |some n=>exact⟨n,rfl⟩
   |none=>rw[e]at ih;simp at ih;lia
  obtain⟨n,e⟩:=hl
  rw[e]at ih⊢
  simp at ih⊢;lia
noncomputable def jL:Pt->List Str
 | .fn x _ _=>[x]
 | .rc f x _ _ _=>if f=x then[f]else[f,x]
 |_=>[]
end Pt
open PySem
namespace AV
noncomputable def dt:AV->Dt
 | .int n=>.int n
 | .bl b=>.bl b
 | .nil=>.qd
 | .at_ k=>.tup [.str "at",.int k]
end AV
noncomputable def oj.str:oj->Str
 | .cell=>"cell"| .pair=>"pair"| .fn=>"function"
noncomputable def Th.dt (t:Th):Dt:=.tup [.str t.sort.str,.tup (t.held.map AV.dt)]
noncomputable def Sm.str:Sm->Str
 | .plus=>"plus"| .over=>"over"
noncomputable def Sd.str:Sd->Str
 | .running=>"running"| .done=>"done"| .Ku=>"by nought"| .ofEmpty=>"of empty"| .qwk=>"no room"| .Ko=>"too deep"
namespace zX
noncomputable def wd:zX->Str
 | .num _=>"put"| .zI _=>"put"| .nil=>"nil"| .get _=>"get"
 | .make .pair=>"pair"| .make _=>"cons"| .take x _=>x
 | .sum s=>s.str| .func rc _ _=>if rc then"rec" else"fn"
 | .call=>"call"| .last=>"last call"| .tell=>"tell"
noncomputable def args:zX->List Dt
 | .num n=>[.int n]| .zI b=>[.bl b]| .get k=>[.int k]
 | .func _ kept len=>[.tup (kept.map λk:Nat=>.int (k:Int)),.int len]
 |_=>[]
noncomputable def dt (o:zX):Dt:=.tup (.str o.wd::o.args)
noncomputable def ok:zX->Prop
 | .make s=>s≠ .fn
 | .take x i=>(x,i)∈([("head",0),("tail",1)]:List (Str×Nat))
 | .num n=>kh n
 | .func _ ks _=>ks.length<=50000
 |_=>True
end zX
noncomputable def Fe (q:Nat×Nat):Dt:=.tup [.int q.1,.int q.2]
namespace L2
open PySem PySem.Spec PyProof.Rows PyProof
def vV(k:Str):List Str->Option Nat
 |[]=>none
 |x::r=>if decide (k=x)=true then some 0 else(vV k r).map (·+1)
theorem jn{k:Str}:∀{ks:List Str}{vs:List V}{i:Nat}{v:V},vV k ks=some i->vs[i]? =some v->hX k (ks.zip vs)=some v
 |[],_,_,_,h,_=>by cases h
 |x::r,[],i,v,h,hv=>by simp at hv
 |x::r,u::us,i,v,h,hv=>by
  show(if decide (k=x)=true then some u else hX k (r.zip us))=some v
  have h':(if decide (k=x)=true then some 0 else(vV k r).map (·+1))=some i:=h
  by_cases z:decide (k=x)=true
  ·rw[vb z]at h'⊢
   cases h'
   simpa using hv
  ·rw[ke z]at h'⊢
   cases e:vV k r with
   |none=>rw[e]at h';cases h'
   |some j=>
    rw[e]at h'
    have ei:i=j+1:=by simpa using h'.symm
    subst ei
    exact jn e (by simpa using hv)
theorem iX{k:Str}:∀{ks:List Str}{vs:List V},vV k ks=none->N0 k (ks.zip vs)=false
 |[],_,_=>rfl
 |x::r,[],_=>rfl
 |x::r,u::us,h=>by
  show(decide (k=x)||N0 k (r.zip us))=false
  have h':(if decide (k=x)=true then some 0 else(vV k r).map (·+1))=none:=h
  by_cases z:decide (k=x)=true
  ·rw[vb z]at h';cases h'
  ·rw[ke z]at h'
   have e:vV k r=none:=by
    cases e:vV k r with
    |none=>rfl
    |some j=>rw[e]at h';cases h'
   rw[cw.mpr z,qzc]
   exact iX e
def jX(o:Obj)(xs:List V):Prop:=o.cls= .type "tuple"/\∃qy n,o.data= .seq qy n/\Vals xs qy.toList
theorem jX.s{o:Obj}(h:jX o xs)(l:K.lookup a=some o)(hz:xs.length<=sizeLine):∀H,qb K H a xs:=λH=>by
 obtain⟨c,qy,n,d,v⟩:=h
 refine .inr ⟨o,qy,n,l,c,d,?_,v⟩
 have h1:xs.length=qy.toList.length:=v.length
 have h2:qy.toList.length=qy.size:=by simp
 show qy.size<=sizeLine
 rw[<-h2,<-h1]
 exact hz
theorem FQ{K:Fg}:∀{ks:List Str}{iK:List (List Str)}{vs:List V},ks.length=iK.length->ks.length=vs.length->(∀(i:Nat)ss v,iK[i]? =some ss->vs[i]? =some v->∃tp,v= .ref tp/\∀H,qb K H tp (ss.map V.str))->
  ∀wd,((ks.zip iK).lookup wd=none/\hX wd (ks.zip vs)=none)\/∃ss tp,(ks.zip iK).lookup wd=some ss/\hX wd (ks.zip vs)=some (.ref tp)/\∀H,qb K H tp (ss.map V.str)
 |[],_,_,_,_,_,wd=>.inl ⟨rfl,rfl⟩
 |x::r,[],_,h,_,_,wd=>by simp at h
 |x::r,ss::iK,[],_,h,_,wd=>by simp at h
 |x::r,ss::iK,v::vs,h1,h2,h3,wd=>by
  show(i5 wd ((x,ss)::r.zip iK)=none/\(if decide (wd=x)=true then some v else hX wd (r.zip vs))=none)\/∃QH tp,i5 wd ((x,ss)::r.zip iK)=some QH/\(if decide (wd=x)=true then some v else hX wd (r.zip vs))=some (.ref tp)/\_
  by_cases z:wd=x
  ·subst z
   rw[vb (vw rfl)]
   obtain⟨tp,rfl,ht⟩:=h3 0 ss v rfl rfl
   exact .inr ⟨ss,tp,by simp,rfl,ht⟩
  ·rw[ke (by simp[z]),kx,kS.mpr z]
   exact FQ (by simpa using h1) (by simpa using h2) (λi QH v' e1 e2=>h3 (i+1) QH v' (by simpa using e1) (by simpa using e2)) wd
open Dt
theorem cX(h:qw K H (.tup ds) v):∃a vs,v= .ref a/\qb K H a vs/\qf K H ds vs:=by rw[qw]at h;exact h
theorem xW(h:qw K H (.str x) v):v= .str x:=by rw[qw]at h;exact h
theorem cK{x:Int}(h:qw K H (.int x) v):v= .int x:=by rw[qw]at h;exact h
theorem FZ{x:Bool}(h:qw K H (.bl x) v):v= .bl x:=by rw[qw]at h;exact h
theorem uf(x:Str):qw K H (.str x) (.str x):=by rw[qw]
theorem kY(h:qf K H [] vs):vs=[]:=by rw[qf]at h;exact h
theorem zA{d:Dt}(h:qf K H (d::ds) vs):∃v r,vs=v::r/\qw K H d v/\qf K H ds r:=by rw[qf]at h;exact h
theorem zp:qf K H [] []:=by rw[qf]
theorem zx{d:Dt}(h:qw K H d v)(g:qf K H ds vs):qf K H (d::ds) (v::vs):=by rw[qf];exact⟨v,vs,rfl,h,g⟩
theorem cV(h:qb K H a vs)(g:qf K H ds vs):qw K H (.tup ds) (.ref a):=by rw[qw];exact⟨a,vs,rfl,h,g⟩
theorem xG{d:Dt}(h:qw K H (.tup [.str x,d]) v):∃a u,v= .ref a/\qb K H a [.str x,u]/\qw K H d u:=by
 obtain⟨a,vs,rfl,hs,h⟩:=cX h
 obtain⟨v0,r,rfl,h0,h⟩:=zA h
 obtain⟨v1,r,rfl,h1,h⟩:=zA h
 cases kY h;cases xW h0
 exact⟨a,v1,rfl,hs,h1⟩
theorem nI{d e:Dt}(h:qw K H (.tup [.str x,d,e]) v):∃a u w,v= .ref a/\qb K H a [.str x,u,w]/\qw K H d u/\qw K H e w:=by
 obtain⟨a,vs,rfl,hs,h⟩:=cX h
 obtain⟨v0,r,rfl,h0,h⟩:=zA h
 obtain⟨v1,r,rfl,h1,h⟩:=zA h
 obtain⟨v2,r,rfl,h2,h⟩:=zA h
 cases kY h;cases xW h0
 exact⟨a,v1,v2,rfl,hs,h1,h2⟩
theorem gy{d e f:Dt}(h:qw K H (.tup [.str x,d,e,f]) v):∃a u w y,v= .ref a/\qb K H a [.str x,u,w,y]/\qw K H d u/\qw K H e w/\qw K H f y:=by
 obtain⟨a,vs,rfl,hs,h⟩:=cX h
 obtain⟨v0,r,rfl,h0,h⟩:=zA h
 obtain⟨v1,r,rfl,h1,h⟩:=zA h
 obtain⟨v2,r,rfl,h2,h⟩:=zA h
 obtain⟨v3,r,rfl,h3,h⟩:=zA h
 cases kY h;cases xW h0
 exact⟨a,v1,v2,v3,rfl,hs,h1,h2,h3⟩
theorem QR{d e f g i:Dt}(h:qw K H (.tup [.str x,d,e,f,g,i]) v):∃a u w y z t,v= .ref a/\qb K H a [.str x,u,w,y,z,t]/\qw K H d u/\qw K H e w/\qw K H f y/\qw K H g z/\qw K H i t:=by
 obtain⟨a,vs,rfl,hs,h⟩:=cX h
 obtain⟨v0,r,rfl,h0,h⟩:=zA h
 obtain⟨v1,r,rfl,h1,h⟩:=zA h
 obtain⟨v2,r,rfl,h2,h⟩:=zA h
 obtain⟨v3,r,rfl,h3,h⟩:=zA h
 obtain⟨v4,r,rfl,h4,h⟩:=zA h
 obtain⟨v5,r,rfl,h5,h⟩:=zA h
 cases kY h;cases xW h0
 exact⟨a,v1,v2,v3,v4,v5,rfl,hs,h1,h2,h3,h4,h5⟩
theorem yV{d:Dt}{u:V}(hs:qb K H a [.str x,u])(h1:qw K H d u):qw K H (.tup [.str x,d]) (.ref a):=cV hs (zx (uf x) (zx h1 zp))
theorem Kl{d e:Dt}{u w:V}(hs:qb K H a [.str x,u,w])(h1:qw K H d u)(h2:qw K H e w):qw K H (.tup [.str x,d,e]) (.ref a):=cV hs (zx (uf x) (zx h1 (zx h2 zp)))
def jt(K:Fg)(H H':Hp):Prop:=∀a xs,qb K H a xs->qb K H' a xs
mutual
theorem qw.zb(e:jt K H H'):∀{d:Dt}{v:V},qw K H d v->qw K H' d v
 | .qd,v,h=>by rw[qw]at h⊢;exact h
 | .bl _,v,h=>by rw[qw]at h⊢;exact h
 | .int _,v,h=>by rw[qw]at h⊢;exact h
 | .str _,v,h=>by rw[qw]at h⊢;exact h
 | .tup ds,v,h=>by
  rw[qw]at h⊢
  obtain⟨a,vs,e1,h1,h2⟩:=h
  exact⟨a,vs,e1,e a vs h1,qf.zb e h2⟩
theorem qf.zb(e:jt K H H'):∀{ds:List Dt}{vs:List V},qf K H ds vs->qf K H' ds vs
 |[],vs,h=>by rw[qf]at h⊢;exact h
 |d::ds,vs,h=>by
  rw[qf]at h⊢
  obtain⟨v,r,e1,h1,h2⟩:=h
  exact⟨v,r,e1,qw.zb e h1,qf.zb e h2⟩
end
structure qS(a:jp)(H H':Hp):Prop where
 keep:∀b o,b≠a->H b=some o->H' b=some o
 none:∀b,H' b=Option.none->H b=Option.none
theorem qS.refl(a:jp)(H:Hp):qS a H H:=⟨λ_ _ _ e=>e,λ_ e=>e⟩
theorem qS.trans(x:qS a H H1)(y:qS a H1 H2):qS a H H2:=⟨λb o hb e=>y.keep b o hb (x.keep b o hb e),λb e=>x.none b (y.none b e)⟩
theorem qv.b{a:jp}{H H':Hp}(g:qv H H'):qS a H H':=⟨λb o _ e=>g.same b o e,g.none⟩
theorem qS.set(g:qS a H H'){u:HO}(hu:H a=some u):qS a H (upd H' a o):=
 ⟨λb p hb e=>(qm hb).trans (g.keep b p hb e),λb e=>by
  by_cases z:b=a
  ·subst z;rw[qu]at e;cases e
  ·rw[qm z]at e;exact g.none b e⟩
theorem qS.jv{ps:List V}(g:qS a H H')(h:H a=some (.lst ps)):jt K H H':=λb xs hb=>by
 rcases hb with(hb|⟨o,hb⟩)|hb
 ·exact .inl (.inl (g.keep b _ (j9 hb h (by intro z;cases z)) hb))
 ·exact .inl (.inr ⟨o,g.keep b _ (j9 hb h (by intro z;cases z)) hb⟩)
 ·exact .inr hb
theorem qS.QS(g:qv H H1)(x:qS a H1 H2)(h:H a=Option.none):qv H H2:=⟨λb o e=>x.keep b o (zM e h) (g.same b o e),λb e=>g.none b (x.none b e)⟩
def Kn(P:cv)(w:fe)(K:Fg)(mg:Str->Option zt)(base:ll)(k:Nat)(x:Str)(ps:List Str)(sp:Sp):Prop:=
 ∃f fd,∅ k f fd ps sp/\mg x=some (.ref f)/\PySem.W.keepIn K (.ref f)=true/\Binds K fd ps []
section
variable {k:Nat} {p:Pos}
theorem zw(G:Kn X.prog X.w X.K X.mg X.base k x ps sp)(hr:z7 k X.A)(ha:PA X (e::es) t)(hg:Gl X x:=by rfl)
  (jw:(x==("__debug__":Str))=false:=by decide)(he:ky (e::es) X.env=(false,eval e X.env)::ky es X.env:=by rfl)(qH:(gN pos (ky es X.env)).any (·.1)=false:=by rfl):
  PE X (.Call (.Name x p) (e::es) [] pos) (yR sp [] E0 t):=by
 obtain⟨f,fd,F,m,kp,b⟩:=G
 exact f9 F hr hg m kp b .nil z8 ha jw he qH
theorem qwy:i6 X "list.index" (λx xs H Q=>∃(p:jp)(ys:List V)(xv:V)(d:Dt)(ds:List Dt),x= .ref p/\xs=[xv]/\qp X.K H p ys/\qw X.K H d xv/\qf X.K H ds ys/\X.A.units+1+j7 ds<eI/\QO d ds=true/\
  ∀(j:Nat)(e:Dt),ds[j]? =some e->zU e d=true->Q (.int j) H):=by
 intro pins s σ H x xs v us Q I rx rs h
 obtain⟨p,ys,xv,d,ds,rfl,rfl,hq,hd,xw,hu,Kg,q⟩:=h
 cases rx
 obtain⟨u,rfl,e⟩:=vals1 rs
 obtain⟨qy,rv,⟨⟨cls,dd,data,sl⟩,n,ho,hc,FJ,FW⟩,hz⟩:=I.list hq
 simp only at hc FJ FW
 subst hc FJ FW
 obtain⟨f,hf,hm⟩:=any_eq I X.A.in1 d xv u hd e xw rv (by show X.A.units+1+j7 ds<eI;exact hu)
 have hl:qy.length=ds.length:=by rw[<-rv.length,xw.length]
 have qwu:qy.any f=true:=by
  rw[any_map',hm,<-any_map']
  exact Kg
 have hj:qy.findIdx f<qy.length:=List.findIdx_lt_length_of_exists (by simpa using qwu)
 have hit:f qy[qy.findIdx f]=true:=List.findIdx_getElem
 have lH:∀m(hm:m<qy.length),m<qy.findIdx f->f qy[m]=false:=λm _ h=>by
  have :=List.not_of_lt_findIdx h
  simpa using this
 refine Kj PySem.F.slot_list_index ⟨_,ho,rfl⟩ PySem.F.entry_list_index (PySem.F.args_list_index_2 _ _) (SeqAt.list_indexAt p qy.toArray n none sl u f (qy.findIdx f) (by simpa using hj) ?_ (by simpa using hit) (λm hm h=>by simpa using lH m (by simpa using hm) h)) ⟨ho,λy hy=>hf y (by simpa using hy),?_⟩
 ·have :=rv.length
  have :qy.length<=sizeLine:=by lia
  rw[xt]at this
  lia
 ·refine⟨.int _,H,I.tok _,⟨_,rfl⟩,?_⟩
  have FY:qy.findIdx f<ds.length:=by lia
  refine q _ _ (jm FY) ?_
  have :=ag (λl=>l[qy.findIdx f]?) hm
  simp only[xH,jm hj,jm FY,b0]at this
  rw[<-xb this]
  exact hit
end
theorem FU{D:jp}{R:Hp->Prop}(Pv:Nat->List V->Hp->Prop)(h0:Pv 0 [] (upd H D (.lst [])))(hx:∀i ys H',i<=xs.length->Pv i ys H'->qp K H' a xs)(he:∀i x ys H',xs[i]? =some x->Pv i ys H'->∀Q':VK,(∀y H6,H6 D=some (.lst ys)->ys.length<sizeLine->Pv (i+1) (ys++[y]) (upd H6 D (.lst (ys++[y])))->Q' y H6)->te (jR ix [some x] σ) H' Q')(q:∀ys H',Pv xs.length ys H'->R H'):
  ∃W:Nat->Nat->List V->Hp->Prop,(∃m,W 0 m [] (upd H D (.lst [])))/\∀i m ys H2,W i m ys H2->
   ((iT K a).stop i H2/\R H2)\/((iT K a).go i H2/\∀(o:List (Option V))v H3,o.length=1->(iT K a).vZ i H2 v H3->xF 0 v (jR ix o σ) H3 λσ2 H4=>(∃o':List (Option V),σ2=jR ix o' σ/\o'.length=1)/\
    wK none σ2 H4 λb H5=>if b=true then te σ2 H5 λy H6=>H6 D=some (.lst ys)/\ys.length<sizeLine/\∃m',m'<m/\W (i+1) m' (ys++[y]) (upd H6 D (.lst (ys++[y])))else∃m',m'<m/\W (i+1) m' ys H5):=by
 refine⟨λi m ys H2=>i<=xs.length/\m=xs.length-i/\Pv i ys H2,⟨_,io _,rfl,h0⟩,?_⟩
 rintro i m ys H2 ⟨hi,rfl,p⟩
 have xh:=hx i ys H2 hi p
 by_cases hl:i<xs.length
 ·refine .inr ⟨⟨xs,xs[i],xh,jm hl⟩,λo v H3 ho hy=>?_⟩
  obtain⟨rfl,hv⟩:=hy
  have yh:=hv xs xh
  match o,ho with
  |[_],_=>
   refine⟨⟨[some v],rfl,rfl⟩,?_⟩
   dsimp only[wK]
   exact zY (he i v ys _ yh p _ λy H6 e1 e2 p'=>⟨e1,e2,xs.length-(i+1),by lia,hl,rfl,p'⟩)
 ·have e:i=xs.length:=by lia
  subst e
  exact .inl ⟨⟨xs,xh,qL _⟩,q _ _ p⟩
section
variable {E:zt->zr->Prop} {s:zr}
theorem qwo{self:zt}(hl:cp (.type T) "__init__"=pure (some (.builtin "object.__init__")))(hm:Bind.madeBy (.type T)=pure (some newId))(jP:(some newId !=some "object.__new__")=true):
  Meets (X1.«object.__init__» ⟨self::rest,kw⟩) (λ_ R s=>s.TypeIs self T/\R (.ok (.ret .none)) s):=by
 refine Meets.of_wp λprog w A R s hs=>?_
 obtain⟨hT,hq⟩:=hs
 cases rest with
 |nil=>
  cases kw with
  |nil=>exact xk ⟨_,rfl,hq⟩
  |cons p q=>
   repeat (any_goals (first|assumption|wp_step))
   exact⟨_,rfl,hq⟩
 |cons a rest=>
  repeat (any_goals (first|assumption|wp_step))
  exact⟨_,rfl,hq⟩
theorem qwi{Bn:X1}{args:List zt}{S:PySem.Spec}{Q:zt->zr->Prop}(ft:TypeCalled T newId "object.__init__")(jP:(some newId !=some "object.__new__")=true)(hct:checkTypeCall T ⟨args,kw⟩=pure ())(FI:dq newId ⟨.type T::args,kw⟩=pure ())(qt:∀obj,argsOk "object.__init__" ⟨obj::args,kw⟩)(qwc:entryFor table newId=some Bn)(g:Meets (Bn ⟨.type T::args,kw⟩) S)(h:S A.in1 (wants (λobj s₁=>s₁.TypeIs obj T/\Q obj s₁) E) s):xI (vk prog w) A (call (.type T) args kw) Q E s:=by
 obtain⟨c,tl,qpz⟩:=ft.mro
 have qpj:=ft.made
 have Fv:=ft.sub
 refine sx (codeAny_of_tree ?_)
 show xI _ _ (callAny (.type T) _) _ _ _
 refine xk ⟨Oy _ (by ext),codeAny_builtin PySem.F.entry_type_call ?_⟩
 rw[Around.under_plain (weight_type_call_type T args kw) (units_type_call_type T args kw)]
 have h1:=ft.notType
 have h2:=ft.canCreate
 repeat (any_goals (first|assumption|wp_step))
 refine dE (hZ ft.plain qwc (wpAny_of_eq FI (g prog w A.in1 _ s h))) λr s₁ hr=>?_
 cases r with
 |error e=>exact hr
 |ok fl=>
  cases fl with
  |ret obj=>
   obtain⟨hT,hq⟩:=hr
   have FG:=ft.init.lookup
   have hbi:=ft.init.bind obj
   repeat (any_goals (first|assumption|wp_step))
   refine dE (hZ ft.init.plain PySem.F.entry_object_init (ft.init.check _ _ _ _ _ _ _ _ hT (qt obj) (qwo ft.init.lookup ft.made jP prog w A.in1 (wants (λr s₂=>r= .none/\Q obj s₂) E) s₁ ⟨hT,rfl,hq⟩))) λr₂ s₂ Km=>?_
   cases r₂ with
   |error e=>exact Km
   |ok fl₂=>
    cases fl₂ with
    |ret r=>
     obtain⟨rfl,hq⟩:=Km
     repeat (any_goals (first|assumption|wp_step))
    |_=>exact Km.elim
  |_=>exact hr.elim
theorem qwl(l:jp)(items:Array zt)(n:Nat)(gu:Option jp)(sl:Array (Option zt))(t:Tok):
  Meets (X1.«enumerate.__new__» ⟨[.type "enumerate",.ref l],[("start",.int 1 t)]⟩) (λ_ R s=>s.heap.get? l=some {cls:=.type "list",dict:=gu,data:=.seq items n,slots:=sl}/\
   R (.ok (.ret (.ref (s.heap.push {cls:=.type "list_iterator",data:=.fields #[.ref l,.int 0 0]}).objs.size)))
    {s with heap:=(s.heap.push {cls:=.type "list_iterator",data:=.fields #[.ref l,.int 0 0]}).push {cls:=.type "enumerate",data:=.fields #[.none,.bool false,.ref (~~~s),ro 1,.none,.none]}}):=
 .of_wp λprog w A R s h=>by
  obtain⟨hp,g,d,tk,os⟩:=s;obtain⟨hl,h⟩:=h
  have Fv:=sub_enumerate
  have hL:Heap.IsList (qzK ⟨hp,g,d,tk,os⟩) l items:=⟨_,hl,rfl,n,rfl⟩
  wp_walk using lh hl
  refine wpAny_stack_any λst=>xk ?_
  split
  ·rename_i c _ _ _ _ _
   cases (c==Value.type "enumerate")
   ·wp_walk using lh hl,Ki hL
    exact⟨_,rfl,h⟩
   ·wp_walk using lh hl,Ki hL
    exact⟨_,rfl,h⟩
  ·wp_walk using lh hl,Ki hL
   exact⟨_,rfl,h⟩
theorem qwg(a b:zt):checkTypeCall "enumerate" ⟨[a],[("start",b)]⟩=pure ():=by kernel_rfl
theorem qwm(a b:zt):dq "enumerate.__new__" ⟨[.type "enumerate",a],[("start",b)]⟩=pure ():=by kernel_rfl
theorem qwn(a b c:zt):argsOk "object.__init__" ⟨[a,b],[("start",c)]⟩:=by
 unfold argsOk;rw[signature?_of (id:="object.__init__") (n:=['_','_','t','i','n','i','_','_']) (o:=['t','c','e','j','b','o']) (by kernel_rfl) PySem.F.owner_object];kernel_rfl
theorem qwb{items:Array zt}{t:Tok}{Q:zt->zr->Prop}(hL:s.heap.IsList l items)(h:∀h',IsEnum h' ((~~~s)+1) (~~~s) 1 .none->h'.IsListIter (~~~s) l 0->
   (∀b o,s.heap.get? b=some o->h'.get? b=some o)->Q (.ref ((~~~s)+1)) {s with heap:=h'}):
  xI (vk prog w) A (call (.type "enumerate") [.ref l] [("start",.int 1 t)]) Q E s:=by
 obtain⟨⟨c,gu,dt,sl⟩,hl,hc,n,hd⟩:=hL
 replace hc:c= .type "list":=hc
 replace hd:dt= .seq items n:=hd
 subst hc hd
 refine qwi PySem.F.called_enumerate (by decide) (qwg _ _) (qwm _ _) (λobj=>qwn obj _ _) PySem.F.entry_enumerate_new
  (qwl l items n gu sl t) ⟨hl,?_⟩
 have hz:(s.heap.push {cls:=.type "list_iterator",data:=.fields #[.ref l,.int 0 0]}).objs.size=(~~~s)+1:=ik ..
 show _/\_
 rw[hz]
 have he:IsEnum ((s.heap.push {cls:=.type "list_iterator",data:=.fields #[.ref l,.int 0 0]}).push
   {cls:=.type "enumerate",data:=.fields #[.none,.bool false,.ref (~~~s),ro 1,.none,.none]}) ((~~~s)+1) (~~~s) 1 .none:=by
  have :=jg (s.heap.push {cls:=.type "list_iterator",data:=.fields #[.ref l,.int 0 0]})
   (o:={cls:=.type "enumerate",data:=.fields #[.none,.bool false,.ref (~~~s),ro 1,.none,.none]}) rfl
  rw[hz]at this;exact this
 exact⟨⟨_,he,rfl⟩,h _ he ⟨_,qF _ (jg _ rfl),rfl,rfl⟩ λb o x=>qF _ (qF _ x)⟩
theorem qwd(hh:A.handled=none)(it l:jp)(jP:l≠it)(items:Array zt):
  Draws prog w A it [it,l] (items.size+1) (λi v=>∃j,i=j+1/\items[j]? =some v) (λi h=>∃j,i=j+1/\h.IsListIter it l j/\h.IsList l items):=by
 have D:=Draws.list (prog:=prog) (w:=w) hh it l jP items
 exact {
  live:=λi h⟨j,_,st⟩=>D.live j h st
  frame:=λi h h'⟨j,e,st⟩hk=>⟨j,e,D.frame j h h' st hk⟩
  item:=λi s Q E hi⟨j,e,st⟩hQ=>D.item j s Q E (by lia) st λx h' tk p vL sb=>hQ x h' tk ⟨j,e,p⟩ ⟨j+1,by lia,vL⟩ sb
  done:=λs Q E⟨j,e,st⟩hE=>D.done s Q E (by have :j=items.size:=(by lia);exact this▸st) hE}
theorem qwf(hh:A.handled=none)(it l:jp)(items:Array zt)(i:Nat)(hi:items[i]? =none):
  Draws prog w A it [it,l] (i+1) (λ_ _=>False) (λk h=>k=i+1/\h.IsListIter it l i/\h.IsList l items)where
 live:=λ_ _ st=>let⟨o,ho,_⟩:=st.2.1;⟨o,ho⟩
 frame:=λ_ _ _ st hk=>⟨st.1,st.2.1.at λo e=>hk it (by simp) o e,st.2.2.at λo e=>hk l (by simp) o e⟩
 item:=λk s Q E hk st hQ=>by have :=st.1;lia
 done:=λs Q E st hE=>wpAny_nextOf_list_end hh st.2.1 st.2.2 hi hE
end
section
variable {E:zt->zr->Prop} {s:zr}
theorem qwh{rest:List hU}{lM:List Keyword}{Q:zt->zr->Prop}(h:xI M A (spliced (gN pos (ky (e::rest) env))) (λvs s₁=>xI M A (evalAll ((ac pos (gd lM env)).map (·.2)))
   (λkvs s₂=>xI M A (call (.type T) vs (((ac pos (gd lM env)).filterMap (·.1)).zip kvs)) Q E s₂) E s₁) E s)(he:gN pos (ky (e::rest) env)=(false,eval e env)::gN pos (ky rest env):=by rfl)(pW:(gN pos (ky (e::rest) env)).any (·.1)=false:=by rfl)(uS:(ac pos (gd lM env)).all (·.1.isSome)=true:=by rfl)(hkw:(ac pos (gd lM env)).any (·.1.isNone)=false:=by rfl):
  xI M A (Pl pos (.type T) [] (gN pos (ky (e::rest) env)) (ac pos (gd lM env))) Q E s:=by
 have h2:xI M A (evalArgs (.type T) true (gN pos (ky (e::rest) env)) (ac pos (gd lM env))) (λa s₁=>xI M A (call (.type T) ([]++a.pos) a.kw) Q E s₁) E s:=by
  rw[he]at h⊢
  exact evalArgs_kwB uS h
 unfold Pl
 refine qr (mm (wb h2 (λa s₁ h₁=>qr (Pm ?_)) λ_ _ x=>x))
 simp only[pW,hkw,Ta]
 refine qr (xk ?_)
 exact qr (wb h₁ (λr s₂ hr=>qr (mm (wpAny_point (xk hr)))) λ_ _ x=>x)
end
def rD(K:Fg)(l:jp):It:=⟨λi H=>∃xs x,qp K H l xs/\xs[i]? =some x,
 λi H v H'=>∃T x,H T=none/\v= .ref T/\H'=upd H T (.tup [.int (i+1:Nat),x])/\∀ys,qp K H l ys->ys[i]? =some x,
 λi H=>∃xs,qp K H l xs/\xs.length<=i⟩
theorem qwr{k0}(l e it:jp)(ne:e≠it):Turn P w K (.Tuple es k0 pos) (rD K l) [e,it] e (λi h=>(∃old,IsEnum h e it (i+1:Nat) old)/\h.IsListIter it l i)where
 mem:=by simp
 obj:=λi h st b hb=>by
  obtain⟨⟨old,e1⟩,o,e2,c2,d2⟩:=st
  rcases js.mp hb with z|z
  ·rw[z];exact⟨_,e1,λv z=>by cases z⟩
  ·rw[xX.mp z];exact⟨o,e2,λv z=>by rw[d2]at z;cases z⟩
 keep:=λi h h' st k=>⟨st.1.imp λold q=>k e (by simp) _ q,st.2.at λo q=>k it (by simp) o q⟩
 item:=by
  intro X hP hw hK hc i pins s σ H E I hf st hg
  subst hP hw hK
  obtain⟨xs,x,hq,hx⟩:=hg
  obtain⟨qy,rv,p,hz⟩:=I.list hq
  obtain⟨⟨old,e1⟩,e2⟩:=st
  have pL:=p.isList
  have FG:l≠it:=by
   obtain⟨o,q,c,_⟩:=e2
   obtain⟨o',q',c',_⟩:=pL
   intro z;subst z
   rw[q]at q';cases q';rw[c]at c';exact absurd (qzB c') (by decide)
  have hle:e≠l:=by
   obtain⟨o',q',c',_⟩:=pL
   intro z;subst z
   rw[e1]at q';cases q';exact absurd (qzB c') (by decide)
  have hlen:i<qy.length:=by
   have :=rv.length
   rcases Ha i xs.length with h|h
   ·lia
   ·rw[la h]at hx;cases hx
  refine wpAny_pyNext_enum_itemD (qwd (A:=X.A.in1) (I.ok.hd hc) it l FG qy.toArray) e1 ⟨i,rfl,e2,p.isList⟩ (by simp;exact hlen) ne (by simp;exact⟨ne,hle⟩) λu h1 tk⟨j,ej,hu⟩o1 i1 t1 z1 k1=>⟨_,rfl,qzY o1 λh2 o2 b2=>?_⟩
  have ej':j=i:=by lia
  subst ej'
  obtain⟨j2,ej2,i1,_⟩:=i1
  have qwt:j2=j+1:=by lia
  subst qwt
  obtain⟨u',jr,ru⟩:=rv.get hx
  have eu:u'=u:=by
   have :qy[j]? =some u:=by simpa using hu
   rw[jr]at this;exact xb this
  subst eu
  have e3:e≠(~~~s):=QI e1
  have e4:it≠(~~~s):=by obtain⟨o,q,_⟩:=e2;exact QI q
  have nT:H (~~~s)=none:=I.qt.fresh (qL _)
  have t2:h2.get? (~~~s)=some {cls:=.type "tuple",data:=.seq #[.int (j+1:Nat) tk,u']}:=(b2.2 _ (y7 e3)).trans t1
  have I1:Inv X pins σ (upd H (~~~s) (.tup [.int (j+1:Nat),x])) {s with heap:=s.heap.push {cls:=.type "tuple",data:=.seq #[.int (j+1:Nat) tk,u']},toks:=tk+1}:=
   I.laid (λb v q=>qF _ q) (qL _) ⟨by show 2<=sizeLine;decide,[.int (j+1:Nat) tk,u'],.cons ⟨_,rfl⟩ (.cons ru .nil),⟨_,jg _ rfl,rfl,_,rfl⟩⟩
  have I2:Inv X pins σ (upd H (~~~s) (.tup [.int (j+1:Nat),x])) {s with heap:=h2,toks:=tk+1}:=by
   refine Inv.cu (s:={s with heap:=s.heap.push {cls:=.type "tuple",data:=.seq #[.int (j+1:Nat) tk,u']},toks:=tk+1}) (ch:=[e,it]) (t':=tk+1) I1 (λb o hb q=>?_) λb hb=>?_
   ·have b1:b≠e:=λz=>hb (by simp[z])
    have b3:b≠it:=λz=>hb (by simp[z])
    by_cases bT:b=(~~~s)
    ·subst bT
     have z:(s.heap.push {cls:=.type "tuple",data:=.seq #[.int (j+1:Nat) tk,u']}).get? (~~~s)=some _:=jg _ rfl
     rw[z]at q
     exact t2.trans q
    ·have q':s.heap.get? b=some o:=by rw[<-q];exact(qqk _ _ _ bT).symm
     exact(b2.2 b b1).trans (k1 b o b1 b3 q')
   ·obtain⟨f0,f1⟩:=hf b hb
    refine⟨?_,f1⟩
    rw[qm ?_]
    ·exact f0
    ·rcases js.mp hb with z|z
     ·rw[z];exact e3
     ·rw[xX.mp z];exact e4
  refine⟨.ref (~~~s),_,I2,rfl,⟨(~~~s),x,nT,rfl,rfl,λys hy=>by rw[I.JK hy hq];exact hx⟩,⟨⟨u',by simpa using o2⟩,i1.at λo q=>(b2.2 it (y7 ne)).trans q⟩,λb hb=>?_⟩
  rw[qm ?_]
  ·exact(hf b hb).1
  ·rcases js.mp hb with z|z
   ·rw[z];exact e3
   ·rw[xX.mp z];exact e4
 done:=by
  intro X hP hw hK hc i pins s σ H E I hf st hg
  subst hP hw hK
  obtain⟨xs,hq,hx⟩:=hg
  obtain⟨qy,rv,p,hz⟩:=I.list hq
  have hl:=rv.length
  obtain⟨⟨old,e1⟩,e2⟩:=st
  exact wpAny_pyNext_enum_endD (qwf (A:=X.A.in1) (I.ok.hd hc) it l qy.toArray i (by simp;lia)) e1 ⟨rfl,e2,p.isList⟩ λh' eb=>⟨rfl,I.cu (t':=s.toks) (ch:=[e,it]) (λb o hb q=>eb b o (λz=>hb (by simp[z])) q) hf⟩
 self:=λ_ _ _ _ _ st h=>let⟨⟨_,e1⟩,_⟩:=st;Fh e1 h
def qwa(K:Fg)(ta:TA):TI:=λσ H R=>ta σ H λvs H1=>∃l,vs=[.ref l]/\(∃xs,qp K H1 l xs)/\R (rD K l) H1
theorem qwe{a:hU}{ta:TA}{p p2 kp p3:Pos}{k0}(hg:Gl X "enumerate")(hm:X.mg "enumerate"=none)(ha:PA X [a] ta)(he:gN pos (ky [a] X.env)=[(false,eval a X.env)]:=by rfl)(hk:eval (.Call (.Name "enumerate" p) [a] [⟨some "start",.Constant (.int 1) j p3,kp⟩] pos) X.env=(do Pl pos (<-eval (.Name "enumerate" p) X.env) [] (gN pos (ky [a] X.env)) (ac pos (gd [⟨some "start",.Constant (.int 1) j p3,kp⟩] X.env))):=by rfl):
  PI X (.Tuple es k0 p2) (.Call (.Name "enumerate" p) [a] [⟨some "start",.Constant (.int 1) j p3,kp⟩] pos) (qwa X.K ta):=by
 intro pins s σ H R I h
 rw[hk]
 refine qr (oF I hg hm boot_enumerate (qwh (qX (ha pos pins s σ H _ I h) λus s1⟨vs,H1,I1,r1,q1⟩=>?_) he (by rw[he];rfl)))
 obtain⟨l,rfl,⟨xs,hq⟩,q⟩:=q1
 obtain⟨u,rfl,ru⟩:=vals1 r1
 cases ru
 refine kws_cons (wpAny_Constant_int (kws_nil ?_))
 have I2:=I1.tok (s1.toks+1)
 obtain⟨qy,rv,pl,hz⟩:=I2.list hq
 refine qwb pl.isList λh' e1 e2 kp=>Fh e1 ?_
 refine⟨_,[(~~~s1)+1,(~~~s1)],_,_,H1,rfl,I2.kept (t':=s1.toks+1) kp,qwr l _ _ (Nat.succ_ne_self _),⟨⟨_,e1⟩,e2⟩,λb hb=>?_,q⟩
 have jE:(~~~s1)<=b:=by
  rcases js.mp hb with z|z
  ·rw[z];exact eA _
  ·rw[xX.mp z];exact qL _
 exact I1.yH jE (I1.qt.fresh jE)
theorem qwQ{g:TG}{tb:TS}(Pv:Nat->St->Hp->Prop)(h0:Pv 0 σ H)(hl:∀i σ H,i<=xs.length->Pv i σ H->qp K H l xs)(hs:∀i x T σ H,xs[i]? =some x->Pv i σ H->H T=none->g (.ref T) σ (upd H T (.tup [.int (i+1:Nat),x])) λσ2 H2=>tb {D with nx:=Pv (i+1),ct:=Pv (i+1),bk:=D.nx} σ2 H2)(hd:∀σ H,Pv xs.length σ H->D.nx σ H):
  ∃W:Nat->Nat->St->Hp->Prop,(∃m,W 0 m σ H)/\∀i m σ H,W i m σ H->
   ((rD K l).stop i H/\D.nx σ H)\/((rD K l).go i H/\∃N:St->Hp->Prop,(∀σ' H',N σ' H'->∃m',m'<m/\W (i+1) m' σ' H')/\∀x H',(rD K l).vZ i H x H'->g x σ H' λσ2 H2=>tb {D with nx:=N,ct:=N,bk:=D.nx} σ2 H2):=by
 refine⟨λi m σ H=>m=xs.length-i/\i<=xs.length/\Pv i σ H,⟨xs.length,by simp,io _,h0⟩,?_⟩
 rintro i m σ H ⟨rfl,hi,p⟩
 have q:=hl i σ H hi p
 by_cases jM:i<xs.length
 ·refine .inr ⟨⟨xs,xs[i],q,jm jM⟩,Pv (i+1),λσ' H' p'=>⟨xs.length-(i+1),by lia,rfl,jM,p'⟩,λx H' y=>?_⟩
  obtain⟨T,z,hT,rfl,rfl,hz⟩:=y
  exact hs i z T σ H (hz xs q) p hT
 ·have e:i=xs.length:=by lia
  subst e
  exact .inl ⟨⟨xs,q,qL _⟩,hd σ H p⟩
theorem qwZ{k:Key}(h:(xY P w).is k u=true):RelV (kV k) u:=by
 rw[qjj]at h
 cases k with
 |inl i=>obtain⟨t,rfl⟩:=Value.isInt_shape h;exact⟨t,rfl⟩
 |inr x=>obtain⟨t,rfl⟩:=qzN h;exact⟨t,rfl⟩
theorem qwJ{vs:List (Key×zt)}(r:KV kvs vs):∀{us:List zt},us.length=vs.length->(∀(j:Nat)u,us[j]? =some u->∃k x,vs[j]? =some (k,x)/\(xY P w).is k u=true)->Vals (kvs.map λp=>kV p.1) us:=by
 induction r with
 |nil=>
  intro us hl _
  cases us with
  |nil=>exact .nil
  |cons _ _=>simp at hl
 |cons e _ ih=>
  intro us hl h
  cases us with
  |nil=>simp at hl
  |cons u us=>
   obtain⟨k,x,h1,h2⟩:=h 0 u rfl
   have wY:=xb h1
   refine .cons ?_ (ih (by simpa using hl) λj v hv=>h (j+1) v (by simpa using hv))
   have e1:=e.1
   rw[wY]at e1
   show RelV (kV _) u
   rw[e1]
   exact qwZ h2
theorem qwX(hc:X.calm=true):vG X (.type "list") (λxs H Q=>∃a kvs,xs=[V.ref a]/\H a=some (.dK kvs)/\∀l,H l=none->Q (.ref l) (upd H l (.lst (kvs.map λp=>kV p.1)))):=by
 intro pins s σ H xs us Q I r h
 obtain⟨a,kvs,rfl,ha,q⟩:=h
 obtain⟨u,rfl,rx⟩:=vals1 r
 cases rx
 obtain⟨hz,lo,vs,rv,hD⟩:kvs.length<=sizeLine/\(a==ul)=false/\∃vs,KV kvs vs/\s.heap.DictOf (xY X.prog X.w) a vs:=I.qt a _ ha
 obtain⟨ep,hat⟩:=hD.dictAt
 have hl:kvs.length=vs.length:=Paired.length rv
 refine PySem.W.kdl_call (PySem.W.kdl_dict (knd:=xY X.prog X.w) (kvs:=vs) (ep:=ep) lo) (I.ok.hd hc) hat (by lia) λh' tk acc c kp e FD=>?_
 refine⟨.ref (~~~s),_,I.laid (t':=tk) kp (qL _) (show jW X.prog X.w _ h' _ (.lst (kvs.map λp=>kV p.1))from⟨by simpa using hz,acc.toList,c,qwJ rv (by rw[ax];exact FD.1) (λj u hu=>FD.2 j u (by rw[<-Fm];exact hu)),by simpa using e⟩),rfl,q _ (I.qt.fresh (qL _))⟩
theorem qwV(l:jp)(items:Array zt)(n:Nat)(b:jp)(rF:Array zt)(n2:Nat)(gu:Option jp)(sl:Array (Option zt))(hs0:¬(!items.isEmpty&&mI (items.size+rF.size))=true)(yj:items.size<=sizeLine)(kJ:items.size+rF.size<=sizeLine+1):
  Meets (X1.«list.extend» ⟨[.ref l,.ref b],[]⟩) (λ_ R s=>s.heap.get? l=some {cls:=.type "list",dict:=none,data:=.seq items n,slots:= #[]}/\s.heap.get? b=some {cls:=.type "tuple",dict:=gu,data:=.seq rF n2,slots:=sl}/\R (.ok (.ret Value.none)) {s with heap:=s.heap.update l (PQ λx=>x++rF),toks:=s.toks}):=
 .of_wp λprog w A R s h=>by
  obtain⟨hp,g,d,tk,os⟩:=s;obtain⟨hl,hb,h⟩:=h;have f2:=AutoSeq1.sub_tuple_tuple;have f3:=AutoSeq1.sub_list_list;have f4:=AutoSeq1.sub_tuple_list;have f5:=AutoSeq1.sub_list_tuple
  have cW:(items++rF).size<=sizeLine+1:=by rw[Array.size_append];exact kJ
  wp_walk using(PySem.wpAny_updateSeq hl rfl (hz:=yj) (_hz':=cW)),lh hl,lh hb;exact⟨_,rfl,h⟩
inductive qwW(K:Fg)(x:V)(vs:List V)(H:Hp)(Q:VK):Prop
 |mk (l:_) (b:_) (xs:_) (zs:_) (qQ:x= .ref l) (qZ:vs=[.ref b]) (qV:H l=some (.lst xs)) (qG:qb K H b zs) (zm:xs.length+zs.length<=sizeLine) (je:Q .qd (upd H l (.lst (xs++zs))))
def qwY(K:Fg):V->List V->Hp->VK->Prop:=λx vs H Q=>qwW K x vs H Q
theorem qwU:Qg X "list.extend" (qwY X.K):=by
 intro pins s σ H x vs v us Q I rx rv h
 obtain⟨l,b,xs,zs,rfl,rfl,hH,hB,hz,q⟩:=h
 cases rx
 obtain⟨u,rfl,ru⟩:=rv.one
 cases ru
 obtain⟨z,qy,n,r,hl,e⟩:=I.lR hH
 obtain⟨xf,r2,⟨⟨cls,gu,data,sl⟩,e2,xQ,n2,hd2⟩,z2⟩:=I.tuple hB
 simp only at xQ hd2
 subst xQ hd2
 have vo:=r2.length
 have hsz:qy.toArray.size+xf.toArray.size<=sizeLine:=by rw[jd,jd];lia
 have Xu:¬(!qy.toArray.isEmpty&&mI (qy.toArray.size+xf.toArray.size))=true:=by
  rw[BO hsz,qqP]
  exact kf
 refine Kj F.slot_list_extend ⟨_,e,rfl⟩ F.entry_list_extend (F.args_list_extend_2 _ _)
  (qwV l qy.toArray n b xf.toArray n2 gu sl Xu (by rw[jd];lia) (by lia)) ⟨e,e2,?_⟩
 refine⟨.qd,_,I.Qm (its':=qy++xf) hH e (by simp) (r.append r2) ?_,rfl,q⟩
 rw[va]
 lia
theorem qwO{D:jp}{R:Hp->Prop}(Pv:Nat->List V->Hp->Prop)(h0:Pv 0 [] (upd H D (.lst [])))(hx:∀i ys H',i<=xs.length->Pv i ys H'->qb K H' a xs)(he:∀i x ys H',xs[i]? =some x->Pv i ys H'->∀Q':VK,(∀y H6,H6 D=some (.lst ys)->ys.length<sizeLine->Pv (i+1) (ys++[y]) (upd H6 D (.lst (ys++[y])))->Q' y H6)->te (jR ix [some x] σ) H' Q')(q:∀ys H',Pv xs.length ys H'->R H'):
  ∃W:Nat->Nat->List V->Hp->Prop,(∃m,W 0 m [] (upd H D (.lst [])))/\∀i m ys H2,W i m ys H2->
   ((wm K a).stop i H2/\R H2)\/((wm K a).go i H2/\∀(o:List (Option V))v H3,o.length=1->(wm K a).vZ i H2 v H3->xF 0 v (jR ix o σ) H3 λσ2 H4=>(∃o':List (Option V),σ2=jR ix o' σ/\o'.length=1)/\
    wK none σ2 H4 λb H5=>if b=true then te σ2 H5 λy H6=>H6 D=some (.lst ys)/\ys.length<sizeLine/\∃m',m'<m/\W (i+1) m' (ys++[y]) (upd H6 D (.lst (ys++[y])))else∃m',m'<m/\W (i+1) m' ys H5):=by
 refine⟨λi m ys H2=>i<=xs.length/\m=xs.length-i/\Pv i ys H2,⟨_,io _,rfl,h0⟩,?_⟩
 rintro i m ys H2 ⟨hi,rfl,p⟩
 have xh:=hx i ys H2 hi p
 by_cases hl:i<xs.length
 ·refine .inr ⟨⟨xs,xs[i],xh,jm hl⟩,λo v H3 ho hy=>?_⟩
  obtain⟨rfl,hv⟩:=hy
  have yh:=hv xs xh
  match o,ho with
  |[_],_=>
   refine⟨⟨[some v],rfl,rfl⟩,?_⟩
   dsimp only[wK]
   exact zY (he i v ys _ yh p _ λy H6 e1 e2 p'=>⟨e1,e2,xs.length-(i+1),by lia,hl,rfl,p'⟩)
 ·have e:i=xs.length:=by lia
  subst e
  exact .inl ⟨⟨xs,xh,qL _⟩,q _ _ p⟩
section
variable {s:zr}
end
section
variable {ρ:Nat->Dt} {vs:List Nat}
end
section
variable {rest:List hU} {l l':List Ds} {k:Nat} {p:Pos} {n:Int} {b:Bool}
end
section
variable {ta':TA} {t tr:TS} {r:List cc} {es2:List hU} {l l2:List Ds} {kk k2:Nat} {p p2 p3 kK:Pos} {o a b:hU} {tc:TE} {r2:R2}
end
section
variable {ρ:Nat->Dt} {vs:List Nat} {d d2:Ds} {tr:TS} {r2:R2}
end
end L2
namespace L2
open PySem PySem.Spec PyProof.Rows PyProof
open Dt
section
variable {t tr ta:TS} {r sa:List cc} {es2 es3:List hU} {l l2 l3:List Ds} {kk k2 k3:Nat} {p p2 p3 p4:Pos} {b:hU} {r2:R2} {tc:TT}
end
section
variable {ρ:Nat->Dt} {vs:List Nat} {d d2 d3:Ds} {tr:TS} {r2:R2}
end
section
variable {rest:List hU} {t':TA} {k:Nat} {p:Pos}
end
end L2
namespace L2
open PySem PySem.Spec PySem.W PyProof.Rows PyProof
section
variable {E:zt->zr->Prop} {s:zr} {x:jp} {ox:Obj} {od:Option Obj}
end
section
variable {k:Nat} {ds:List zt} {m:Str} {p:Pos} {o:hU}
end
end L2
namespace L2
open PySem PySem.Spec PyProof.Rows PyProof
def kU(S:jp):List zt:=[.ref S,.type "ValueError",.type "Exception",.type "BaseException",.type "object"]
def cY(o:Obj)(C:jp)(bm:List zt):Prop:=∃nm q N bs sn sub ab col dd k0 k1 k2 k3 k5,o=pE nm q C N bs bm true sn sub ab col dd k0 k1 k2 k3 k5 "ValueError.__new__"
structure iV(K:Fg)(C:jp)(o:Obj):Prop where
 l:K.lookup C=some o
 sa:PySem.W.findIn K (.ref C) "__setattr__"=some (some (.builtin "object.__setattr__"))
 ga:PySem.W.findIn K (.ref C) "__getattribute__"=some (some (.builtin "BaseException.__getattribute__"))
 gh:PySem.W.findIn K (.ref C) "__getattr__"=some none
 st:PySem.W.findIn K (.ref C) "__str__"=some (some (.builtin "BaseException.__str__"))
 kp:PySem.W.keepIn K (.ref C)=true
 cl:PySem.W.findIn K (.ref C) "__class__"=some (some (.builtin "object.__class__"))
 hd:PySem.W.hasDictIn K C=true
 mr:PySem.W.mroIn K C (.type "object")=some true
theorem qwC(S C:jp)(self:zt):refuseLoop self "__setattr__" (.ref C::kU S)=pure ():=by
 unfold kU
 rw[refuseLoop_ref,refuseLoop_ref]
 rfl
theorem iV.xc{S:jp}{o:Obj}(r:iV K C o)(x:cY o C (kU S)):XC K C (kU S):=by
 obtain⟨nm,q,N,bs,sn,sub,ab,col,dd,k0,k1,k2,k3,k5,rfl⟩:=x
 exact⟨⟨nm,q,N,bs,sn,sub,ab,col,dd,k0,k1,k2,k3,k5,r.l⟩,⟨rfl,rfl,rfl,rfl⟩,rfl,qwC S C,r.sa,r.ga,r.gh,r.st,r.kp⟩
theorem qwL{b:jp}(g:qv H H1)(ha:H1 a=none)(hb:H1 b=none)(uv:a≠b):qv H (upd (upd (upd H1 a (.tup xs)) b (ze true C a none b)) b (ze false C a none b)):=
 (g.trans ((qv.put ha).trans (qv.put (by rw[qm (y7 uv)];exact hb)))).set (g.none _ hb)
def Rz(C:jp)(H:Hp)(E:XK):Prop:=∀e t H',qv H H'->H e=none->H' e=some (ze false C t none e)->E (.ref C) (some e) H'
theorem yW{E:XK}{σ:St}{s:Str}(r:Rz C H E)(g:qv H H1):XJ H E C (Du C (jQ (tC (.str s)) xx)) {nx:=λ_ _=>False,rt:=λ_ _=>False} σ H1:=
 ⟨xJ,λa b ha hb uv=>⟨b,a,none,rfl,qu,g.none _ hb,r b a _ (qwL g ha hb uv) (g.none _ hb) qu⟩⟩
section
variable {base:ll} {xM:Scope} {s0:zr} {E:XK}
variable {rest Nb:List Str}
theorem qwG{kF:List (jp×Obj)}{σ':St}{s:zr}{x:zt}(I:Inv (jc (zJ P w) P w K mg base N qual xM f cd A outer s0 H0 E) pins σ H s)(hf:∀b∈fp,xA (jc (zJ P w) P w K mg base N qual xM f cd A outer s0 H0 E) pins H b)(hp:∀b∈fp,∃ob,(b,ob)∈kF)(hx:XP (ju (jc (zJ P w) P w K mg base N qual xM f cd A outer s0 H0 E) scope cl Nb (~~~s) s H fp pins) kF σ' E x s'):
  notedBy (vk P w) (A.deeper (sg qual xM (~~~s0) f cd)) (QQ scope cl (~~~s) (sg qual xM (~~~s0) f cd)) (Fb (jc (zJ P w) P w K mg base N qual xM f cd A outer s0 H0 E) (~~~s)) x s':=by
 obtain⟨e,C,t,T,d,H',rfl,I5,he,hT,fx,⟨n1,n2⟩,hE⟩:=hx
 obtain⟨t0,t1,t2,t3,t4,t5⟩:=hT
 have FH:∀b∈fp,b≠e/\b≠T:=λb hb=>by
  obtain⟨ob,hm⟩:=hp b hb
  exact⟨n2 (b,ob) (kL _ hm),t5 (b,ob) (kL _ hm)⟩
 have hn:s.heap.get? e=none:=by
  cases r:s.heap.get? e with
  |none=>rfl
  |some o=>exact absurd rfl (FH e (n1 o r)).1
 have p5:(~~~s)<=T:=t3.elim (λz=>absurd rfl (FH T z).2) id
 have JL:=I5.dM
 obtain⟨m,hm,_⟩:=I5.loc
 have Kf:H' (~~~s)=none:=I5.free
 have lK:(~~~s)≠e:=λz=>by rw[z,he]at Kf;cases Kf
 have l5:(~~~s)<(~~~s'):=I5.lt
 have nfC:(~~~s)∉xR (sg qual xM (~~~s0) f cd::outer):=λz=>by
  obtain⟨_,o,ho,_⟩:=I.stack.mem z
  exact absurd (zu ho) (bj _)
 show xI _ _ (Fn (.ref e) (sg qual xM (~~~s0) f cd)) _ _ s'
 refine XA.B7 (base:=base) (env:=sg qual xM (~~~s0) f cd) (outer:=outer) (L:=(~~~s0)) I.ok.frames I5.vQ rfl fx λh1 T1 gi f1 k1=>?_
 have pA:((sg qual xM (~~~s0) f cd::outer).filterMap (·.frame))=xR (sg qual xM (~~~s0) f cd::outer):=rfl
 rw[pA]at k1
 have qwN:(~~~s)≠T1:=λz=>by lia
 refine⟨m,?_,λh2 kJ QD _=>?_⟩
 ·obtain⟨o,es,ep,ho,r⟩:=hm
  exact⟨o,es,ep,k1.keep _ o lK (λz=>t1 (xb z).symm) nfC ho,r⟩
 have f2:XA.j6 h2 e (.ref C) d (.ref t) (some T1) (ro (~~~s0)):=by
  obtain⟨⟨vs,sl,z1,z2⟩,tb⟩:=f1
  refine⟨⟨vs,sl,(kJ.2 e (y7 lK)).trans z1,z2⟩,λT' z=>?_⟩
  obtain⟨y1,oT,ts,y2,y3⟩:=tb T' z
  cases z
  exact⟨y1,oT,ts,(kJ.2 _ (y7 qwN)).trans y2,y3⟩
 unfold PySem.passOn
 obtain⟨⟨vs,sl,z1,z2,z3,z4⟩,_⟩:=id f2
 refine qr (oa z1 rfl z4 ?_)
 rw[ke (show¬(((some T1).elim Value.none Value.ref==Value.none)=true)from by simp)]
 refine qr (XA.BA (s:={s' with heap:=h2}) f2 λh3 f3 k2 k3=>?_)
 have old:∀b o,s.heap.get? b=some o->b≠e/\b≠T/\b≠(~~~s)/\b≠T1:=λb o q=>by
  have :=zu q
  exact⟨λz=>(by rw[z,hn]at q;cases q),λz=>bj _ (vx this (z▸p5)),λz=>bj _ (z▸this),λz=>bj _ (vx this (z▸vy (qqg l5) gi))⟩
 have K3:∀b o,b≠e->b≠T->b≠(~~~s)->b≠T1->b∉xR (sg qual xM (~~~s0) f cd::outer)->s'.heap.get? b=some o->h3.get? b=some o:=λb o a1 a2 a3 a4 a5 q=>
  k2 b o a4 ((kJ.2 b a3).trans (k1.keep b o a1 (λz=>a2 (xb z)) a5 q))
 have un:Un (xR (sg qual xM (~~~s0) f cd::outer)) fp H H' s.heap h3:=
  ⟨λb o q n hb hx=>(have z:=old b o q;K3 b o z.1 z.2.1 z.2.2.1 z.2.2.2 hb (I5.base.keep b o q n hb hx)),
   λb o q n hb hx=>(have z:=old b o q;by
    obtain⟨sl,r⟩:=I5.base.slot b o q n hb hx
    obtain⟨iR,r'⟩:=k1.slot b _ z.1 (λy=>z.2.1 (xb y)) r
    exact⟨iR,k2 b _ z.2.2.2 ((kJ.2 b z.2.2.1).trans r')⟩),
   I5.base.free,λb o q hx=>(have z:=old b o q;by
    obtain⟨o',r⟩:=I5.base.there b o q hx
    obtain⟨o2,r2⟩:=k1.there b o' r
    exact k3 b o2 ((kJ.2 b z.2.2.1).trans r2)),I5.base.jv,I5.base.vI,I5.base.wo⟩
 have qt:zF P w H' h3:=by
  have :=I5.qt.Xr he f3 λb o hb xS q=>K3 b o hb (λz=>xS (by rw[z];exact t0)) (λz=>xS (by rw[z];exact Kf)) (λz=>absurd (zu q) (by rw[z];exact qzg.mpr gi)) (λz=>xS (JL b z)) q
  rw[XI he]at this;exact this
 have J:=I.d8 (s':={s' with heap:=h3}) (ch:=fp) I5.os un qt I5.bare λb hm=>let⟨_,g1,_,g3,g4,g5⟩:=hf b hm;⟨g3,g1,g4,g5⟩
 refine wpAny_throw (Xs (fr:=QD.frame) J he ?_ (λT' z=>by cases z;exact⟨vy I.sz (by lia),I5.qt.fresh gi⟩) f3 ?_)
 ·cases r:s0.heap.get? e with
  |none=>rfl
  |some o=>
   obtain⟨o',r'⟩:=I.base.there e o r (by show e∉([]:List jp);simp)
   rw[hn]at r';cases r'
 ·rw[XI he];exact hE
theorem qwB{elt iter:hU}{ug py:Pos}{te:XU}{g:TG}(hN:N.Nodup)(vR:N[i]? =some x)(hx:Loc xM x)(ok:wR (jc (zJ P w) P w K mg base N qual xM f cd A outer s0 H0 E) scope cl own rest ix)(hi:PI (jc (zJ P w) P w K mg base N qual xM f cd A outer s0 H0 E) tg iter wi)(he:∀(C:jp)(s:zr)(H:Hp)(fp:List jp)(pins:List (jp×Obj)),Qt (ju (jc (zJ P w) P w K mg base N qual xM f cd A outer s0 H0 E) scope cl (own++rest) C s H fp pins) elt te)(hg:∀(C:jp)(s:zr)(H:Hp)(fp:List jp)(pins:List (jp×Obj)),PG (ju (jc (zJ P w) P w K mg base N qual xM f cd A outer s0 H0 E) scope cl (own++rest) C s H fp pins) tg g)(gk:Nw (.ListComp elt [⟨tg,iter,[],0⟩] scope pos) (some (.Name x py)) ug.line (sg qual xM (~~~s0) f cd)=pure true)(hs:∀x,mn iter (sg qual xM (~~~s0) f cd) x=pure x:=by intro _;rfl):
  PS (jc (zJ P w) P w K mg base N qual xM f cd A outer s0 H0 E) (.Assign [.Name x py] (.ListComp elt [⟨tg,iter,[],0⟩] scope pos) ug) (uF (gq wi g none (λσ H Q=>te σ H Q E) own.length ix) (xF i)):=
 Fd (XE:=λs H fp pins x s'=>∃kF σ',(∀b∈fp,∃ob,(b,ob)∈kF)/\XP (ju (jc (zJ P w) P w K mg base N qual xM f cd A outer s0 H0 E) scope cl (own++rest) (~~~s) s H fp pins) kF σ' E x s') hN vR hx ok rfl hi
  (λs H fp pins kF s' σ' H' Q' hp I q=>wb (he _ s H fp pins kF s' σ' H' Q' E I q) (λ_ _ z=>z) λx s' z=>⟨kF,σ',hp,z⟩)
  (λs H fp pins σ x s' I hf⟨kF,σ',hp,z⟩=>qwG I hf hp z) hg (λ_ _ _ _ _=>trivial) gk (.inl rfl) hs
end
end L2
open PySem
inductive Bad|jN|oi (x:Str)
namespace Pt
noncomputable def oh:Option Kd->Except Bad Kd
 |some k=>.ok k
 |none=>.error .jN
noncomputable def fit:kg->Pt->Except Bad Kd
 |_,.num _=>.ok .int
 |_,.zI _=>.ok .bool
 |Γ,.jx x=>match Γ.lookup x with
  |some k=>.ok k
  |none=>.error (.oi x)
 |_,.nil k=>.ok (.list k)
 |Γ,.one u p=>(fit Γ p).bind λk=>oh (k1 u k)
 |Γ,.two u p q=>(fit Γ p).bind λk=>(fit Γ q).bind λl=>oh (k2 u k l)
 |Γ,.jy x p q=>(fit Γ p).bind λk=>fit ((x,k)::Γ) q
 |Γ,.fn x k p=>(fit ((x,k)::Γ) p).bind λl=>.ok (.fn k l)
 |Γ,.rc f x k l p=>(fit ((x,k)::(f,.fn k l)::Γ) p).bind λm=>if m=l then .ok (.fn k l)else .error .jN
theorem k8{α β:Type}{a:Except Bad α}{f:α->Except Bad β}{y:β}(h:a.bind f= .ok y):∃x,a= .ok x/\f x= .ok y:=by
 cases a with
 |error e=>cases h
 |ok x=>exact⟨x,rfl,h⟩
noncomputable def gr:Pt->Nat
 | .nil _=>1
 | .one _ p=>p.gr
 | .two _ p q=>max p.gr q.gr+1
 | .jy _ p q=>p.gr+q.gr
 | .fn _ _ p=>p.gr+1
 | .rc _ _ _ _ p=>p.gr+1
 |_=>0
noncomputable def Kb (n:Nat):Pt->Prop
 | .nil k=>k.qa<=n
 | .one _ p=>p.Kb n
 | .two _ p q=>p.Kb n/\q.Kb n
 | .jy _ p q=>p.Kb n/\q.Kb n
 | .fn _ k p=>k.qa<=n/\p.Kb n
 | .rc _ _ k l p=>k.qa<=n/\l.qa<=n/\p.Kb n
 |_=>True
noncomputable def Cb (n:Nat) (Γ:kg):Prop:=∀x k,Γ.lookup x=some k->k.qa<=n
theorem Cb.nil(n:Nat):Cb n []:=λ_ _ h=>by cases h
theorem Cb.mono{m:Nat}{Γ:kg}(h:Cb m Γ)(l:m<=n):Cb n Γ:=λx k e=>vy (h x k e) l
theorem Cb.cons{n:Nat}{Γ:kg}{x:Str}{k:Kd}(h:Cb n Γ)(hk:k.qa<=n):Cb n ((x,k)::Γ):=λy l e=>by
 by_cases z:y=x
 ·subst z;rw[kx,y8]at e;cases e;exact hk
 ·rw[gv z]at e;exact h y l e
theorem qwD{u:U1}{k m:Kd}(h:k1 u k=some m):m.qa<=k.qa:=by
 cases u<;>cases k<;>simp only[k1,reduceCtorEq,pw]at h<;>subst h<;>simp only[Kd.qa]<;>lia
theorem qwF{u:U2}{k l m:Kd}(h:k2 u k l=some m):m.qa<=max k.qa l.qa+1:=by
 cases u
 ·cases l<;>simp only[k2,reduceCtorEq,qqw,pw]at h
  obtain⟨rfl,rfl⟩:=h
  simp only[Kd.qa];lia
 ·simp only[k2,pw]at h
  subst h;simp only[Kd.qa];lia
 ·cases k<;>simp only[k2,reduceCtorEq,qqw,pw]at h
  obtain⟨rfl,rfl⟩:=h
  simp only[Kd.qa];lia
 all_goals
  cases k<;>cases l<;>simp only[k2,reduceCtorEq,pw]at h<;>subst h<;>simp only[Kd.qa]<;>lia
theorem FP{o:Option Kd}{k:Kd}(h:oh o= .ok k):o=some k:=by
 cases o with
 |none=>cases h
 |some l=>cases h;rfl
theorem cU:∀(p:Pt){Γ:kg}{M n:Nat}{k:Kd},Cb M Γ->p.Kb n->n<=M->fit Γ p= .ok k->k.qa<=M+p.gr
 | .num _,_,_,_,_,_,_,_,h=>by cases h;exact io _
 | .zI _,_,_,_,_,_,_,_,h=>by cases h;exact io _
 | .jx x,Γ,_,_,k,hc,_,_,h=>by
  unfold fit at h
  split at h
  ·next l hl=>cases h;exact vy (hc x _ hl) (pk _ _)
  ·cases h
 | .nil k,_,M,n,_,_,hk,hn,h=>by cases h;simp only[Kd.qa,gr,Kb]at hk⊢;lia
 | .one u p,_,_,_,_,hc,hk,hn,h=>by
  obtain⟨l,h1,h2⟩:=k8 h
  have :=cU p hc hk hn h1
  have :=qwD (FP h2)
  simp only[gr];lia
 | .two u p q,_,_,_,_,hc,hk,hn,h=>by
  obtain⟨l,h1,h⟩:=k8 h
  obtain⟨m,h2,h3⟩:=k8 h
  have :=cU p hc hk.1 hn h1
  have :=cU q hc hk.2 hn h2
  have :=qwF (FP h3)
  simp only[gr];lia
 | .jy x p q,_,_,_,_,hc,hk,hn,h=>by
  obtain⟨l,h1,h2⟩:=k8 h
  have a:=cU p hc hk.1 hn h1
  have :=cU q ((hc.mono (pk _ p.gr)).cons (x:=x) a) hk.2 (vy hn (pk _ _)) h2
  simp only[gr];lia
 | .fn x k p,_,_,_,_,hc,hk,hn,h=>by
  obtain⟨l,h1,h2⟩:=k8 h
  cases h2
  have :=cU p (hc.cons (x:=x) (vy hk.1 hn)) hk.2 hn h1
  have :=hk.1
  simp only[gr,Kd.qa];lia
 | .rc f x k l p,_,_,_,_,hc,hk,hn,h=>by
  obtain⟨m,h1,h2⟩:=k8 h
  split at h2
  ·cases h2
   have :=hk.1;have :=hk.2.1
   simp only[gr,Kd.qa];lia
  ·cases h2
theorem cO:∀(p:Pt){Γ:kg}{k:Kd},fit Γ p= .ok k->∀x,p.fv x->∃l,Γ.lookup x=some l
 | .num _,_,_,_,_,z=>z.elim
 | .zI _,_,_,_,_,z=>z.elim
 | .nil _,_,_,_,_,z=>z.elim
 | .jx y,Γ,k,h,x,z=>by
  cases (show x=y from z)
  unfold fit at h
  split at h
  ·next l hl=>exact⟨l,hl⟩
  ·cases h
 | .one u p,_,_,h,x,z=>by
  obtain⟨l,h1,_⟩:=k8 h
  exact cO p h1 x z
 | .two u p q,_,_,h,x,z=>by
  obtain⟨l,h1,h⟩:=k8 h
  obtain⟨m,h2,_⟩:=k8 h
  exact z.elim (cO p h1 x) (cO q h2 x)
 | .jy y p q,_,_,h,x,z=>by
  obtain⟨l,h1,h2⟩:=k8 h
  refine z.elim (cO p h1 x) λz=>?_
  obtain⟨m,e⟩:=cO q h2 x z.1
  rw[gv z.2]at e
  exact⟨m,e⟩
 | .fn y k p,_,_,h,x,z=>by
  obtain⟨l,h1,_⟩:=k8 h
  obtain⟨m,e⟩:=cO p h1 x z.1
  rw[gv z.2]at e
  exact⟨m,e⟩
 | .rc f y k l p,_,_,h,x,z=>by
  obtain⟨m,h1,_⟩:=k8 h
  obtain⟨o,e⟩:=cO p h1 x z.1
  rw[gv z.2.2,gv z.2.1]at e
  exact⟨o,e⟩
end Pt
namespace K27
open PySem L2 PyProof Dt
noncomputable def top (i:Nat):cc:=PySem.Challenge.pw_plainspeak_k27_desk_refusals.main.body.getD i (.Pass ⟨0,0,0,0⟩)
noncomputable abbrev Kh:cc:=inClass (top 3) 0
noncomputable abbrev Kr:cc:=top 22
noncomputable abbrev Ks:cc:=top 27
noncomputable abbrev Ka:cc:=top 28
noncomputable abbrev Ke:cc:=top 29
noncomputable abbrev KQ:cc:=top 34
noncomputable abbrev KZ:cc:=top 35
noncomputable abbrev FT:cc:=top 36
noncomputable abbrev FA:cc:=top 37
noncomputable abbrev F0:cc:=top 38
noncomputable abbrev F1:cc:=top 43
noncomputable def SL:List (Str×List Str):=[("nil",["kind"]),("cons",["part","part"]),("head",["part"]),("tail",["part"]),("empty",["part"]),("pair",["part","part"]),("first",["part"]),("second",["part"]),("if",["part","part","part"]),("let",["name","part","part"]),("fn",["name","kind","part"]),
 ("rec",["name","name","kind","kind","part"]),("call",["part","part"]),("plus",["part","part"]),("minus",["part","part"]),("times",["part","part"]),("over",["part","part"]),("rest",["part","part"]),("less",["part","part"]),("same",["part","part"]),("and",["part","part"]),("or",["part","part"]),("not",["part"])]
noncomputable def slotsOf (wd:Str):List Str:=(SL.lookup wd).getD []
structure F3(K:Fg)(mg:Str->Option zt):Prop where
 zip:mg "zip"=none
 tab:∃a D,mg "PART_SLOTS"=some (.ref a)/\kE K a D/\∀wd,(slotsOf wd=[]/\xl wd D=none)\/∃tp,xl wd D=some (.ref tp)/\∀H,qb K H tp ((slotsOf wd).map V.str)
structure KJ(K:Fg)(mg:Str->Option zt)(S:jp):Prop where
 F4:mg "SpeakError"=some (.ref S)
 ga:PySem.W.specialIn K (.ref S) "__getattribute__"=some (some (.builtin "type.__getattribute__"))
 rd:PySem.W.readsIn K S (.type "type")=true
 fi:PySem.W.findCls K (.ref S) (.type "type") "__init__"=some (.val (.builtin "ValueError.__init__"))
section
variable {base:ll} {S:jp}
inductive qwH(C:jp)(f:Str)(vs:List V)(H:Hp)(Q:VK):Prop
 |mk (e:jp) (a:jp) (x:Str) (v:V) (qQ:vs=[.ref e,.str x,v]) (qZ:H e=some (ze true C a none e)) (qV:∀(a' d:jp)(H':Hp),H' e=some (ze true C a' (some d) e)->H' a'=some (.tup [.str x])->H' d=some (.xd [(f,v)])->(∀b o,H b=some o->b≠e->H' b=some o)->(∀b,H' b=none->H b=none)->Q .qd H')
noncomputable def rH (C:jp) (f:Str):Sp:=λvs H Q zh=>qwH C f vs H Q
theorem F5{f:Str}{Q:VK}{e:jp}(he:H e=some (ze true C a none e))(k:∀(a' d:jp)(H':Hp),H' e=some (ze true C a' (some d) e)->H' a'=some (.tup [.str x])->H' d=some (.xd [(f,v)])->(∀b o,H b=some o->b≠e->H' b=some o)->(∀b,H' b=none->H b=none)->Q .qd H'){a' d:jp}(ha:H a'=none)(hd:(upd (upd H a' (.tup [.str x])) e (ze true C a' none e)) d=none):
  Q .qd (upd (upd (upd (upd H a' (.tup [.str x])) e (ze true C a' none e)) d (.xd [(f,v)])) e (ze true C a' (some d) e)):=by
 have F6:a'≠e:=λz=>by subst z;rw[he]at ha;cases ha
 have KW:d≠e:=λz=>by subst z;rw[qu]at hd;cases hd
 have F7:d≠a':=λz=>by subst z;rw[qm KW,qu]at hd;cases hd
 have nG:H d=none:=by rw[qm KW,qm F7]at hd;exact hd
 refine k a' d _ qu ?_ ?_ (λb o hb jP=>?_) λb hb=>?_
 ·rw[qm F6,qm (y7 F7),qm F6,qu]
 ·rw[qm KW,qu]
 ·rw[qm jP,qm (zM hb nG),qm jP,qm (zM hb ha)]
  exact hb
 ·by_cases z1:b=e
  ·subst z1;rw[qu]at hb;cases hb
  ·rw[qm z1]at hb
   by_cases z2:b=d
   ·subst z2;exact nG
   ·rw[qm z2,qm z1]at hb
    by_cases z3:b=a'
    ·subst z3;exact ha
    ·rw[qm z3]at hb;exact hb
theorem qwP:qO ["self","text","name"] ["self","text","name"] (qK Kh):=by symm
theorem qwR(F:qJ K "__init__" "NoName.__init__" Kh dV f fd)(xs:KJ K mg S)(xc:XC K C bm)(na:jO K C "name"):∅ 1 f fd ["self","text","name"] (rH C "name"):=by
 refine F.qB qwP (by grind) ?_
 omega
 obtain⟨e,a,x,v,rfl,he,k⟩:=h
 refine⟨_,qc (zG (Di (by rfl) xs.F4 xs.ga xs.rd xs.fi (qx (pv 0) (qx (pv 1) qk)))) (qg (Dl (pv 0) (pv 2))),?_⟩
 left
 refine⟨_,rfl,_,rfl,e,C,a,none,true,bm,[.str x],rfl,he,xc,xJ,λa' ha=>⟨_,rfl,_,rfl,e,C,a',true,bm,rfl,qu,xc,na,λd hd=>F5 he k ha hd⟩⟩
end
section
variable {base:ll}
inductive qwS(K:Fg)(vs:List V)(H:Hp)(Q:VK):Prop
 |mk (pt:jp) (QT:Str) (wd:Str) (xs:List V) (qQ:vs=[.ref pt,.str QT]) (qZ:qb K H pt (.str wd::xs)) (qV:xs.length<=1000) (qG:∀l H',qv H H'->H l=none->H' l=some (.lst (behind (slotsOf wd) xs QT))->Q (.ref l) H')
noncomputable def cI (K:Fg):Sp:=λvs H Q zh=>qwS K vs H Q
theorem F8:qO ["part","sort","slots"] ["part","sort"] (qK Kr):=by symm
theorem qwT(F:qJ K "values_behind" "values_behind" Kr .none f fd)(G:F3 K mg):∅ 1 f fd ["part","sort"] (cI K):=by
 refine F.qB F8 (by grind) ?_
 omega
 obtain⟨pt,QT,wd,xs,rfl,hp,hx,q⟩:=h
 obtain⟨ta,D,mT,T,hT⟩:=G.tab
 have uh:((["slot","value"]:List Str)++(["sort"]:List Str)).Nodup:=by ext
 refine⟨_,qc (qC (i:=2) F8.nd rfl oI (qvJ (zf (v:=.ref ta) (by rfl) mT rfl) (qx (qU zc (pv 0) qe) (qx (zR qk) qk))))
  (qg (qW (Fl (QB (own:=["slot","value"]) (i:=1) (by rfl) (by ext) (by rfl) (by ext) (by rfl) (by ext) (by rfl) (.inl (by rfl)) (by rfl) (by ext)) rfl
   (qvD (by rfl) G.zip (qx (pv 2) (qx (nu Xx (pv 0) (lP qe) pe) qk)))
   (λC s H fp pins=>pv 1) (λC s H fp pins=>qv3 K rfl rfl uh rfl rfl oI oI (by rfl) (by rfl))
   (λC s H fp pins=>qM jb (pv 0) (pv 2) (qR _))))),?_⟩
 left
 refine⟨ta,D,rfl,T,_,rfl,pt,_,_,.str wd,rfl,rfl,hp,qY (j:=0) rfl,oO,λt0 gc=>?_⟩
 have g0:=qv.put (o:=.tup []) gc
 refine⟨wd,.ref t0,rfl,?_⟩
 obtain⟨tp,e1,s1⟩:∃tp,(xl wd D).getD (.ref t0)= .ref tp/\qb K (upd H t0 (.tup [])) tp ((slotsOf wd).map V.str):=by
  rcases hT wd with⟨z1,z2⟩|⟨tp,z1,z2⟩
  ·exact⟨t0,by rw[z2];rfl,by rw[z1];exact qb.of qu⟩
  ·exact⟨tp,by rw[z1];rfl,z2 _⟩
 right
 rw[e1]
 generalize upd H t0 (.tup [])=H1 at g0 s1⊢
 have iW:=qb.mono g0.same hp
 refine⟨_,rfl,_,rfl,_,rfl,pt,_,rfl,iW,Fc _ _,λt1 yx=>?_⟩
 rw[Fi]
 have g1:=qv.put (o:=.tup xs) yx
 have s2:=qb.mono g1.same s1
 have s3:qb K (upd H1 t1 (.tup xs)) t1 xs:=qb.of qu
 generalize upd H1 t1 (.tup xs)=H2 at g1 s2 s3⊢
 refine⟨tp,t1,_,_,rfl,s2,s3,λD0 kr=>?_⟩
 exact qv2 (i0:=1) (t:=QT) (R:=λH'=>Q (.ref D0) H') rfl s2 s3 hx kr λH' g e=>q D0 H' ((g0.trans g1).trans g) ((g0.trans g1).none _ kr) e
structure EU(K:Fg)(mg:Str->Option zt)(UF:jp)(bu:List zt):Prop where
 x:XC K UF bu
 i:PySem.W.findIn K (.ref UF) "__init__"=some (some (.builtin "ValueError.__init__"))
 m:mg "Unfit"=some (.ref UF)
inductive qwA(UF:jp)(vs:List V)(H:Hp)(Q:VK)(E:XK):Prop
 |mk (b:Bool) (qQ:vs=[.bl b]) (qZ:(b=true->Q .qd H)) (qV:(b=false->Rz UF H E))
noncomputable def gm (UF:jp):Sp:=λvs H Q E=>qwA UF vs H Q E
theorem qwE:qO ["holds"] ["holds"] (qK KQ):=by symm
theorem qw0{bu:List zt}(F:qJ K "require" "require" KQ .none f fd)(U:EU K mg UF bu):∅ 1 f fd ["holds"] (gm UF):=by
 refine F.jI qwE (by grind) ?_
 omega
 obtain⟨b,rfl,q,qE⟩:=h
 refine⟨_,qg (qP (fq (ku (pv 0))) (qg (ir U.x (nZ U.x U.i (by rfl) U.m (qx qh qk)))) zq),?_⟩
 left
 refine⟨_,rfl,b,rfl,?_⟩
 cases b with
 |true=>exact qA (q rfl)
 |false=>exact zY (yW (qE rfl) (qv.refl H))
inductive qw1(K:Fg)(vs:List V)(H:Hp)(Q:VK):Prop
 |mk (pt:jp) (wd:Str) (xs:List V) (qQ:vs=[.ref pt]) (qZ:qb K H pt (.str wd::xs)) (qV:xs.length<=1000) (qG:∀l H',qv H H'->H l=none->H' l=some (.lst (behind (slotsOf wd) xs "name"))->Q (.ref l) H')
noncomputable def rP (K:Fg):Sp:=λvs H Q zh=>qw1 K vs H Q
theorem qw2:qO ["part"] ["part"] (qK Ke):=by symm
theorem qw3{fV:jp}{F9:ol}(F:qJ K "names_bound" "names_bound" Ke .none f fd)(GV:∅ 1 fV F9 ["part","sort"] (cI K))(mV:mg "values_behind"=some (.ref fV))(kV:PySem.W.keepIn K (.ref fV)=true)(bV:Binds K F9 ["part","sort"] []):
  ∅ 2 f fd ["part"] (rP K):=by
 refine F.qB qw2 (by grind) ?_
 omega
 obtain⟨pt,wd,xs,rfl,hp,hx,q⟩:=h
 refine⟨_,qg (qW (f9 GV hr (by rfl) mV kV bV .nil z8 (qx (pv 0) (qx qh qk)))),?_⟩
 left
 exact⟨_,rfl,pt,"name",wd,xs,rfl,hp,hx,q⟩
inductive Hq(vs:List V)(H:Hp)(Q:VK):Prop
 |mk (sc:jp) (x:Str) (u:V) (kvs:List (Key×V)) (qQ:vs=[.ref sc,.str x,u]) (qZ:H sc=some (.dK kvs)) (qV:kvs.length<=1000000) (qG:∀d H',qv H H'->H' d=some (.dK (putK kvs (Sum.inr x) u))->Q (.ref d) H'):Hq vs H Q
noncomputable def nM:Sp:=λvs H Q zh=>Hq vs H Q
theorem Hz:qO ["scope","name","bound","inner"] ["scope","name","bound"] (qK Ks):=by symm
theorem qw4(F:qJ K "with_name" "with_name" Ks .none f fd)(zd:mg "dict"=none):∅ 1 f fd ["scope","name","bound"] nM:=by
 refine F.qB Hz (by grind) ?_
 omega
 obtain⟨sc,x,u,kvs,rfl,hs,hl,q⟩:=h
 have hu:A.units+0<=A.units:=qL _
 refine⟨_,qc (qC (i:=3) Hz.nd rfl oI (wD qve (by rfl) zd PyProof.Rows.boot_dict (qx (pv 0) qk)))
  (qc (QX (u4 hr.u2) (pv 3) (pv 1) (pv 2) rfl) (qg (qW (pv 3)))),?_⟩
 left
 refine⟨_,rfl,sc,kvs,rfl,hs,λd hd=>?_⟩
 right
 have g1:=qv.put (o:=.dK kvs) hd
 refine⟨_,rfl,_,rfl,_,rfl,d,_,rfl,cj.k (k:=Sum.inr x) qu (by rw[xt];lia),?_⟩
 refine⟨_,rfl,q d _ ?_ qu⟩
 rw[uL]
 exact qv.put hd
structure EN(P:cv)(w:fe)(K:Fg)(mg:Str->Option zt)(base:ll)(NN:jp)(bn:List zt):Prop where
 x:XC K NN bn
 m:mg "NoName"=some (.ref NN)
 g:∃fN ua,∅ 1 fN ua ["self","text","name"] (rH NN "name")/\PySem.W.findIn K (.ref NN) "__init__"=some (some (.ref fN))/\PySem.W.typeIn K (.ref fN)=some (.type "function")/\Binds K ua ["self","text","name"] []
noncomputable def Rn (NN:jp) (x:Str) (H:Hp) (E:XK):Prop:=∀e t d H',qv H H'->H' e=some (ze false NN t (some d) e)->H' d=some (.xd [("name",.str x)])->E (.ref NN) (some e) H'
inductive qw5(NN:jp)(vs:List V)(H:Hp)(Q:VK)(E:XK):Prop
 |mk (sc:jp) (x:Str) (kvs:List (Key×V)) (qQ:vs=[.ref sc,.str x]) (qZ:H sc=some (.dK kvs)) (qV:(∀u,jo kvs (Sum.inr x)=some u->Q u H)) (qG:(jo kvs (Sum.inr x)=none->Rn NN x H E))
noncomputable def QA (NN:jp):Sp:=λvs H Q E=>qw5 NN vs H Q E
inductive Hj(vs:List V)(H:Hp)(Q:VK):Prop
 |mk (sc:jp) (x:Str) (u:V) (kvs:List (Key×V)) (qQ:vs=[.ref sc,.str x]) (qZ:H sc=some (.dK kvs)) (qV:jo kvs (Sum.inr x)=some u) (qG:Q u H):Hj vs H Q
noncomputable def rR:Sp:=λvs H Q zh=>Hj vs H Q
theorem qw6:qO ["scope","name"] ["scope","name"] (qK Ka):=by symm
theorem qw7{bn:List zt}(F:qJ K "looked_up" "looked_up" Ka .none f fd)(U:EN P w K mg base NN bn):∅ 3 f fd ["scope","name"] (QA NN):=by
 refine F.jI qw6 (by grind) ?_
 omega
 obtain⟨sc,x,kvs,rfl,hs,q,qE⟩:=h
 obtain⟨fN,ua,GN,hi,wM,bN⟩:=U.g
 refine⟨_,qc (qP (eL (qvl (u4 hr.u2) (pv 1) (pv 0))) (qg (ir U.x (XZ U.x hi wM GN hr (by rfl) U.m bN .nil z8 (qx qh (qx (pv 1) qk))))) zq) (qg (qW (DB (u4 hr.u2) (pv 0) (pv 1) (λ_ _=>rfl)))),?_⟩
 left
 refine⟨_,rfl,_,rfl,sc,_,rfl,oq.k (k:=Sum.inr x) hs,_,rfl,?_⟩
 have dg:=oq.k (k:=Sum.inr x) hs
 cases hv:jo kvs (Sum.inr x)with
 |some u=>
  rw[hv]at dg
  exact qA ⟨_,rfl,_,rfl,sc,u,rfl,dg,q u hv⟩
 |none=>
  refine zY ⟨_,rfl,jk,λa b ha hb uv=>⟨b,a,_,_,rfl,qu,λa' d H' he ht hd hk hn=>⟨rfl,b,a',some d,rfl,he,hb,?_⟩⟩⟩
  refine qE hv b a' d _ ⟨λc o hc=>?_,λc hc=>?_⟩ qu ?_
  ·have gb:c≠b:=zM hc hb
   rw[qm gb]
   refine hk c o ?_ gb
   rw[qm gb,qm (zM hc ha)]
   exact hc
  ·by_cases z:c=b
   ·subst z;exact hb
   ·rw[qm z]at hc
    have :=hn c hc
    rw[qm z]at this
    by_cases z2:c=a
    ·subst z2;exact ha
    ·rw[qm z2]at this;exact this
  ·have jw:d≠b:=λzz=>by subst zz;rw[he]at hd;injection hd with hd;cases hd
   rw[qm jw];exact hd
noncomputable def yk:Kd->Str->Bool
 | .list _,x=>decide (V.str "list"=V.str x)
 | .pair _ _,x=>decide (V.str "pair"=V.str x)
 | .fn _ _,x=>decide (V.str "fun"=V.str x)
 |_,_=>false
inductive qw8(K:Fg)(UF:jp)(vs:List V)(H:Hp)(Q:VK)(E:XK):Prop
 |mk (v:V) (x:Str) (k:Kd) (qQ:vs=[v,.str x]) (qZ:qw K H k.dt v) (qV:(yk k x=true->Q .qd H)) (qG:(yk k x=false->Rz UF H E))
noncomputable def QE (K:Fg) (UF:jp):Sp:=λvs H Q E=>qw8 K UF vs H Q E
theorem Hx(K:Fg):PySem.W.kitOne K (.type "tuple") (.type "tuple")=some true:=by
 unfold PySem.W.kitOne
 rw[vb (by decide)]
theorem qw9:qO ["kind","word"] ["kind","word"] (qK KZ):=by symm
structure Hv(mg:Str->Option zt):Prop where
 gf:mg "isinstance"=none
 tuple:mg "tuple"=none
variable {fR fW:jp} {fdR fdW:ol}
theorem qyq(K:Fg):PySem.W.kitOne K (.type "str") (.type "tuple")=some false:=by
 unfold PySem.W.kitOne
 rw[ke (by decide)]
 rfl
theorem qyz{k:Kd}(h:qw K H k.dt v):(∃x,v= .str x/\k.dt= .str x/\∀y,yk k y=false)\/∃a x vs ds,v= .ref a/\k.dt= .tup (.str x::ds)/\qb K H a (.str x::vs)/\∀y,yk k y=decide (V.str x=V.str y):=by
 cases k with
 |int=>exact .inl ⟨_,xW h,rfl,λ_=>rfl⟩
 |bool=>exact .inl ⟨_,xW h,rfl,λ_=>rfl⟩
 |list k=>obtain⟨a,u,rfl,hs,_⟩:=xG h;exact .inr ⟨a,_,_,_,rfl,rfl,hs,λ_=>rfl⟩
 |pair k l=>obtain⟨a,u,x,rfl,hs,_⟩:=nI h;exact .inr ⟨a,_,_,_,rfl,rfl,hs,λ_=>rfl⟩
 |fn k l=>obtain⟨a,u,x,rfl,hs,_⟩:=nI h;exact .inr ⟨a,_,_,_,rfl,rfl,hs,λ_=>rfl⟩
theorem jB{s0:zr}{E:XK}{k:Nat}{p:Pos}(G:⋯ k x ps sp)(hr:z7 k (jc (zJ P w) P w K mg base N qual scope f cd A outer s0 H0 E).A)(ha:PA (jc (zJ P w) P w K mg base N qual scope f cd A outer s0 H0 E) (e::es) t)(hg:Gl (jc (zJ P w) P w K mg base N qual scope f cd A outer s0 H0 E) x:=by rfl)(jw:(x==("__debug__":Str))=false:=by decide)(he:ky (e::es) (jc (zJ P w) P w K mg base N qual scope f cd A outer s0 H0 E).env=(false,eval e (jc (zJ P w) P w K mg base N qual scope f cd A outer s0 H0 E).env)::ky es (jc (zJ P w) P w K mg base N qual scope f cd A outer s0 H0 E).env:=by rfl)(qH:(gN pos (ky es (jc (zJ P w) P w K mg base N qual scope f cd A outer s0 H0 E).env)).any (·.1)=false:=by rfl):
  PE (jc (zJ P w) P w K mg base N qual scope f cd A outer s0 H0 E) (.Call (.Name x p) (e::es) [] pos) (yR sp [] E t):=by
 obtain⟨f',fd',h1,h2,h3,h4⟩:=G
 exact f9 h1 hr hg h2 h3 h4 .nil wZ ha jw he qH
theorem qyj(F:qJ K "require_word" "require_word" KZ .none f fd)(G:Hv mg)(GR:⋯ 1 "require" ["holds"] (gm UF)):∅ 2 f fd ["kind","word"] (QE K UF):=by
 refine F.jI qw9 (by grind) ?_
 omega
 obtain⟨v,x,k,rfl,hv,q,qE⟩:=h
 refine⟨_,qg (zG (jB GR hr (qx (NC (jZ QU (by rfl) G.gf fo (qx (pv 0) (qx (eO (v:=.ty "tuple") (by rfl) G.tuple lL rfl) qk)))
  (eN (ki jb (qU zc (pv 0) qe) (pv 1) (qR _)))) qk))),?_⟩
 left
 rcases qyz hv with⟨y,rfl,e,hw⟩|⟨a,y,vs,ds,rfl,e,hs,hw⟩<;>rw[hw]at q qE<;>rw[e]at hv
 ·exact⟨_,rfl,.str y,_,"tuple",false,rfl,hv,qyq K,false,rfl,qA ⟨false,rfl,q,qE⟩⟩
 ·refine⟨_,rfl,.tup (.str y::ds),_,"tuple",true,rfl,hv,Hx K,true,rfl,zY ?_⟩
  exact⟨_,rfl,a,_,_,.str y,rfl,rfl,hs,qY (j:=0) rfl,_,rfl,rfl,_,rfl,q,qE⟩
end
abbrev KY:cc:=top 49
section
variable {base:ll}
theorem KU{k:Nat}(r:z7 k A)(h:n<=150):A.units+n<eI:=by have :=r.un;lia
theorem KO{k:Nat}(r:z7 k A)(h:n<=16*k+198):A.units+1+n<eI:=by have :=r.un;lia
theorem Hw{k:Kd}(h:k.qa<=1100):dep k.dt<=1100:=by rw[Kd.nO];exact h
theorem KI:∀{ks:List Kd},(∀k∈ks,k.qa<=1100)->j7 (ks.map Kd.dt)<=1100
 |[],_=>by simp[j7]
 |k::ks,h=>by
  have h1:=Hw (h k xK)
  have h2:=KI λl hl=>h l (jF _ hl)
  rw[wq,j7];lia
theorem KC{k:Nat}{l:Kd}(r:z7 k A)(hk:57<=k)(h:l.qa<=1100):A.units+dep l.dt<eI:=by have :=Hw h;have :=KO (n:=dep l.dt) r (by lia);lia
def RlE(K:Fg)(UF:jp)(H:Hp)(Q:VK)(E:XK):Except Bad Kd->Prop
 | .ok m=>∀v H',qv H H'->qw K H' m.dt v->Q v H'
 | .error _=>Rz UF H E
inductive qyk(K:Fg)(UF:jp)(n:Nat)(R:List Kd->Except Bad Kd)(vs:List V)(H:Hp)(Q:VK)(E:XK):Prop
 |mk (ks:jp) (ws:List V) (ds:List Kd) (qQ:vs=[.ref ks]) (qZ:qp K H ks ws) (qV:qf K H (ds.map Kd.dt) ws) (qG:(∀d∈ds,d.qa<=1100)) (zm:ds.length=n) (je:RlE K UF H Q E (R ds))
def rS(K:Fg)(UF:jp)(n:Nat)(R:List Kd->Except Bad Kd):Sp:=λvs H Q E=>qyk K UF n R vs H Q E
def cC(u:U1):List Kd->Except Bad Kd
 |[k]=>Pt.oh (Pt.k1 u k)
 |_=>.error .jN
def vW(u:U2):List Kd->Except Bad Kd
 |[k,l]=>Pt.oh (Pt.k2 u k l)
 |_=>.error .jN
theorem Hy{α:Type}{ds:List α}(h:ds.length=1):∃k,ds=[k]:=by match ds,h with |[k],_=>exact⟨k,rfl⟩
theorem Hu{α:Type}{ds:List α}(h:ds.length=2):∃k l,ds=[k,l]:=by match ds,h with |[k,l],_=>exact⟨k,l,rfl⟩
theorem qyv{k:Kd}(h:qw K H (Kd.list k).dt v):∃a u,v= .ref a/\qb K H a [.str "list",u]/\qw K H k.dt u:=xG h
theorem qyw{k l:Kd}(h:qw K H (Kd.fn k l).dt v):∃a u w,v= .ref a/\qb K H a [.str "fun",u,w]/\qw K H k.dt u/\qw K H l.dt w:=nI h
theorem Q0(i:Nat)(h:i=36\/i=37\/i=38\/i=39\/i=40\/i=41\/i=42\/i=43):qO ["kinds"] ["kinds"] (qK (top i)):=by
 rcases h with rfl|rfl|rfl|rfl|rfl|rfl|rfl|rfl<;>exact⟨rfl,rfl,rfl,by ext,rfl,by ext,by ext⟩
theorem qyy(F:qJ K "head_kind" "head_kind" FA .none f fd)(GW:⋯ 2 "require_word" ["kind","word"] (QE K UF)):∅ 3 f fd ["kinds"] (rS K UF 1 (cC .head)):=by
 refine F.jI (Q0 37 (by decide)) (λvs H Q E h=>?_) (λzy A outer s H vs Q E hr h=>?_)
 ·obtain⟨ks,ws,ds,rfl,_⟩:=h
  rfl
 ·obtain⟨ks,ws,ds,rfl,hs,hd,hz,hl,q⟩:=h
  obtain⟨k,rfl⟩:=Hy hl
  obtain⟨u,r,rfl,hu,xE⟩:=zA hd
  cases kY xE
  refine⟨_,qc (zG (jB GW hr (qx (qU jH (pv 0) qe) (qx qh qk)))) (qg (qW (qU zc (qU jH (pv 0) qe) qe))),?_⟩
  left
  refine⟨_,rfl,ks,_,_,_,rfl,rfl,hs,qY (j:=0) rfl,_,_,k,rfl,hu,λhw=>?_,λhw=>?_⟩
  ·cases k with
   |int=>cases hw
   |bool=>cases hw
   |list k=>
    obtain⟨a,y,rfl,ha,hy⟩:=qyv hu
    exact⟨_,rfl,ks,_,_,_,rfl,rfl,hs,qY (j:=0) rfl,a,_,_,y,rfl,rfl,ha,qY (j:=1) rfl,q y H (qv.refl H) hy⟩
   |pair k l=>
    exact absurd hw (by simp only[yk];ext)
   |fn k l=>
    exact absurd hw (by simp only[yk];ext)
  ·cases k with
   |int=>exact q
   |bool=>exact q
   |list k=>exact absurd hw (by simp only[yk];ext)
   |pair k l=>exact q
   |fn k l=>exact q
theorem qyu(F:qJ K "tail_kind" "tail_kind" F0 .none f fd)(GW:⋯ 2 "require_word" ["kind","word"] (QE K UF)):∅ 3 f fd ["kinds"] (rS K UF 1 (cC .tail)):=by
 refine F.jI (Q0 38 (by decide)) (λvs H Q E h=>?_) (λzy A outer s H vs Q E hr h=>?_)
 ·obtain⟨ks,ws,ds,rfl,_⟩:=h
  rfl
 ·obtain⟨ks,ws,ds,rfl,hs,hd,hz,hl,q⟩:=h
  obtain⟨k,rfl⟩:=Hy hl
  obtain⟨u,r,rfl,hu,xE⟩:=zA hd
  cases kY xE
  refine⟨_,qc (zG (jB GW hr (qx (qU jH (pv 0) qe) (qx qh qk)))) (qg (qW (qU jH (pv 0) qe))),?_⟩
  left
  refine⟨_,rfl,ks,_,_,_,rfl,rfl,hs,qY (j:=0) rfl,_,_,k,rfl,hu,λhw=>?_,λhw=>?_⟩
  ·cases k with
   |int=>cases hw
   |bool=>cases hw
   |list k=>
    exact⟨_,rfl,ks,_,_,_,rfl,rfl,hs,qY (j:=0) rfl,q _ H (qv.refl H) hu⟩
   |pair k l=>
    exact absurd hw (by simp only[yk];ext)
   |fn k l=>
    exact absurd hw (by simp only[yk];ext)
  ·cases k with
   |int=>exact q
   |bool=>exact q
   |list k=>exact absurd hw (by simp only[yk];ext)
   |pair k l=>exact q
   |fn k l=>exact q
theorem qyo(F:qJ K "call_kind" "call_kind" F1 .none f fd)(GR:⋯ 1 "require" ["holds"] (gm UF))(GW:⋯ 2 "require_word" ["kind","word"] (QE K UF)):∅ 63 f fd ["kinds"] (rS K UF 2 (vW .call)):=by
 refine F.jI (Q0 43 (by decide)) (λvs H Q E h=>?_) (λzy A outer s H vs Q E hr h=>?_)
 ·obtain⟨ks,ws,ds,rfl,_⟩:=h
  rfl
 ·obtain⟨ks,ws,ds,rfl,hs,hd,hz,hl,q⟩:=h
  obtain⟨k,l,rfl⟩:=Hu hl
  obtain⟨u,r,rfl,hu,xE⟩:=zA hd
  obtain⟨v,r,rfl,hv,xE⟩:=zA xE
  cases kY xE
  refine⟨_,qc (zG (jB GW (hr.mono (by decide)) (qx (qU jH (pv 0) qe) (qx qh qk))))
   (qc (zG (jB GR (hr.mono (by decide)) (qx (ki nW (qU zc (qU jH (pv 0) qe) qe) (qU jH (pv 0) qe) (qR _)) qk)))
   (qg (qW (qU zc (qU jH (pv 0) qe) qe)))),?_⟩
  left
  refine⟨_,rfl,ks,_,_,_,rfl,rfl,hs,qY (j:=0) rfl,_,_,k,rfl,hu,λhw=>?_,λhw=>?_⟩
  ·cases k with
   |int=>cases hw
   |bool=>cases hw
   |list k=>exact absurd hw (by simp only[yk];ext)
   |pair k k'=>exact absurd hw (by simp only[yk];ext)
   |fn k m=>
    obtain⟨a,y,z,rfl,ha,hy,cW⟩:=qyw hu
    have hk:k.qa<=1100:=by have :=hz (.fn k m) (by simp);simp only[Kd.qa]at this;lia
    refine⟨_,rfl,ks,_,_,_,rfl,rfl,hs,qY (j:=0) rfl,a,_,_,y,rfl,rfl,ha,qY (j:=1) rfl,_,rfl,ks,_,_,v,rfl,rfl,hs,qY (j:=1) rfl,k.dt,l.dt,hy,hv,KC hr (by decide) hk,_,rfl,λhq=>?_,λhq=>?_⟩
    ·rw[Kd.um]at hq
     have e:vW .call [.fn k m,l]= .ok m:=by simp[vW,Pt.k2,Pt.oh,vi hq]
     rw[e]at q
     exact⟨_,rfl,ks,_,_,_,rfl,rfl,hs,qY (j:=0) rfl,a,_,_,z,rfl,rfl,ha,qY (j:=2) rfl,q z H (qv.refl H) cW⟩
    ·rw[Kd.um]at hq
     have e:vW .call [.fn k m,l]= .error .jN:=by simp[vW,Pt.k2,K' hq,Pt.oh]
     rw[e]at q
     exact q
  ·cases k with
   |int=>exact q
   |bool=>exact q
   |list k=>exact q
   |pair k k'=>exact q
   |fn k m=>exact absurd hw (by simp only[yk];ext)
theorem ue(F:qJ K "cons_kind" "cons_kind" FT .none f fd)(GR:⋯ 1 "require" ["holds"] (gm UF)):∅ 63 f fd ["kinds"] (rS K UF 2 (vW .cons)):=by
 refine F.jI (Q0 36 (by decide)) (λvs H Q E h=>?_) (λzy A outer s H vs Q E hr h=>?_)
 ·obtain⟨ks,ws,ds,rfl,_⟩:=h
  rfl
 ·obtain⟨ks,ws,ds,rfl,hs,hd,hz,hl,q⟩:=h
  obtain⟨k,l,rfl⟩:=Hu hl
  obtain⟨u,r,rfl,hu,xE⟩:=zA hd
  obtain⟨v,r,rfl,hv,xE⟩:=zA xE
  cases kY xE
  refine⟨_,qc (zG (jB GR (hr.mono (by decide)) (qx (ki nW (qU jH (pv 0) qe) (zR (qx qh (qx (qU jH (pv 0) qe) qk))) (qR _)) qk)))
   (qg (qW (qU jH (pv 0) qe))),?_⟩
  left
  refine⟨_,rfl,ks,_,_,v,rfl,rfl,hs,qY (j:=1) rfl,_,rfl,ks,_,_,u,rfl,rfl,hs,qY (j:=0) rfl,jk,λc hc=>?_⟩
  have g1:=qv.put (o:=.tup [.str "list",u]) hc
  have e1:qb K (upd H c (.tup [.str "list",u])) c [.str "list",u]:=qb.of qu
  generalize upd H c (.tup [.str "list",u])=H1 at g1 e1⊢
  refine⟨l.dt,(Kd.list k).dt,hv.mono g1.same,yV e1 (hu.mono g1.same),KC hr (by decide) (hz l (by simp)),_,rfl,λhq=>?_,λhq=>?_⟩<;>rw[Kd.um]at hq
  ·cases vi hq
   have e:vW .cons [k,.list k]= .ok (.list k):=by simp[vW,Pt.k2,Pt.oh]
   rw[e]at q
   exact⟨_,rfl,ks,_,_,v,rfl,rfl,g1.same.seq hs,qY (j:=1) rfl,q v _ g1 (hv.mono g1.same)⟩
  ·have e:vW .cons [k,l]= .error .jN:=by
    have :=K' hq
    cases l with
    |list l=>simp[vW,Pt.k2,Pt.oh,show¬k=l from λz=>this (by rw[z])]
    |_=>rfl
   rw[e]at q
   exact λe t H' g hn he=>q e t H' (g1.trans g) (g1.none _ hn) he
inductive vE(K:Fg)(H:Hp)(pr:jp)(n:Nat):Prop
 |mk (ps:List V) (ks:List Kd) (qQ:H pr=some (.lst ps)) (qZ:qf K H (ks.map Kd.dt) ps) (qV:∀k∈ks,k.qa<=1100) (qG:ks.length<=n)
theorem vE.le{m:Nat}(h:vE K H pr m)(l:m<=n):vE K H pr n:=let⟨ps,ks,a,b,c,d⟩:=h;⟨ps,ks,a,b,c,vy d l⟩
theorem vE.mono(h:vE K H pr n)(g:qv H H'):vE K H' pr n:=let⟨ps,ks,a,b,c,d⟩:=h;⟨ps,ks,g.same _ _ a,b.mono g.same,c,d⟩
theorem vE.jv(h:vE K H pr n)(g:qS pr H H'):jt K H H':=let⟨_,_,a,_,_,_⟩:=h;g.jv a
inductive qyi(K:Fg)(vs:List V)(H:Hp)(Q:VK):Prop
 |mk (ks:jp) (pr:jp) (u:V) (v:V) (k:Kd) (l:Kd) (n:Nat) (qQ:vs=[.ref ks,.ref pr]) (qZ:qp K H ks [u,v]) (qV:qw K H k.dt u) (qG:qw K H l.dt v) (zm:(Kd.pair k l).qa<=1100) (je:vE K H pr n) (kc:n<=100000) (uu:∀r H',qS pr H H'->vE K H' pr (n+1)->qw K H' (Kd.pair k l).dt r->Q r H')
def KL(K:Fg):Sp:=λvs H Q zh=>qyi K vs H Q
theorem Ho:qO ["kinds","pairs","kind"] ["kinds","pairs"] (qK KY):=by symm
theorem qyc(F:qJ K "pair_kind" "pair_kind" KY .none f fd):∅ 63 f fd ["kinds","pairs"] (KL K):=by
 refine F.qB Ho (by grind) ?_
 omega
 obtain⟨ks,pr,u,v,k,l,n,rfl,hs,hu,hv,hz,hp,hn,q⟩:=h
 refine⟨_,qc (qC (i:=2) Ho.nd rfl oI (zR (qx qh (qx (qU jH (pv 0) qe) (qx (qU jH (pv 0) qe) qk)))))
  (qc (qP (qM qva (pv 2) (pv 1) rfl) (qg (qW (qU jH (pv 1) (jA jV PySem.F.slot_list_index PySem.F.type_list_index qwy (pv 1) (qx (pv 2) qk))))) zq)
  (qc (zG (jA jV vp vt vj (pv 1) (qx (pv 2) qk)))
  (qg (qW (pv 2))))),?_⟩
 left
 refine⟨_,rfl,ks,_,_,u,rfl,rfl,hs,qY (j:=0) rfl,_,rfl,ks,_,_,v,rfl,rfl,hs,qY (j:=1) rfl,uI,λc hc=>?_⟩
 right
 have g1:=qv.put (o:=.tup [.str "pair",u,v]) hc
 have e1:qb K (upd H c (.tup [.str "pair",u,v])) c [.str "pair",u,v]:=qb.of qu
 generalize upd H c (.tup [.str "pair",u,v])=H1 at g1 e1⊢
 have hk:qw K H1 (Kd.pair k l).dt (.ref c):=Kl e1 (hu.mono g1.same) (hv.mono g1.same)
 have iW:=hp.mono g1
 obtain⟨ps,kl,a1,a2,a3,a4⟩:=iW
 have Hi:=KO hr (vy (KI a3) (by decide))
 refine⟨_,rfl,_,rfl,pr,ps,(Kd.pair k l).dt,kl.map Kd.dt,rfl,qp.of a1,hk,a2,Hi,_,rfl,?_⟩
 refine zB (λKg=>?_) (λ_=>?_)
 ·refine⟨_,rfl,_,rfl,.inl ⟨rfl,_,qp.of a1⟩,_,rfl,pr,ps,_,(Kd.pair k l).dt,kl.map Kd.dt,rfl,rfl,qp.of a1,hk,a2,Hi,Kg,λj e he hj=>?_⟩
  obtain⟨y,hy,dy⟩:=a2.get he
  refine⟨pr,ps,j,y,rfl,rfl,qp.of a1,qY hy,q y H1 g1.b (vE.le ⟨ps,kl,a1,a2,a3,a4⟩ (eA n)) ?_⟩
  rw[xH]at he
  obtain⟨k',hk',rfl⟩:=ve.mp he
  rw[Kd.um]at hj
  rw[vi hj]at dy
  exact dy
 ·have hl:=a2.length
  rw[za]at hl
  refine⟨_,rfl,.inl ⟨rfl,_,qp.of a1⟩,_,rfl,pr,ps,_,rfl,rfl,a1,(by rw[xt];lia),?_⟩
  have gB:qS pr H (upd H1 pr (.lst (ps++[.ref c]))):=by
   obtain⟨ps0,kl0,b1,_⟩:=hp
   exact(qv.b g1).set b1
  have kt:jt K H1 (upd H1 pr (.lst (ps++[.ref c]))):=qS.jv ((qS.refl pr H1).set a1) a1
  refine⟨_,rfl,q _ _ gB ⟨ps++[.ref c],kl++[Kd.pair k l],qu,?_,?_,?_⟩ (hk.zb kt)⟩
  ·rw[kG]
   exact(a2.zb kt).append (zx (hk.zb kt) zp)
  ·intro z cW
   rcases ip.mp cW with h|h
   ·exact a3 z h
   ·rw[xX.mp h];exact hz
  ·rw[va];simp;exact a4
end
abbrev Q2:cc:=top 45
abbrev Q3:cc:=top 46
abbrev Q4:cc:=top 47
abbrev rT:cc:=top 50
section
variable {base:ll}
inductive vm(K:Fg)(H:Hp)(sc:jp)(Γ:kg)(m:Nat):Prop
 |mk (kvs:List (Key×V)) (qQ:H sc=some (.dK kvs)) (qZ:kvs.length<=m) (qV:(∀x k,Γ.lookup x=some k->∃v,jo kvs (Sum.inr x)=some v/\qw K H k.dt v)/\∀x,Γ.lookup x=none->jo kvs (Sum.inr x:Key)=none)
theorem vm.Hl{sc:jp}{Γ:kg}{m:Nat}(h:vm K H sc Γ m)(p:vE K H pr n)(g:qS pr H H'):vm K H' sc Γ m:=by
 obtain⟨kvs,a,b,c,d⟩:=h
 have kt:=p.jv g
 obtain⟨ps,ks,p1,_⟩:=p
 exact⟨kvs,g.keep _ _ (j9 a p1 (by intro z;cases z)) a,b,λx k e=>let⟨v,e1,e2⟩:=c x k e;⟨v,e1,e2.zb kt⟩,d⟩
theorem vm.mono{sc:jp}{Γ:kg}{m:Nat}(h:vm K H sc Γ m)(g:qv H H'):vm K H' sc Γ m:=by
 obtain⟨kvs,a,b,c,d⟩:=h
 exact⟨kvs,g.same _ _ a,b,λx k e=>let⟨v,e1,e2⟩:=c x k e;⟨v,e1,e2.mono g.same⟩,d⟩
theorem vm.put{d:jp}{Γ:kg}{m:Nat}{k:Kd}{u:V}(c:(∀y l,Γ.lookup y=some l->∃v,jo kvs (Sum.inr y)=some v/\qw K H l.dt v)/\∀y,Γ.lookup y=none->jo kvs (Sum.inr y:Key)=none)(hl:kvs.length<=m)(g:qv H H')(e:H' d=some (.dK (putK kvs (Sum.inr x) u)))(hu:qw K H k.dt u):vm K H' d ((x,k)::Γ) (m+1):=by
 refine⟨_,e,?_,λy l hy=>?_,λy hy=>?_⟩
 ·have :=rg kvs (Sum.inr x:Key) u
  lia
 ·rw[Qe]
  by_cases z:y=x
  ·subst z
   rw[vb rfl]
   rw[kx,y8]at hy
   cases hy
   exact⟨u,rfl,hu.mono g.same⟩
  ·rw[ke (λh=>z (He h))]
   rw[Pt.gv z]at hy
   obtain⟨v,e1,e2⟩:=c.1 y l hy
   exact⟨v,e1,e2.mono g.same⟩
 ·rw[Qe]
  by_cases z:y=x
  ·subst z;rw[kx,y8]at hy;cases hy
  ·rw[ke (λh=>z (He h))]
   rw[Pt.gv z]at hy
   exact c.2 y hy
def wU(UF NN pr:jp)(H:Hp)(E:XK):Bad->Prop
 | .jN=>∀e t H',qS pr H H'->H' e=some (ze false UF t none e)->E (.ref UF) (some e) H'
 | .oi x=>∀e t d H',qS pr H H'->H' e=some (ze false NN t (some d) e)->H' d=some (.xd [("name",.str x)])->E (.ref NN) (some e) H'
def nH(K:Fg)(UF NN pr:jp)(n:Nat)(H:Hp)(Q:VK)(E:XK):Except Bad Kd->Prop
 | .ok κ=>∀v H',qS pr H H'->vE K H' pr n->qw K H' κ.dt v->Q v H'
 | .error b=>wU UF NN pr H E b
section
variable {Q:VK} {E:XK}
theorem wU.up{b:Bad}(h:wU UF NN pr H E b)(g:qS pr H H1):wU UF NN pr H1 E b:=by
 cases b with
 |jN=>exact λe t H' g' he=>h e t H' (g.trans g') he
 |oi x=>exact λe t d H' g' he hd=>h e t d H' (g.trans g') he hd
theorem wU.rz(h:wU UF NN pr H E .jN)(g:qS pr H H1):Rz UF H1 E:=λe t H' g' _ he=>h e t H' (g.trans g'.b) he
theorem nH.up{m:Nat}{r:Except Bad Kd}(h:nH K UF NN pr n H Q E r)(g:qS pr H H1)(hn:m<=n):nH K UF NN pr m H1 Q E r:=by
 cases r with
 |error b=>exact wU.up h g
 |ok k=>exact λv H' g' p d=>h v H' (g.trans g') (p.le hn) d
end
structure Fk(Γ:kg)(M:Nat)(p:Pt):Prop where
 cb:Pt.Cb M Γ
 kb:p.Kb 40
 lo:41<=M
 hi:M+p.gr<=1100
theorem Fk.qa{Γ:kg}{M:Nat}{k:Kd}(h:Fk Γ M p)(e:Pt.fit Γ p= .ok k):k.qa<=1100:=vy (Pt.cU p h.cb h.kb (vy (by decide) h.lo) e) h.hi
inductive qyl(K:Fg)(UF:jp)(NN:jp)(B:Pt->Prop)(vs:List V)(H:Hp)(Q:VK)(E:XK):Prop
 |mk (pv:V) (sc:jp) (pr:jp) (p:Pt) (Γ:kg) (m:Nat) (c:Nat) (M:Nat) (qQ:vs=[pv,.ref sc,.ref pr]) (qZ:qw K H p.dt pv) (qV:B p) (qG:Fk Γ M p) (zm:vm K H sc Γ m) (je:m+2*p.qa<=400) (kc:vE K H pr c) (uu:c+p.sz<=100000) (Q5:nH K UF NN pr (c+p.sz) H Q E (Pt.fit Γ p))
def gQ(K:Fg)(UF NN:jp)(B:Pt->Prop):Sp:=λvs H Q E=>qyl K UF NN B vs H Q E
def iY(K:Fg)(UF NN:jp)(n:Nat):Sp:=gQ K UF NN λp=>p.qa<n
def isLet(n:Nat)(p:Pt):Prop:=p.qa<n+1/\∃x q r,p= .jy x q r
def Hg(n:Nat)(p:Pt):Prop:=p.qa<n+1/\∃x k q,p= .fn x k q
def Hf(n:Nat)(p:Pt):Prop:=p.qa<n+1/\∃g x k l q,p= .rc g x k l q
abbrev xN:List Str:=["part","scope","pairs"]
theorem Hh:qO ["part","scope","pairs","bound"] xN (qK Q2):=by symm
theorem qyg(F:qJ K "let_kind" "let_kind" Q2 .none f fd)(GF:⋯ (2*n+72) "fitted" xN (iY K UF NN n))(GN:⋯ 1 "with_name" ["scope","name","bound"] nM):∅ (2*n+73) f fd xN (gQ K UF NN (isLet n)):=by
 refine F.jI Hh (by grind) ?_
 omega
 obtain⟨v,sc,pr,p,Γ,m,c,M,rfl,hp,⟨hd,x,p1,p2,rfl⟩,hh,hs,hm,vn,hc,q⟩:=h
 have hi:=hh.hi
 simp only[Pt.gr]at hi
 obtain⟨a,v0,v1,v2,rfl,ha,hx,uQ,v7⟩:=gy hp
 cases xW hx
 simp only[Pt.qa,Pt.sz]at hd hm hc q
 refine⟨_,qc (qC (i:=3) Hh.nd rfl oI (jB GF hr (qx (qU zc (pv 0) qe) (qx (pv 1) (qx (pv 2) qk)))))
  (qg (qW (jB GF hr (qx (qU zc (pv 0) qe) (qx (zw GN (hr.mono (by lia)) (qx (pv 1) (qx (qU zc (pv 0) qe) (qx (pv 3) qk)))) (qx (pv 2) qk)))))),?_⟩
 left
 refine⟨_,rfl,a,_,_,v1,rfl,rfl,ha,qY (j:=2) rfl,_,rfl,_,rfl,v1,sc,pr,p1,Γ,m,c,M,rfl,uQ,by show p1.qa<n;lia,⟨hh.cb,hh.kb.1,hh.lo,by lia⟩,hs,by lia,vn,by lia,?_⟩
 rw[Pt.fit]at q
 cases h1:Pt.fit Γ p1 with
 |error b=>rw[h1]at q;exact q
 |ok k=>
 rw[h1]at q
 have hk:=Pt.cU p1 hh.cb hh.kb.1 (vy (by decide) hh.lo) h1
 intro u H1 g1 nP hu
 right
 have kt:=vn.jv g1
 have Q6:=kt _ _ ha
 have qym:=v7.zb kt
 have yj:=hs.Hl vn g1
 obtain⟨kvs,s1,s2,s3⟩:=yj
 refine⟨_,rfl,a,_,_,v2,rfl,rfl,Q6,qY (j:=3) rfl,_,rfl,_,rfl,a,_,_,.str x,rfl,rfl,Q6,qY (j:=1) rfl,_,rfl,sc,x,u,kvs,rfl,s1,by lia,λd H2 g2 e2=>?_⟩
 have kJ:vm K H2 d ((x,k)::Γ) (m+1):=vm.put s3 s2 g2 e2 hu
 refine⟨_,rfl,v2,d,pr,p2,(x,k)::Γ,m+1,c+p1.sz,M+p1.gr,rfl,qym.mono g2.same,by show p2.qa<n;lia,⟨(hh.cb.mono (pk _ _)).cons hk,hh.kb.2,vy hh.lo (pk _ _),by lia⟩,kJ,by lia,nP.mono g2,by lia,nH.up q (g1.trans g2.b) (by lia)⟩
theorem Hr:qO ["part","scope","pairs","told"] xN (qK Q3):=by symm
theorem qyn(F:qJ K "fn_kind" "fn_kind" Q3 .none f fd)(GF:⋯ (2*n+72) "fitted" xN (iY K UF NN n))(GN:⋯ 1 "with_name" ["scope","name","bound"] nM):∅ (2*n+73) f fd xN (gQ K UF NN (Hg n)):=by
 refine F.jI Hr (by grind) ?_
 omega
 obtain⟨v,sc,pr,p,Γ,m,c,M,rfl,hp,⟨hd,x,k,p2,rfl⟩,hh,hs,hm,vn,hc,q⟩:=h
 have hi:=hh.hi
 have lo:=hh.lo
 have hk:=hh.kb.1
 simp only[Pt.gr]at hi
 rw[Pt.fit]at q
 obtain⟨a,v0,v1,v2,rfl,ha,hx,uQ,v7⟩:=gy hp
 cases xW hx
 simp only[Pt.qa,Pt.sz]at hd hm hc q
 refine⟨_,qc (qC (i:=3) Hr.nd rfl oI (jB GF hr (qx (qU zc (pv 0) qe) (qx (zw GN (hr.mono (by lia)) (qx (pv 1) (qx (qU zc (pv 0) qe) (qx (qU zc (pv 0) qe) qk)))) (qx (pv 2) qk)))))
  (qg (qW (zR (qx qh (qx (qU zc (pv 0) qe) (qx (pv 3) qk)))))),?_⟩
 left
 obtain⟨kvs,s1,s2,s3⟩:=hs
 refine⟨_,rfl,a,_,_,v2,rfl,rfl,ha,qY (j:=3) rfl,_,rfl,_,rfl,a,_,_,.str x,rfl,rfl,ha,qY (j:=1) rfl,_,rfl,a,_,_,v1,rfl,rfl,ha,qY (j:=2) rfl,sc,x,v1,kvs,rfl,s1,by lia,λd H2 g2 e2=>?_⟩
 have kJ:vm K H2 d ((x,k)::Γ) (m+1):=vm.put s3 s2 g2 e2 uQ
 refine⟨_,rfl,v2,d,pr,p2,(x,k)::Γ,m+1,c,M,rfl,v7.mono g2.same,by show p2.qa<n;lia,⟨hh.cb.cons (by lia),hh.kb.2,hh.lo,by lia⟩,kJ,by lia,vn.mono g2,by lia,?_⟩
 cases h2:Pt.fit ((x,k)::Γ) p2 with
 |error b=>rw[h2]at q;exact wU.up q g2.b
 |ok l=>
 rw[h2]at q
 intro u H3 g3 qyb hu
 right
 have kt:jt K H H3:=λb xs hb=>(vn.mono g2).jv g3 _ _ (qb.mono g2.same hb)
 refine⟨_,rfl,a,_,_,v1,rfl,rfl,kt _ _ ha,qY (j:=2) rfl,_,rfl,uI,λt ht=>?_⟩
 have g4:=qv.put (o:=.tup [.str "fun",v1,u]) ht
 exact q _ _ ((g2.b.trans g3).trans g4.b) ((qyb.mono g4).le (by lia)) (Kl (qb.of qu) ((uQ.zb kt).mono g4.same) (hu.mono g4.same))
theorem Q7:qO ["part","scope","pairs","kind","knowing_itself","told"] xN (qK Q4):=by symm
theorem qyd(F:qJ K "rec_kind" "rec_kind" Q4 .none f fd)(GF:⋯ (2*n+72) "fitted" xN (iY K UF NN n))(GN:⋯ 1 "with_name" ["scope","name","bound"] nM)(GR:⋯ 1 "require" ["holds"] (gm UF)):∅ (2*n+73) f fd xN (gQ K UF NN (Hf n)):=by
 refine F.jI Q7 (by grind) ?_
 omega
 obtain⟨v,sc,pr,p,Γ,m,c,M,rfl,hp,⟨hd,g,x,k,l,p2,rfl⟩,hh,hs,hm,vn,hc,q⟩:=h
 have hi:=hh.hi
 have lo:=hh.lo
 have hk:=hh.kb.1
 have hl:=hh.kb.2.1
 simp only[Pt.gr]at hi
 rw[Pt.fit]at q
 have F2:Fk ((x,k)::(g,.fn k l)::Γ) M p2:=⟨(hh.cb.cons (by simp only[Kd.qa];lia)).cons (by lia),hh.kb.2.2,hh.lo,by lia⟩
 obtain⟨a,v0,v1,v2,v3,v4,rfl,ha,hg,hx,v7,Ht,hv4⟩:=QR hp
 cases xW hx
 cases xW hg
 simp only[Pt.qa,Pt.sz]at hd hm hc q
 refine⟨_,qc (qC (i:=3) Q7.nd rfl oI (zR (qx qh (qx (qU zc (pv 0) qe) (qx (qU zc (pv 0) qe) qk)))))
  (qc (qC (i:=4) Q7.nd rfl oI (zw GN (hr.mono (by lia)) (qx (pv 1) (qx (qU zc (pv 0) qe) (qx (pv 3) qk)))))
  (qc (qC (i:=5) Q7.nd rfl oI (jB GF hr (qx (qU zc (pv 0) qe) (qx (zw GN (hr.mono (by lia)) (qx (pv 4) (qx (qU zc (pv 0) qe) (qx (qU zc (pv 0) qe) qk)))) (qx (pv 2) qk)))))
  (qc (zG (jB GR (hr.mono (by lia)) (qx (ki nW (pv 5) (qU zc (pv 0) qe) (qR _)) qk)))
  (qg (qW (pv 3)))))),?_⟩
 left
 refine⟨_,rfl,a,_,_,v2,rfl,rfl,ha,qY (j:=3) rfl,_,rfl,a,_,_,v3,rfl,rfl,ha,qY (j:=4) rfl,uI,λt ht=>?_⟩
 right
 have g1:=qv.put (o:=.tup [.str "fun",v2,v3]) ht
 have e1:qb K (upd H t (.tup [.str "fun",v2,v3])) t [.str "fun",v2,v3]:=qb.of qu
 generalize upd H t (.tup [.str "fun",v2,v3])=H1 at g1 e1⊢
 have rA:qw K H1 (Kd.fn k l).dt (.ref t):=Kl e1 (v7.mono g1.same) (Ht.mono g1.same)
 obtain⟨kvs,s1,s2,s3⟩:=hs.mono g1
 have Q6:=qb.mono g1.same ha
 refine⟨_,rfl,_,rfl,a,_,_,.str g,rfl,rfl,Q6,qY (j:=1) rfl,_,rfl,sc,g,.ref t,kvs,rfl,s1,by lia,λd H2 g2 e2=>?_⟩
 right
 have kJ:vm K H2 d ((g,.fn k l)::Γ) (m+1):=vm.put s3 s2 g2 e2 rA
 have zD:=g1.trans g2
 have KG:=qb.mono zD.same ha
 obtain⟨kO,s1,s2,s3⟩:=kJ
 refine⟨_,rfl,a,_,_,v4,rfl,rfl,KG,qY (j:=5) rfl,_,rfl,_,rfl,a,_,_,.str x,rfl,rfl,KG,qY (j:=2) rfl,_,rfl,a,_,_,v2,rfl,rfl,KG,qY (j:=3) rfl,d,x,v2,kO,rfl,s1,by lia,λd3 H3 g3 e3=>?_⟩
 have vK:vm K H3 d3 ((x,k)::(g,.fn k l)::Γ) (m+1+1):=vm.put s3 s2 g3 e3 (v7.mono zD.same)
 have kI:=zD.trans g3
 refine⟨_,rfl,v4,d3,pr,p2,(x,k)::(g,.fn k l)::Γ,m+1+1,c,M,rfl,hv4.mono kI.same,by show p2.qa<n;lia,F2,vK,by lia,vn.mono kI,by lia,?_⟩
 cases h2:Pt.fit ((x,k)::(g,.fn k l)::Γ) p2 with
 |error b=>rw[h2]at q;exact wU.up q kI.b
 |ok l'=>
 rw[h2]at q
 have q':nH K UF NN pr (c+(p2.sz+1)) H Q E (if l'=l then .ok (.fn k l)else .error .jN):=q
 intro u H4 g4 qyh hu
 right
 have kt:jt K H3 H4:=(vn.mono kI).jv g4
 have Q8:jt K H H4:=λb xs hb=>kt _ _ (qb.mono kI.same hb)
 refine⟨_,rfl,_,rfl,a,_,_,v3,rfl,rfl,Q8 _ _ ha,qY (j:=4) rfl,l'.dt,l.dt,hu,Ht.zb Q8,KC hr (by lia) (F2.qa h2),_,rfl,λhq=>?_,λhq=>?_⟩<;>rw[Kd.um]at hq
 ·rw[vb (vi hq)]at q'
  exact⟨_,rfl,q' _ _ (kI.b.trans g4) (qyh.le (by lia)) ((rA.mono (g2.trans g3).same).zb kt)⟩
 ·rw[ke (K' hq)]at q'
  exact wU.rz (NN:=NN) q' (kI.b.trans g4)
end
noncomputable def Pt.plain:Pt->Bool
 | .num _=>true| .zI _=>true| .one _ _=>true| .two _ _ _=>true
 |_=>false
noncomputable def Pt.wd:Pt->Str
 | .num _=>"num"| .zI _=>"truth"| .jx _=>"name"| .nil _=>"nil"
 | .one u _=>u.str| .two u _ _=>u.str| .jy _ _ _=>"let"| .fn _ _ _=>"fn"| .rc _ _ _ _ _=>"rec"
noncomputable def Pt.parts:Pt->List Pt
 | .one _ p=>[p]| .two _ p q=>[p,q]
 | .jy _ p q=>[p,q]| .fn _ _ p=>[p]| .rc _ _ _ _ p=>[p]
 |_=>[]
noncomputable def KR:List (Str×Nat×(List Kd->Except Bad Kd)):=[("cons",2,vW .cons),("head",1,cC .head),("tail",1,cC .tail),("call",2,vW .call)]
noncomputable def FX:List (Str×List Kd×Kd):=[("num",[],.int),("truth",[],.bool),("plus",[.int,.int],.int),("over",[.int,.int],.int)]
noncomputable def kv:Kd->V
 | .int=>.str "int"
 |_=>.str "bool"
noncomputable def vd (Γ:kg):List Pt->Except Bad (List Kd)
 |[]=>.ok []
 |p::ps=>(Pt.fit Γ p).bind λk=>(vd Γ ps).bind λks=>.ok (k::ks)
theorem HQ{Γ:kg}:∀{ps:List Pt}{ks:List Kd},vd Γ ps= .ok ks->ks.length=ps.length
 |[],_,h=>by cases h;rfl
 |p::ps,ks,h=>by
  obtain⟨k,_,h⟩:=Pt.k8 h
  obtain⟨l,h2,h⟩:=Pt.k8 h
  cases h
  rw[zH,zH,HQ h2]
theorem HZ{Γ:kg}:∀{ps:List Pt}{ks:List Kd}{k:Kd},vd Γ ps= .ok ks->k∈ks->∃p∈ps,Pt.fit Γ p= .ok k
 |[],_,_,h,hk=>by cases h;cases hk
 |p::ps,ks,k,h,hk=>by
  obtain⟨k',h1,h⟩:=Pt.k8 h
  obtain⟨l,h2,h⟩:=Pt.k8 h
  cases h
  rcases js.mp hk with rfl|hk
  ·exact⟨p,xK,h1⟩
  ·obtain⟨q,hq,e⟩:=HZ h2 hk
   exact⟨q,jF _ hq,e⟩
theorem HJ{Γ:kg}:∀{ps:List Pt}{i:Nat}{p:Pt}{ks:List Kd},ps[i]? =some p->vd Γ (ps.take i)= .ok ks->(∀b,Pt.fit Γ p= .error b->vd Γ ps= .error b)/\∀k,Pt.fit Γ p= .ok k->vd Γ (ps.take (i+1))= .ok (ks++[k])
 |[],i,p,ks,h,_=>by simp at h
 |q::ps,0,p,ks,h,hk=>by
  simp at h
  subst h
  cases hk
  exact⟨λb e=>by rw[vd,e];rfl,λk e=>by rw[ae,vd,e];rfl⟩
 |q::ps,i+1,p,ks,h,hk=>by
  rw[ae]at hk
  obtain⟨k',h1,hk⟩:=Pt.k8 hk
  obtain⟨l,h2,hk⟩:=Pt.k8 hk
  cases hk
  obtain⟨a,b⟩:=HJ (by simpa using h) h2
  exact⟨λe z=>by rw[vd,h1];show Except.bind (vd Γ ps) _=_;rw[a e z];rfl,λk z=>by rw[ae,vd,h1];show Except.bind (vd Γ (ps.take (i+1))) _=_;rw[b k z];rfl⟩
noncomputable def qyp (wd:Str) (ks:List Kd) (r:Except Bad Kd):Prop:=(wd="pair"/\∃k l,ks=[k,l]/\r= .ok (.pair k l))\/(∃n R,(wd,n,R)∈KR/\ks.length=n/\r=R ks)\/∃fs κ,(wd,fs,κ)∈FX/\r=if ks=fs then .ok κ else .error .jN
theorem qyr{Γ:kg}(hp:Pt.plain p=true):(∀b,vd Γ (Pt.parts p)= .error b->Pt.fit Γ p= .error b)/\∀ks,vd Γ (Pt.parts p)= .ok ks->qyp (Pt.wd p) ks (Pt.fit Γ p):=by
 cases p with
 |num n=>exact⟨λb h=>(by cases h),λks h=>by cases h;exact .inr (.inr ⟨[],.int,by simp[FX,Pt.wd],rfl⟩)⟩
 |zI n=>exact⟨λb h=>(by cases h),λks h=>by cases h;exact .inr (.inr ⟨[],.bool,by simp[FX,Pt.wd],rfl⟩)⟩
 |jx _=>simp[Pt.plain]at hp
 |nil _=>simp[Pt.plain]at hp
 |jy _ _=>simp[Pt.plain]at hp
 |fn _ _=>simp[Pt.plain]at hp
 |rc _ _=>simp[Pt.plain]at hp
 |one u p=>
  simp only[Pt.parts,vd,Pt.fit]
  cases Pt.fit Γ p with
  |error b=>exact⟨λ_ h=>(by cases h;rfl),λ_ h=>(by cases h)⟩
  |ok k=>
   refine⟨λ_ h=>(by cases h),λ_ h=>?_⟩
   cases h
   cases u
   ·exact .inr (.inl ⟨1,cC .head,by simp[KR,Pt.wd,U1.str],rfl,rfl⟩)
   ·exact .inr (.inl ⟨1,cC .tail,by simp[KR,Pt.wd,U1.str],rfl,rfl⟩)
 |two u p q=>
  simp only[Pt.parts,vd,Pt.fit]
  cases Pt.fit Γ p with
  |error b=>exact⟨λ_ h=>(by cases h;rfl),λ_ h=>(by cases h)⟩
  |ok k=>
  cases Pt.fit Γ q with
  |error b=>exact⟨λ_ h=>(by cases h;rfl),λ_ h=>(by cases h)⟩
  |ok l=>
   refine⟨λ_ h=>(by cases h),λ_ h=>?_⟩
   cases h
   cases u
   ·exact .inr (.inl ⟨2,vW .cons,by simp[KR,Pt.wd,U2.str],rfl,rfl⟩)
   ·exact .inl ⟨rfl,k,l,rfl,rfl⟩
   ·exact .inr (.inl ⟨2,vW .call,by simp[KR,Pt.wd,U2.str],rfl,rfl⟩)
   ·exact .inr (.inr ⟨[.int,.int],.int,by simp[FX,Pt.wd,U2.str],by cases k<;>cases l<;>rfl⟩)
   ·exact .inr (.inr ⟨[.int,.int],.int,by simp[FX,Pt.wd,U2.str],by cases k<;>cases l<;>rfl⟩)
theorem Fk.parts{Γ:kg}{M:Nat}(h:Fk Γ M p)(hp:Pt.plain p=true)(hq:q∈Pt.parts p):Fk Γ M q:=by
 have hi:=h.hi
 have kb:=h.kb
 cases p with
 |num _=>cases hq
 |zI _=>cases hq
 |jx _=>simp[Pt.plain]at hp
 |nil _=>simp[Pt.plain]at hp
 |jy _ _=>simp[Pt.plain]at hp
 |fn _ _=>simp[Pt.plain]at hp
 |rc _ _=>simp[Pt.plain]at hp
 |one u p=>
  simp only[Pt.parts,js,xa,ii]at hq
  subst hq
  exact⟨h.cb,kb,h.lo,hi⟩
 |two u p1 p2=>
  simp only[Pt.parts,js,xa,ii]at hq
  simp only[Pt.gr]at hi
  rcases hq with rfl|rfl
  ·exact⟨h.cb,kb.1,h.lo,by lia⟩
  ·exact⟨h.cb,kb.2,h.lo,by lia⟩
theorem HX:∀ks ls:List Kd,jC (ks.map Kd.dt) (ls.map Kd.dt)=decide (ks=ls)
 |[],[]=>by simp[jC]
 |[],_::_=>by simp[jC]
 |_::_,[]=>by simp[jC]
 |k::ks,l::ls=>by simp[jC,HX ks ls,Kd.um]
theorem qys(u:V):behind (["part"]:List Str) [u] "part"=[u]:=by unfold behind;simp
theorem qyt(u v:V):behind (["part","part"]:List Str) [u,v] "part"=[u,v]:=by unfold behind;simp
theorem HK(u:U1):slotsOf u.str=(["part"]:List Str):=by cases u<;>ext
theorem HV(u:U2):slotsOf u.str=(["part","part"]:List Str):=by cases u<;>ext
theorem HW:slotsOf "num"=[]:=by ext
theorem HY:slotsOf "truth"=[]:=by ext
theorem v8{k:Str}:∀{ks:List Str}{vs:List V}{i:Nat},vV k ks=some i->i<vs.length->y0 k (ks.zip vs)=true:=fun {ks vs i}h hi=>by
 have :=jn h (jm hi)
 rw[<-tJ,this]
 rfl
section
variable {base:ll}
theorem KN(hp:Pt.plain p=true)(h:qw K H p.dt v):∃a xs,v= .ref a/\qb K H a (.str (Pt.wd p)::xs)/\xs.length<=1000/\qf K H ((Pt.parts p).map Pt.dt) (behind (slotsOf (Pt.wd p)) xs "part"):=by
 cases p with
 |num n=>obtain⟨a,u,rfl,hs,h1⟩:=xG h;exact⟨a,_,rfl,hs,by simp,by rw[show slotsOf (Pt.wd (.num n))=[]from HW];exact zp⟩
 |zI b=>obtain⟨a,u,rfl,hs,h1⟩:=xG h;exact⟨a,_,rfl,hs,by simp,by rw[show slotsOf (Pt.wd (.zI b))=[]from HY];exact zp⟩
 |one o p=>obtain⟨a,u,rfl,hs,h1⟩:=xG h;exact⟨a,_,rfl,hs,by simp,by rw[show slotsOf (Pt.wd (.one o p))=_ from HK o,qys];exact zx h1 zp⟩
 |two o p q=>obtain⟨a,u,x,rfl,hs,h1,h2⟩:=nI h;exact⟨a,_,rfl,hs,by simp,by rw[show slotsOf (Pt.wd (.two o p q))=_ from HV o,qyt];exact zx h1 (zx h2 zp)⟩
 |jx _=>simp[Pt.plain]at hp
 |nil _=>simp[Pt.plain]at hp
 |jy _ _ _=>simp[Pt.plain]at hp
 |fn _ _ _=>simp[Pt.plain]at hp
 |rc _ _ _ _ _=>simp[Pt.plain]at hp
theorem HU(hp:Pt.plain p=true):Pt.wd p∈(["num","truth","head","tail","cons","pair","call","plus","over"]:List Str):=by
 cases p with
 |num n=>simp[Pt.wd]
 |zI b=>simp[Pt.wd]
 |one o p=>cases o<;>simp[Pt.wd,U1.str]
 |two o p q=>cases o<;>simp[Pt.wd,U2.str]
 |jx _=>simp[Pt.plain]at hp
 |nil _=>simp[Pt.plain]at hp
 |jy _ _ _=>simp[Pt.plain]at hp
 |fn _ _ _=>simp[Pt.plain]at hp
 |rc _ _ _ _ _=>simp[Pt.plain]at hp
noncomputable def HC:List Str:=["let","fn","rec"]
theorem HL:∀x∈(["num","truth","head","tail","cons","pair","call","plus","over"]:List Str),decide (V.str x=V.str "name")=false/\decide (V.str x=V.str "nil")=false/\vV x HC=none:=by ext
theorem qya:∀x∈FX.map (·.1),decide (V.str x=V.str "pair")=false:=by ext
theorem qye:∀x∈(["cons","head","tail","call"]:List Str),decide (V.str x=V.str "pair")=false:=by ext
theorem qyQ{wd:Str}{R:List Kd->Except Bad Kd}(h:(wd,n,R)∈KR):wd∈(["cons","head","tail","call"]:List Str):=by
 have :wd∈KR.map (·.1):=rp.mpr ⟨_,h,rfl⟩
 exact this
theorem HG{wd:Str}{ks:List Kd}{κ:Kd}(h:(wd,ks,κ)∈FX):wd∈FX.map (·.1):=rp.mpr ⟨_,h,rfl⟩
theorem qyZ:∀x∈FX,∀k∈x.2.1++[x.2.2],k= .int\/k= .bool:=by ext
theorem HM{k:Kd}(h:k= .int\/k= .bool):qw K H k.dt (kv k):=by rcases h with rfl|rfl<;>exact uf _
theorem HN{H:Hp}:∀{ks:List Kd},(∀k∈ks,k= .int\/k= .bool)->qf K H (ks.map Kd.dt) (ks.map kv)
 |[],_=>zp
 |k::ks,h=>zx (HM (h k xK)) (HN λl hl=>h l (jF _ hl))
noncomputable def At (P:cv) (w:fe) (K:Fg) (mg:Str->Option zt) (base:ll) (k:Nat) (f:jp) (ps:List Str) (sp:Sp):Prop:=∃fd,∅ k f fd ps sp/\PySem.W.keepIn K (.ref f)=true/\Binds K fd ps []
structure KP(P:cv)(w:fe)(K:Fg)(mg:Str->Option zt)(base:ll)(UF fL fN fR:jp):Prop where
 list:mg "list"=none
 bind:∃a,mg "BINDING_RULES"=some (.ref a)/\kE K a (HC.zip [.ref fL,.ref fN,.ref fR])
 rule:∃a D,mg "KIND_RULES"=some (.ref a)/\kE K a D/\(∀wd ks κ,(wd,ks,κ)∈FX->y0 wd D=false)/\∀wd n R,(wd,n,R)∈KR->y0 wd D=true/\∃g,xl wd D=some (.ref g)/\At P w K mg base 63 g ["kinds"] (rS K UF n R)
 qyJ:∃a D,mg "FIXED_KINDS"=some (.ref a)/\kE K a D/\∀wd ks κ,(wd,ks,κ)∈FX->∃tp,xl wd D=some (.ref tp)/\∀H,qb K H tp ((ks++[κ]).map kv)
noncomputable def jD:List Pt->Nat
 |[]=>0
 |p::ps=>p.sz+jD ps
theorem rE:∀(ps:List Pt)(i:Nat)(p:Pt),ps[i]? =some p->jD (ps.take (i+1))=jD (ps.take i)+p.sz
 |[],i,p,h=>by simp at h
 |q::ps,0,p,h=>by simp at h;subst h;simp[jD]
 |q::ps,i+1,p,h=>by
  have :=rE ps i p (by simpa using h)
  simp only[ae,jD];lia
theorem Q9:∀(ps:List Pt)(i:Nat),jD (ps.take i)<=jD ps
 |[],i=>by simp[jD]
 |q::ps,0=>by simp[jD]
 |q::ps,i+1=>by have :=Q9 ps i;simp only[ae,jD];lia
theorem Zq(hp:Pt.plain p=true):jD (Pt.parts p)+1=p.sz/\∀q∈Pt.parts p,q.qa<p.qa:=by
 cases p with
 |num n=>simp[Pt.parts,jD,Pt.sz]
 |zI b=>simp[Pt.parts,jD,Pt.sz]
 |one o p=>simp[Pt.parts,jD,Pt.sz,Pt.qa]
 |two o p q=>simp[Pt.parts,jD,Pt.sz,Pt.qa];lia
 |jx _=>simp[Pt.plain]at hp
 |nil _=>simp[Pt.plain]at hp
 |jy _ _ _=>simp[Pt.plain]at hp
 |fn _ _ _=>simp[Pt.plain]at hp
 |rc _ _ _ _ _=>simp[Pt.plain]at hp
end
section
variable {base:ll}
theorem qyX{wd:Str}{R:List Kd->Except Bad Kd}{ks:List Kd}{b:Bad}(h:(wd,n,R)∈KR)(e:R ks= .error b):b= .jN:=by
 have o:∀{x:Option Kd},Pt.oh x= .error b->b= .jN:=fun {x}h=>by cases x<;>cases h;rfl
 have h1:∀u,cC u ks= .error b->b= .jN:=λu h=>by unfold cC at h;split at h;exact o h;cases h;rfl
 have h2:∀u,vW u ks= .error b->b= .jN:=λu h=>by unfold vW at h;split at h;exact o h;cases h;rfl
 simp only[KR,js,xa,ii,G']at h
 rcases h with⟨_,_,rfl⟩|⟨_,_,rfl⟩|⟨_,_,rfl⟩|⟨_,_,rfl⟩<;>first|exact h1 _ e|exact h2 _ e
theorem HB{k:Nat}{p:Pos}(G:Kn X.prog X.w X.K X.mg X.base k x ps sp)(hr:z7 k X.A)(ha:PA X.yd (e::es) t)(hg:Gl X x:=by rfl)(jw:(x==("__debug__":Str))=false:=by decide)(he:ky (e::es) X.env=(false,eval e X.env)::ky es X.env:=by rfl)(qH:(gN pos (ky es X.env)).any (·.1)=false:=by rfl):
  Qt X (.Call (.Name x p) (e::es) [] pos) (λσ H Q E=>t σ H λvs H1=>sp (vs++[]) H1 Q E):=by
 obtain⟨f,fd,F,m,kp,b⟩:=G
 exact qk9 F hr hg m kp b .nil ha jw he qH
theorem nR:qO ["part","scope","pairs","word","kinds","fixed","told"] xN (qK rT):=by symm
theorem qyK(F:qJ K "fitted" "fitted" rT .none f fd):∅ (2*0+72) f fd xN (iY K UF NN 0):=by
 refine F.qB nR (by grind) ?_
 omega
 obtain⟨pv,sc,pr,p,Γ,m,c,M,rfl,_,hd,_⟩:=h
 exact absurd hd (Y1 _)
theorem qyV{fL fN fR:jp}(F:qJ K "fitted" "fitted" rT .none f fd)(G:KP P w K mg base UF fL fN fR)(GV:⋯ 1 "values_behind" ["part","sort"] (cI K))(GR:⋯ 1 "require" ["holds"] (gm UF))(GU:⋯ 3 "looked_up" ["scope","name"] (QA NN))(GP:⋯ 63 "pair_kind" ["kinds","pairs"] (KL K))(GL:At P w K mg base (2*n+73) fL xN (gQ K UF NN (isLet n)))(GN:At P w K mg base (2*n+73) fN xN (gQ K UF NN (Hg n)))(GE:At P w K mg base (2*n+73) fR xN (gQ K UF NN (Hf n)))(GF:⋯ (2*n+72) "fitted" xN (iY K UF NN n)):∅ (2*(n+1)+72) f fd xN (iY K UF NN (n+1)):=by
 refine F.jI (k:=2*n+73) nR (λvs H Q E h=>?_) (λzy A outer s H vs Q E hr h=>?_)
 ·obtain⟨pv,sc,pr,p,Γ,m,c,M,rfl,_⟩:=h
  rfl
 ·obtain⟨v,sc,pr,p,Γ,m,c,M,rfl,hp,hd,hh,hs,hm,vn,hc,q⟩:=h
  have uh:((["inner"]:List Str)++(["scope","pairs"]:List Str)).Nodup:=by ext
  obtain⟨t1,mB,T1⟩:=G.bind
  obtain⟨t2,D2,mK,T2,nK,yK⟩:=G.rule
  obtain⟨t3,D3,mF,T3,nF⟩:=G.qyJ
  refine⟨_,qc (qC (i:=3) nR.nd rfl oI (qU zc (pv 0) qe))
   (qc (qP (qM jb (pv 3) qh (qR _)) (qg (qW (jB GU (hr.mono (by lia)) (qx (pv 1) (qx (qU zc (pv 0) qe) qk))))) zq)
   (qc (qP (qM jb (pv 3) qh (qR _)) (qg (qW (zR (qx qh (qx (qU zc (pv 0) qe) qk))))) zq)
   (qc (qP (qM u6 (pv 3) (zf (v:=.ref t1) (by rfl) mB rfl) rfl) (qg (qW (gj (CX:=zJ P w) (qU ux (zf (v:=.ref t1) (by rfl) mB rfl) (pv 3)) (qx (pv 0) (qx (pv 1) (qx (pv 2) qk)))))) zq)
   (qc (qwB (i:=4) nR.nd rfl oI (qv1 (own:=["inner"]) (x:="scope") (y:="pairs") (i:=1) (j:=2) (by ext) (by rfl) (by ext) (by rfl) (by ext) (by rfl) (by rfl) (by ext) (by rfl) (by rfl) (.inl (by rfl)) (.inl (by rfl)) (by rfl) (by rfl) (by ext))
     (eE (zw GV (hr.mono (by lia)) (qx (pv 0) (qx qh qk))))
     (λC s H fp pins=>HB GF (hr.mono (by lia)) (qx (pv 0) (qx (pv 1) (qx (pv 2) qk)))) (λC s H fp pins=>xU (i:=0) uh rfl oI (Or.inr (by rfl))) (by rfl))
   (qc (qP (qM jb (pv 3) qh (qR _)) (qg (qW (zw GP (hr.mono (by lia)) (qx (pv 4) (qx (pv 2) qk))))) zq)
   (qc (qP (qM u6 (pv 3) (zf (v:=.ref t2) (by rfl) mK rfl) rfl) (qg (qW (gj (CX:=zJ P w) (qU ux (zf (v:=.ref t2) (by rfl) mK rfl) (pv 3)) (qx (pv 4) qk)))) zq)
   (qc (qC (i:=5) nR.nd rfl oI (wD BY (by rfl) G.list aw (qx (qU ux (zf (v:=.ref t3) (by rfl) mF rfl) (pv 3)) qk)))
   (qc (qC (i:=6) nR.nd rfl oI (yE jV yG yM uq (pv 5)))
   (qc (zG (jB GR (hr.mono (by lia)) (qx (ki Fq (pv 4) (pv 5) (qR _)) qk)))
   (qg (qW (pv 6)))))))))))),?_⟩
  by_cases qH:Pt.plain p=true
  ·obtain⟨a,xs,rfl,ha,vP,wG⟩:=KN qH hp
   obtain⟨w1,w2,w3⟩:=HL _ (HU qH)
   obtain⟨hfe,hfo⟩:=qyr (Γ:=Γ) qH
   obtain⟨hsz,gZ⟩:=Zq qH
   refine⟨_,rfl,a,_,_,.str (Pt.wd p),rfl,rfl,ha,qY (j:=0) rfl,?_⟩
   right
   refine⟨_,rfl,rfl,_,rfl,?_⟩
   rw[w1]
   refine qA ⟨_,rfl,rfl,_,rfl,?_⟩
   rw[w2]
   refine qA ⟨_,rfl,_,_,_,rfl,rfl,T1,_,rfl,?_⟩
   rw[iX w3]
   refine qA ⟨_,rfl,a,"part",Pt.wd p,xs,rfl,ha,vP,λl0 H1 g1 n1 e1=>?_⟩
   refine⟨l0,rfl,⟨_,qp.of e1⟩,λD0 kr=>?_⟩
   have KS:=wG.mono g1.same
   have nP:=vn.mono g1
   have yj:=hs.mono g1
   generalize behind (slotsOf (Pt.wd p)) xs "part"=zs at e1 KS
   have lpr:l0≠pr:=by
    obtain⟨ps,_,x1,_⟩:=vn
    exact λz=>by rw[z,x1]at n1;cases n1
   have HF:D0≠pr:=by
    obtain⟨ps,_,x1,_⟩:=nP
    exact λz=>by rw[z,x1]at kr;cases kr
   have dl:l0≠D0:=λz=>by rw[z,kr]at e1;cases e1
   have gD:=qv.put (o:=.lst []) kr
   have hlen:zs.length=(Pt.parts p).length:=by rw[KS.length,za]
   refine FU (K:=K) (a:=l0) (xs:=zs) (te:=λσ H Q=>(jQ (zO 0) (jQ (zO 1) (jQ (zO 2) xx))) σ H λvs H1=>iY K UF NN n (vs++[]) H1 Q E) (ix:=[1,2]) (σ:=[some (.ref a),some (.ref sc),some (.ref pr),some (.str (Pt.wd p)),none,none,none])
    (λi ys H2=>qS pr H1 H2/\H2 D0=some (.lst ys)/\H2 l0=some (.lst zs)/\vE K H2 pr (c+jD ((Pt.parts p).take i))/\∃ks,vd Γ ((Pt.parts p).take i)= .ok ks/\qf K H2 (ks.map Kd.dt) ys) ?_ ?_ ?_ ?_
   ·exact⟨gD.b,qu,gD.same _ _ e1,nP.mono gD,[],by rw[List.take_zero];rfl,zp⟩
   ·rintro i ys H2 _ ⟨_,_,h,_⟩
    exact qp.of h
   ·rintro i x ys H2 hx ⟨gB,eD,el,ia,ks,uZ,hy⟩ Q' hq
    obtain⟨pi,vf⟩:∃pi,(Pt.parts p)[i]? =some pi:=by
     have :i<zs.length:=by
      rcases Ha i zs.length with h|h
      ·exact h
      ·rw[la h]at hx;cases hx
     exact⟨_,jm (by lia)⟩
    obtain⟨x',gJ,KA⟩:=KS.get (i:=i) (d:=pi.dt) (by rw[xH,vf];rfl)
    rw[hx]at gJ
    cases gJ
    obtain⟨ne,no⟩:=HJ vf uZ
    have kt:=nP.jv gB
    have jq:=rE _ _ _ vf
    have v9:=Q9 (Pt.parts p) (i+1)
    have HH:=gZ pi (kM vf)
    refine⟨_,rfl,_,rfl,_,rfl,x,sc,pr,pi,Γ,m,_,M,rfl,KA.zb kt,by show pi.qa<n;lia,hh.parts qH (kM vf),yj.Hl nP gB,by lia,ia,by lia,?_⟩
    cases hk:Pt.fit Γ pi with
    |error b=>
     rw[hfe b (ne b hk)]at q
     exact wU.up q (g1.b.trans gB)
    |ok k=>
    intro u H3 g3 K0 hu
    have Zz:=ia.jv g3
    have sq:=g3.keep _ _ HF eD
    refine hq u H3 sq ?_ ⟨?_,qu,(qm dl).trans (g3.keep _ _ lpr el),?_,?_⟩
    ·have :=hy.length
     rw[za,HQ uZ,i3]at this
     rw[xt]
     have :i<(Pt.parts p).length:=(km.mp vf).1
     have :(Pt.parts p).length<=3:=by cases p<;>simp[Pt.parts]
     lia
    ·have gg:=gB.trans g3
     refine⟨λb o hb e=>?_,λb e=>?_⟩
     ·rw[qm (zM e kr)]
      exact gg.keep b o hb e
     ·by_cases z:b=D0
      ·subst z;exact kr
      ·rw[qm z]at e;exact gg.none b e
    ·have kd:jt K H3 (upd H3 D0 (.lst (ys++[u]))):=qS.jv ((qS.refl D0 H3).set sq) sq
     obtain⟨ps,kl,x1,x2,x3,x4⟩:=K0
     exact⟨ps,kl,(qm HF.symm).trans x1,x2.zb kd,x3,by rw[jq];lia⟩
    ·have kd:jt K H3 (upd H3 D0 (.lst (ys++[u]))):=qS.jv ((qS.refl D0 H3).set sq) sq
     refine⟨_,no k hk,?_⟩
     rw[kG]
     exact((hy.zb Zz).zb kd).append (zx (hu.zb kd) zp)
   ·rintro ys H2 ⟨gB,eD,el,ia,ks,uZ,hy⟩
    rw[hlen,yA (qL _)]at uZ
    have hru:=hfo ks uZ
    have HR:∀k∈ks,k.qa<=1100:=λk hk=>let⟨q,hq,e⟩:=HZ uZ hk;(hh.parts qH hq).qa e
    rw[hlen,yA (qL _)]at ia
    have sj:qS pr H H2:=g1.b.trans gB
    right
    refine⟨_,rfl,rfl,_,rfl,?_⟩
    rcases hru with⟨z1,k,l,rfl,jS⟩|⟨n',R,hR,xS,jS⟩|⟨fs,κ,nS,jS⟩
    ·rw[vw (by rw[z1]:V.str (Pt.wd p)=V.str "pair")]
     obtain⟨u,r,rfl,hu,hy⟩:=zA hy
     obtain⟨u',r,rfl,jr,hy⟩:=zA hy
     cases kY hy
     refine zY ⟨_,rfl,_,rfl,D0,pr,u,u',k,l,_,rfl,qp.of eD,hu,jr,hh.qa jS,ia,by lia,λr H3 g3 K0 sy=>?_⟩
     rw[jS]at q
     exact q r H3 (sj.trans g3) (K0.le (by lia)) sy
    ·rw[qye _ (qyQ hR)]
     obtain⟨y1,g,y2,xy,y3,y4,y5⟩:=yK _ _ R hR
     refine qA ⟨_,rfl,_,_,_,rfl,rfl,T2,_,rfl,?_⟩
     rw[y1]
     refine zY ⟨_,rfl,_,_,_,_,rfl,rfl,T2,y2,g,xy,_,_,[],[],E,63,rfl,y3,hr.mono (by lia),y4,y5,.nil,wZ,_,rfl,D0,ys,ks,rfl,qp.of eD,hy,HR,xS,?_⟩
     rw[<-jS]
     cases he:Pt.fit Γ p with
     |ok κ=>
      rw[he]at q
      exact λr H3 g3 sy=>q r H3 (sj.trans g3.b) ((ia.mono g3).le (by lia)) sy
     |error b=>
      rw[he]at q
      have hb:b= .jN:=qyX hR (jS.symm.trans he)
      subst hb
      exact wU.rz (NN:=NN) q sj
    ·rw[qya _ (HG nS)]
     obtain⟨tp,eF,sF⟩:=nF _ _ _ nS
     have fl:=qyZ _ nS
     refine qA ⟨_,rfl,_,_,_,rfl,rfl,T2,_,rfl,?_⟩
     rw[nK _ _ _ nS]
     refine qA ⟨_,rfl,_,_,_,_,rfl,rfl,T3,eF,tp,_,rfl,.inr (sF H2),λl3 nA=>?_⟩
     right
     have dl':((fs++[κ]).map kv).dropLast=fs.map kv:=by rw[kG];exact de
     refine⟨_,rfl,.inl ⟨rfl,_,qp.of qu⟩,l3,_,kv κ,rfl,rfl,qu,by simp,?_⟩
     rw[uL,dl']
     have g3:=qv.put (o:=.lst (fs.map kv)) nA
     have e3:=@qu H2 l3 (.lst (fs.map kv))
     generalize upd H2 l3 (.lst (fs.map kv))=H3 at g3 e3⊢
     refine⟨_,rfl,_,rfl,D0,l3,_,_,ks.map Kd.dt,fs.map Kd.dt,rfl,rfl,qp.of (g3.same _ _ eD),qp.of e3,hy.mono g3.same,HN (λk hk=>fl k (tj _ hk)),KO hr (vy (KI HR) (by lia)),_,rfl,λhq=>?_,λhq=>?_⟩<;>rw[HX]at hq
     ·rw[jS,vb (vi hq)]at q
      exact⟨_,rfl,q _ H3 (sj.trans g3.b) ((ia.mono g3).le (by lia)) (HM (fl κ (kL _ (xX.mpr rfl))))⟩
     ·rw[jS,ke (K' hq)]at q
      exact wU.rz (NN:=NN) q (sj.trans g3.b)
  ·cases p with
   |num _=>exact absurd rfl qH
   |zI _=>exact absurd rfl qH
   |one _ _=>exact absurd rfl qH
   |two _ _ _=>exact absurd rfl qH
   |jx x=>
    obtain⟨a,u,rfl,ha,hx⟩:=xG hp
    cases xW hx
    obtain⟨kvs,s1,s2,s3,s4⟩:=hs
    rw[Pt.fit]at q
    refine⟨_,rfl,a,_,_,.str "name",rfl,rfl,ha,qY (j:=0) rfl,?_⟩
    right
    refine⟨_,rfl,rfl,_,rfl,zB (λ_=>?_) (λh=>absurd (by ext) h)⟩
    refine⟨_,rfl,_,rfl,a,_,_,.str x,rfl,rfl,ha,qY (j:=1) rfl,sc,x,kvs,rfl,s1,λr iU=>?_,λiU=>?_⟩
    ·cases hl:Γ.lookup x with
     |none=>rw[s4 x hl]at iU;cases iU
     |some k=>
      rw[hl]at q
      obtain⟨v,e1,e2⟩:=s3 x k hl
      rw[iU]at e1
      cases e1
      exact q _ H (qS.refl _ _) (vn.le (by lia)) e2
    ·cases hl:Γ.lookup x with
     |none=>
      rw[hl]at q
      exact λe t d H' g he hd=>q e t d H' g.b he hd
     |some k=>
      obtain⟨v,e1,e2⟩:=s3 x k hl
      rw[iU]at e1
      cases e1
   |nil k=>
    obtain⟨a,u,rfl,ha,hx⟩:=xG hp
    rw[Pt.fit]at q
    refine⟨_,rfl,a,_,_,.str "nil",rfl,rfl,ha,qY (j:=0) rfl,?_⟩
    right
    refine⟨_,rfl,rfl,_,rfl,zB (λh=>absurd h (by ext)) (λ_=>?_)⟩
    refine⟨_,rfl,rfl,_,rfl,zB (λ_=>?_) (λh=>absurd (by ext) h)⟩
    refine⟨_,rfl,a,_,_,u,rfl,rfl,ha,qY (j:=1) rfl,jk,λt ht=>?_⟩
    have g1:=qv.put (o:=.tup [.str "list",u]) ht
    exact q _ _ g1.b ((vn.mono g1).le (by lia)) (yV (qb.of qu) (hx.mono g1.same))
   |jy x p1 p2=>
    obtain⟨xy,y3,y4,y5⟩:=GL
    obtain⟨a,v0,v1,v2,rfl,ha,hx,uQ,v7⟩:=gy hp
    refine⟨_,rfl,a,_,_,.str "let",rfl,rfl,ha,qY (j:=0) rfl,?_⟩
    right
    refine⟨_,rfl,rfl,_,rfl,zB (λh=>absurd h (by ext)) (λ_=>?_)⟩
    refine⟨_,rfl,rfl,_,rfl,zB (λh=>absurd h (by ext)) (λ_=>?_)⟩
    refine⟨_,rfl,_,_,_,rfl,rfl,T1,_,rfl,?_⟩
    rw[v8 (i:=0) (by ext) (by show 0<3;decide)]
    refine zY ⟨_,rfl,_,_,_,_,rfl,rfl,T1,jn (i:=0) (by ext) rfl,fL,xy,_,_,[],[],E,_,rfl,y3,hr,y4,y5,.nil,wZ,_,rfl,_,rfl,_,rfl,?_⟩
    exact⟨_,sc,pr,_,Γ,m,c,M,rfl,hp,⟨hd,x,p1,p2,rfl⟩,hh,hs,hm,vn,hc,q⟩
   |fn x k p2=>
    obtain⟨xy,y3,y4,y5⟩:=GN
    obtain⟨a,v0,v1,v2,rfl,ha,hx,uQ,v7⟩:=gy hp
    refine⟨_,rfl,a,_,_,.str "fn",rfl,rfl,ha,qY (j:=0) rfl,?_⟩
    right
    refine⟨_,rfl,rfl,_,rfl,zB (λh=>absurd h (by ext)) (λ_=>?_)⟩
    refine⟨_,rfl,rfl,_,rfl,zB (λh=>absurd h (by ext)) (λ_=>?_)⟩
    refine⟨_,rfl,_,_,_,rfl,rfl,T1,_,rfl,?_⟩
    rw[v8 (i:=1) (by ext) (by show 1<3;decide)]
    refine zY ⟨_,rfl,_,_,_,_,rfl,rfl,T1,jn (i:=1) (by ext) rfl,fN,xy,_,_,[],[],E,_,rfl,y3,hr,y4,y5,.nil,wZ,_,rfl,_,rfl,_,rfl,?_⟩
    exact⟨_,sc,pr,_,Γ,m,c,M,rfl,hp,⟨hd,x,k,p2,rfl⟩,hh,hs,hm,vn,hc,q⟩
   |rc g x k l p2=>
    obtain⟨xy,y3,y4,y5⟩:=GE
    obtain⟨a,v0,v1,v2,v3,v4,rfl,ha,_⟩:=QR hp
    refine⟨_,rfl,a,_,_,.str "rec",rfl,rfl,ha,qY (j:=0) rfl,?_⟩
    right
    refine⟨_,rfl,rfl,_,rfl,zB (λh=>absurd h (by ext)) (λ_=>?_)⟩
    refine⟨_,rfl,rfl,_,rfl,zB (λh=>absurd h (by ext)) (λ_=>?_)⟩
    refine⟨_,rfl,_,_,_,rfl,rfl,T1,_,rfl,?_⟩
    rw[v8 (i:=2) (by ext) (by show 2<3;decide)]
    refine zY ⟨_,rfl,_,_,_,_,rfl,rfl,T1,jn (i:=2) (by ext) rfl,fR,xy,_,_,[],[],E,_,rfl,y3,hr,y4,y5,.nil,wZ,_,rfl,_,rfl,_,rfl,?_⟩
    exact⟨_,sc,pr,_,Γ,m,c,M,rfl,hp,⟨hd,g,x,k,l,p2,rfl⟩,hh,hs,hm,vn,hc,q⟩
end
abbrev sd:cc:=top 30
def Pt.names:Pt->List Str
 | .jy x _ _=>[x]| .fn x _ _=>[x]| .rc f x _ _ _=>[f,x]
 |_=>[]
def oQ:Pt->Bool
 | .jx _=>true
 |_=>false
theorem qyC:slotsOf "let"=(["name","part","part"]:List Str):=by ext
theorem qyL:slotsOf "fn"=(["name","kind","part"]:List Str):=by ext
theorem qyG:slotsOf "rec"=(["name","name","kind","kind","part"]:List Str):=by ext
theorem qyM:slotsOf "nil"=(["kind"]:List Str):=by ext
theorem K1:¬(("name":Str)="part"):=by ext
theorem K2:¬(("kind":Str)="part"):=by ext
theorem nE:¬(("part":Str)="name"):=by ext
theorem K4:¬(("kind":Str)="name"):=by ext
theorem HS(hp:oQ p=false)(x:Str):p.fv x↔∃(i:Nat)(q:Pt),(Pt.parts p)[i]? =some q/\q.fv x/\(i+1<(Pt.parts p).length\/x∉Pt.names p):=by
 have c1:∀(q:Pt),(∃(i:Nat)(r:Pt),[q][i]? =some r/\r.fv x/\(i+1<[q].length\/x∉Pt.names p))↔q.fv x/\x∉Pt.names p:=λq=>by
  constructor
  ·rintro⟨i,r,h1,h2,h3⟩
   match i,h1 with
   |0,h1=>cases h1;exact⟨h2,h3.elim (λz=>absurd z (by simp)) id⟩
   |i+1,h1=>simp at h1
  ·rintro⟨h1,h2⟩
   exact⟨0,q,rfl,h1,.inr h2⟩
 cases p with
 |jx y=>cases hp
 |num n=>simp[Pt.fv,Pt.parts]
 |zI n=>simp[Pt.fv,Pt.parts]
 |nil n=>simp[Pt.fv,Pt.parts]
 |one u p=>rw[show Pt.parts (.one u p)=[p]from rfl,c1];simp[Pt.fv,Pt.names]
 |fn y k p=>rw[show Pt.parts (.fn y k p)=[p]from rfl,c1];simp[Pt.fv,Pt.names]
 |rc g y k l p=>rw[show Pt.parts (.rc g y k l p)=[p]from rfl,c1];simp[Pt.fv,Pt.names]
 |two u p q=>
  rw[show Pt.parts (.two u p q)=[p,q]from rfl]
  constructor
  ·rintro(h|h)
   ·exact⟨0,p,rfl,h,.inl (by simp)⟩
   ·exact⟨1,q,rfl,h,.inr (by simp[Pt.names])⟩
  ·rintro⟨i,r,h1,h2,h3⟩
   match i,h1 with
   |0,h1=>cases h1;exact .inl h2
   |1,h1=>cases h1;exact .inr h2
   |i+2,h1=>simp at h1
 |jy y p q=>
  rw[show Pt.parts (.jy y p q)=[p,q]from rfl]
  constructor
  ·rintro(h|h)
   ·exact⟨0,p,rfl,h,.inl (by simp)⟩
   ·exact⟨1,q,rfl,h.1,.inr (by simp[Pt.names,h.2])⟩
  ·rintro⟨i,r,h1,h2,h3⟩
   match i,h1 with
   |0,h1=>cases h1;exact .inl h2
   |1,h1=>cases h1;exact .inr ⟨h2,by simpa[Pt.names]using h3⟩
   |i+2,h1=>simp at h1
theorem qyN(hp:oQ p=false):jD (Pt.parts p)<=p.sz/\∀q∈Pt.parts p,q.qa<p.qa:=by
 cases p with
 |num n=>simp[Pt.parts,jD,Pt.sz]
 |zI b=>simp[Pt.parts,jD,Pt.sz]
 |nil _=>simp[Pt.parts,jD,Pt.sz]
 |jx _=>cases hp
 |one o p=>simp[Pt.parts,jD,Pt.sz,Pt.qa]
 |two o p q=>simp[Pt.parts,jD,Pt.sz,Pt.qa];lia
 |jy _ _ _=>simp[Pt.parts,jD,Pt.sz,Pt.qa];lia
 |fn _ _ _=>simp[Pt.parts,jD,Pt.sz,Pt.qa]
 |rc _ _ _ _ _=>simp[Pt.parts,jD,Pt.sz,Pt.qa]
theorem qyB(hp:oQ p=false):decide (V.str (Pt.wd p)=V.str "name")=false:=by
 by_cases qH:Pt.plain p=true
 ·exact(HL _ (HU qH)).1
 ·have h4:∀x∈(["nil","let","fn","rec"]:List Str),decide (V.str x=V.str "name")=false:=by ext
  refine h4 _ ?_
  cases p with
  |jx _=>cases hp
  |num _=>exact absurd rfl qH
  |zI _=>exact absurd rfl qH
  |one _ _=>exact absurd rfl qH
  |two _ _ _=>exact absurd rfl qH
  |_=>simp[Pt.wd]
theorem HA(x:Str):∀ns:List Str,kX (.str x) (ns.map V.str)=decide (x∈ns)
 |[]=>rfl
 |n::ns=>by
  have ih:=HA x ns
  unfold kX at ih⊢
  rw[wq,Kt,ih]
  by_cases h:x=n
  ·subst h;simp[uR]
  ·simp[uR,h]
   intro z;exact absurd z.symm h
theorem qyD(ns:List Str):(ns.map V.str).all iw=true:=by
 rw[qqc];intro y hy
 obtain⟨b,_,rfl⟩:=rp.mp hy
 rfl
section
variable {base:ll}
theorem K6(hp:oQ p=false)(h:qw K H p.dt v):∃a xs,v= .ref a/\qb K H a (.str (Pt.wd p)::xs)/\xs.length<=1000/\qf K H ((Pt.parts p).map Pt.dt) (behind (slotsOf (Pt.wd p)) xs "part")/\behind (slotsOf (Pt.wd p)) xs "name"=(Pt.names p).map V.str:=by
 by_cases qH:Pt.plain p=true
 ·obtain⟨a,xs,rfl,h1,h2,h3⟩:=KN qH h
  refine⟨a,xs,rfl,h1,h2,h3,?_⟩
  cases p with
  |num n=>rw[show slotsOf (Pt.wd (.num n))=[]from HW];rfl
  |zI n=>rw[show slotsOf (Pt.wd (.zI n))=[]from HY];rfl
  |one o p=>rw[show slotsOf (Pt.wd (.one o p))=_ from HK o];unfold behind;cases xs<;>simp[nE,Pt.names]
  |two o p q=>
   rw[show slotsOf (Pt.wd (.two o p q))=_ from HV o];unfold behind
   match xs with
   |[]=>simp[Pt.names]
   |[_]=>simp[nE,Pt.names]
   |_::_::_=>simp[nE,Pt.names]
  |jx _=>cases hp
  |nil _=>simp[Pt.plain]at qH
  |jy _ _ _=>simp[Pt.plain]at qH
  |fn _ _ _=>simp[Pt.plain]at qH
  |rc _ _ _ _ _=>simp[Pt.plain]at qH
 ·cases p with
  |num _=>exact absurd rfl qH
  |zI _=>exact absurd rfl qH
  |one _ _=>exact absurd rfl qH
  |two _ _ _=>exact absurd rfl qH
  |jx _=>cases hp
  |nil k=>
   obtain⟨a,u,rfl,hs,h1⟩:=xG h
   refine⟨a,_,rfl,hs,by simp,?_,?_⟩<;>rw[show slotsOf (Pt.wd (.nil k))=_ from qyM]
   ·rw[show behind (["kind"]:List Str) [u] "part"=[] by unfold behind;simp[K2]];exact zp
   ·unfold behind;simp[K4,Pt.names]
  |jy x p q=>
   obtain⟨a,u,y,z,rfl,hs,hx,h1,h2⟩:=gy h
   cases xW hx
   refine⟨a,_,rfl,hs,by simp,?_,?_⟩<;>rw[show slotsOf (Pt.wd (.jy x p q))=_ from qyC]
   ·rw[show behind (["name","part","part"]:List Str) [.str x,y,z] "part"=[y,z] by unfold behind;simp[K1]];exact zx h1 (zx h2 zp)
   ·unfold behind;simp[nE,Pt.names]
  |fn x k p=>
   obtain⟨a,u,y,z,rfl,hs,hx,h1,h2⟩:=gy h
   cases xW hx
   refine⟨a,_,rfl,hs,by simp,?_,?_⟩<;>rw[show slotsOf (Pt.wd (.fn x k p))=_ from qyL]
   ·rw[show behind (["name","kind","part"]:List Str) [.str x,y,z] "part"=[z] by unfold behind;simp[K1,K2]];exact zx h2 zp
   ·unfold behind;simp[nE,K4,Pt.names]
  |rc g x k l p=>
   obtain⟨a,u,y,z,z2,z3,rfl,hs,hg,hx,h1,h2,h3⟩:=QR h
   cases xW hx
   cases xW hg
   refine⟨a,_,rfl,hs,by simp,?_,?_⟩<;>rw[show slotsOf (Pt.wd (.rc g x k l p))=_ from qyG]
   ·rw[show behind (["name","name","kind","kind","part"]:List Str) [.str g,.str x,z,z2,z3] "part"=[z3] by unfold behind;simp[K1,K2]];exact zx h3 zp
   ·unfold behind;simp[nE,K4,Pt.names]
end
theorem K7(kvs:List (Key×V))(k:Key)(u:V):(k∈kvs.map B'->(putK kvs k u).map B'=kvs.map B')/\(k∉kvs.map B'->(putK kvs k u).map B'=kvs.map B'++[k]):=by
 unfold putK
 have e:((kvs.any λkv=>decide (kv.1=k))=true)↔k∈kvs.map B':=by
  rw[List.any_eq_true]
  constructor
  ·rintro⟨p,hp,e⟩;exact rp.mpr ⟨p,hp,vi e⟩
  ·intro h;obtain⟨p,hp,e⟩:=rp.mp h;exact⟨p,hp,vw e⟩
 refine⟨λh=>?_,λh=>?_⟩
 ·rw[vb (e.mpr h),Jn]
  apply qzT
  intro a _
  show(if a.1=k then(a.1,u)else a).1=a.1
  split<;>rfl
 ·rw[ke (λz=>h (e.mp z))];simp
theorem K8{xs:List Str}:(Sum.inr x:Key)∈xs.map (λy=>(Sum.inr y:Key))↔x∈xs:=by
 rw[rp]
 exact⟨λ⟨y,h,e⟩=>by cases e;exact h,λh=>⟨x,h,rfl⟩⟩
abbrev KeysAre(kvs:List (Key×V))(xs:List Str):Prop:=kvs.map B'=xs.map λy=>(Sum.inr y:Key)
theorem KeysAre.put{acc ys:List Str}{u:V}(h:KeysAre kvs (Pt.ins acc ys)):KeysAre (putK kvs (Sum.inr x:Key) u) (Pt.ins acc (ys++[x])):=by
 unfold KeysAre at *
 rw[Pt.qwv]
 by_cases z:x∈Pt.ins acc ys
 ·rw[(K7 kvs _ u).1 (by rw[h];exact K8.mpr z),vb z,h]
 ·rw[(K7 kvs _ u).2 (by rw[h];exact λq=>z (K8.mp q)),ke z,h];simp
theorem KeysAre.strs{xs:List Str}(h:KeysAre kvs xs):kvs.map (λp=>kV p.1)=xs.map V.str:=by
 have e:kvs.map (λp=>kV p.1)=(kvs.map B').map kV:=by rw[Jn];rfl
 rw[e,h,Jn];rfl
theorem KeysAre.length{xs:List Str}(h:KeysAre kvs xs):kvs.length=xs.length:=by
 have :=ag R' h
 simpa using this
theorem qyF(h:oQ p=false):Pt.outs p=Pt.kW (Pt.names p) (Pt.parts p) (Pt.parts p).length:=by
 cases p with
 |jx x=>cases h
 |num n=>rfl
 |zI n=>rfl
 |nil n=>rfl
 |one u p=>simp[Pt.outs,Pt.kW,Pt.names,Pt.parts,Pt.rB]
 |two u p q=>simp[Pt.outs,Pt.kW,Pt.names,Pt.parts,Pt.rB]
 |jy x p q=>simp[Pt.outs,Pt.kW,Pt.names,Pt.parts,Pt.rB]
 |fn x k p=>simp[Pt.outs,Pt.kW,Pt.names,Pt.parts,Pt.rB]
 |rc f x k l p=>simp[Pt.outs,Pt.kW,Pt.names,Pt.parts,Pt.rB]
theorem HE(ns:List Str)(ps:List Pt):∀i,(Pt.kW ns ps i).length<=jD (ps.take i)
 |0=>by simp[Pt.kW]
 |i+1=>by
  have ih:=HE ns ps i
  rw[Pt.kW]
  cases e:ps[i]?with
  |none=>
   have h:ps.length<=i:=List.getElem?_eq_none_iff.mp e
   rw[yA h]at ih
   rw[yA (by lia)];exact ih
  |some q=>
   have h1:=Pt.iJ (Pt.kW ns ps i) ((Pt.outs q).filter λx=>decide (i+1<ps.length\/x∉ns))
   have h2:=nz (λx=>decide (i+1<ps.length\/x∉ns)) (Pt.outs q)
   have h3:=Pt.yX q
   have h4:=rE _ _ _ e
   show(Pt.ins _ _).length<=_
   lia
section
variable {base:ll}
inductive qyH(K:Fg)(n:Nat)(vs:List V)(H:Hp)(Q:VK):Prop
 |mk (v:V) (p:Pt) (qQ:vs=[v]) (qZ:qw K H p.dt v) (qV:p.qa<n) (qG:p.sz<=50000) (zm:∀l H',qv H H'->H l=none->H' l=some (.lst ((Pt.outs p).map V.str))->Q (.ref l) H')
def bq(K:Fg)(n:Nat):Sp:=λvs H Q zh=>qyH K n vs H Q
structure K9(mg:Str->Option zt):Prop where
 enumerate:mg "enumerate"=none
 len:mg "len"=none
 list:mg "list"=none
theorem cL:qO ["part","found","bound","parts","place","inner","name"] ["part"] (qK sd):=by symm
theorem qyP(F:qJ K "outside_names" "outside_names" sd .none f fd):∅ (0+2) f fd ["part"] (bq K 0):=by
 refine F.qB cL (by grind) ?_
 omega
 obtain⟨v,p,rfl,_,hd,_⟩:=h
 exact absurd hd (Y1 _)
theorem qyR(F:qJ K "outside_names" "outside_names" sd .none f fd)(G:K9 mg)(GV:⋯ 1 "values_behind" ["part","sort"] (cI K))(GB:⋯ 2 "names_bound" ["part"] (rP K))(GO:⋯ (n+2) "outside_names" ["part"] (bq K n)):∅ (n+1+2) f fd ["part"] (bq K (n+1)):=by
 refine F.qB (k:=n+2) cL (λvs H Q E h=>?_) (λzy A outer s H vs Q E hr h=>?_)
 ·obtain⟨v,p,rfl,_⟩:=h
  rfl
 ·obtain⟨v,p,rfl,hp,hd,hz,q⟩:=h
  refine⟨_,qc (qP (qM jb (qU zc (pv 0) qe) qh (qR _)) (qg (qW (zQ (qx (qU zc (pv 0) qe) qk)))) zq)
   (qc (qC (i:=1) cL.nd rfl oI QK)
   (qc (qC (i:=2) cL.nd rfl oI (zw GB (hr.mono (by lia)) (qx (pv 0) qk)))
   (qc (qC (i:=3) cL.nd rfl oI (zw GV (hr.mono (by lia)) (qx (pv 0) (qx qh qk))))
   (qc (nj i4 rfl (qwe (by rfl) G.enumerate (qx (pv 3) qk)) (fh rfl (uD (xU (i:=4) cL.nd rfl oI) (uD (xU (i:=5) cL.nd rfl oI) fm)))
    (qg (nj i4 rfl (eE (zw GO hr (qx (pv 5) qk))) (xU (i:=6) cL.nd rfl oI)
     (qg (qP (yb (qM nk (pv 4) (jZ wQ (by rfl) G.len xV (qx (pv 3) qk)) (qR _)) (iS (qM BW (pv 6) (pv 2) rfl))).pt
      (qg (QX (u4 hr.u2) (pv 1) (pv 6) lV rfl)) zq)))))
   (qg (qW (wD (qwX rfl) (by rfl) G.list aw (qx (pv 1) qk)))))))),?_⟩
  left
  by_cases kT:oQ p=true
  ·cases p with
   |jx x=>
    obtain⟨a,u,rfl,ha,hx⟩:=xG hp
    cases xW hx
    refine⟨_,rfl,a,_,_,.str "name",rfl,rfl,ha,qY (j:=0) rfl,rfl,_,rfl,zB (λ_=>?_) (λh=>absurd (by ext) h)⟩
    refine⟨_,rfl,a,_,_,.str x,rfl,rfl,ha,qY (j:=1) rfl,xJ,λl hl=>?_⟩
    exact q l _ (qv.put hl) hl qu
   |_=>cases kT
  ·have Zj:oQ p=false:=by simpa using kT
   obtain⟨a,ws,rfl,ha,bx,wG,Vq⟩:=K6 Zj hp
   have w1:=qyB Zj
   obtain⟨hsz,gZ⟩:=qyN Zj
   refine⟨_,rfl,a,_,_,.str (Pt.wd p),rfl,rfl,ha,qY (j:=0) rfl,rfl,_,rfl,?_⟩
   rw[w1]
   refine qA ?_
   intro d oZ
   right
   have g1:=qv.put (o:=.dK []) oZ
   have e1:=@qu H d (.dK [])
   generalize upd H d (.dK [])=H1 at g1 e1⊢
   refine⟨_,rfl,a,Pt.wd p,ws,rfl,qb.mono g1.same ha,bx,λb H2 g2 n2 e2=>?_⟩
   rw[Vq]at e2
   right
   have zD:=g1.trans g2
   refine⟨_,rfl,a,"part",Pt.wd p,ws,rfl,qb.mono zD.same ha,bx,λl0 H3 g3 n3 e3=>?_⟩
   right
   have kI:=zD.trans g3
   have Vz:=wG.mono kI.same
   generalize behind (slotsOf (Pt.wd p)) ws "part"=zs at e3 Vz
   have uw:=g3.same _ _ e2
   have yQ:=(g2.trans g3).same _ _ e1
   have bd:b≠d:=λz=>by rw[z,e1]at n2;cases n2
   have ld:l0≠d:=λz=>by rw[z,g2.same _ _ e1]at n3;cases n3
   have hlen:zs.length=(Pt.parts p).length:=by rw[Vz.length,za]
   refine⟨_,rfl,l0,rfl,⟨_,qp.of e3⟩,?_⟩
   refine qwQ (K:=K) (l:=l0) (xs:=zs) (λi σ H4=>∃o4 o5 o6 kvs,σ=[some (.ref a),some (.ref d),some (.ref b),some (.ref l0),o4,o5,o6]/\qv H H4/\H4 b=some (.lst ((Pt.names p).map V.str))/\H4 l0=some (.lst zs)/\qf K H4 ((Pt.parts p).map Pt.dt) zs/\H4 d=some (.dK kvs)/\KeysAre kvs (Pt.kW (Pt.names p) (Pt.parts p) i)) ?_ ?_ ?_ ?_
   ·exact⟨_,_,_,[],rfl,kI,uw,e3,Vz,yQ,rfl⟩
   ·rintro i σ H4 _ ⟨o4,o5,o6,kvs,rfl,_,_,h,_⟩
    exact qp.of h
   ·rintro i y T σ H4 hy ⟨o4,o5,o6,kvs,rfl,g4,eb,el,xw,ed,gX⟩ hT
    obtain⟨pi,vf⟩:∃pi,(Pt.parts p)[i]? =some pi:=by
     have :i<zs.length:=by
      rcases Ha i zs.length with h|h
      ·exact h
      ·rw[la h]at hy;cases hy
     exact⟨_,jm (by lia)⟩
    obtain⟨y',yp,Vj⟩:=xw.get (i:=i) (d:=pi.dt) (by rw[xH,vf];rfl)
    rw[hy]at yp
    cases yp
    have jq:=rE _ _ _ vf
    have v9:=Q9 (Pt.parts p) (i+1)
    have HH:=gZ pi (kM vf)
    have g5:=qv.put (o:=.tup [.int (i+1:Nat),y]) hT
    refine⟨T,_,rfl,qb.of qu,rfl,_,_,rfl,_,_,rfl,rfl,?_⟩
    right
    have Pq:=g5.same _ _ eb
    have bw:=g5.same _ _ el
    have Vx:=g5.same _ _ ed
    have Pz:=xw.mono g5.same
    have Pj:=Vj.mono g5.same
    generalize upd H4 T (.tup [.int (i+1:Nat),y])=H5 at g5 Pq bw Vx Pz Pj⊢
    refine⟨_,rfl,y,pi,rfl,Pj,by lia,by lia,λm H6 g6 n6 e6=>?_⟩
    have se:=Pt.yX pi
    have hal:=HE (Pt.names p) (Pt.parts p) i
    have yY:=gX.length
    have ea:Pt.kW (Pt.names p) (Pt.parts p) (i+1)=Pt.ins (Pt.kW (Pt.names p) (Pt.parts p) i) ((Pt.outs pi).filter λx=>decide (i+1<(Pt.parts p).length\/x∉Pt.names p)):=by rw[Pt.kW,vf]
    generalize Pt.outs pi=xs at e6 se ea
    have g06:=(g4.trans g5).trans g6
    have sQ:=g6.same _ _ Pq
    have el6:=g6.same _ _ bw
    have bc:=g6.same _ _ Vx
    have md:m≠d:=λz=>by rw[z,Vx]at n6;cases n6
    refine⟨m,rfl,⟨_,qp.of e6⟩,?_⟩
    refine qjE (K:=K) (a:=m) (xs:=xs.map V.str) (λk σ H7=>∃o6 kO,σ=[some (.ref a),some (.ref d),some (.ref b),some (.ref l0),some (.int (i+1:Nat)),some y,o6]/\qv H H7/\H7 b=some (.lst ((Pt.names p).map V.str))/\H7 l0=some (.lst zs)/\qf K H7 ((Pt.parts p).map Pt.dt) zs/\H7 m=some (.lst (xs.map V.str))/\H7 d=some (.dK kO)/\kO.length<=kvs.length+k/\KeysAre kO (Pt.ins (Pt.kW (Pt.names p) (Pt.parts p) i) ((xs.take k).filter λx=>decide (i+1<(Pt.parts p).length\/x∉Pt.names p)))) ?_ ?_ ?_ ?_
    ·exact⟨_,kvs,rfl,g06,sQ,el6,Pz.mono g6.same,e6,bc,by lia,gX⟩
    ·rintro k σ H7 _ ⟨o6,kO,rfl,_,_,_,_,h,_⟩
     exact qp.of h
    ·rintro k z σ H7 cW ⟨o6,kO,rfl,g7,cG,el7,hds7,em7,iO,hkl7,hkv7⟩
     rw[xH]at cW
     obtain⟨x,hx,rfl⟩:=ve.mp cW
     right
     have rA:k<xs.length:=(km.mp hx).1
     have fin:∀(sZ:List (Key×V)),((i+1<(Pt.parts p).length\/x∉Pt.names p)->sZ=putK kO (Sum.inr x:Key) (.bl true))->(¬(i+1<(Pt.parts p).length\/x∉Pt.names p)->sZ=kO)->sZ.length<=kvs.length+(k+1)/\KeysAre sZ (Pt.ins (Pt.kW (Pt.names p) (Pt.parts p) i) ((xs.take (k+1)).filter λx=>decide (i+1<(Pt.parts p).length\/x∉Pt.names p))):=by
      intro sZ h1 h2
      rw[my,hx,TK]
      by_cases hc:i+1<(Pt.parts p).length\/x∉Pt.names p
      ·rw[h1 hc]
       refine⟨by have :=rg kO (Sum.inr x:Key) (.bl true);lia,?_⟩
       rw[show(some x).toList.filter (λx=>decide (i+1<(Pt.parts p).length\/x∉Pt.names p))=[x] by simp[hc]]
       exact hkv7.put
      ·rw[h2 hc]
       refine⟨by lia,?_⟩
       rw[show(some x).toList.filter (λx=>decide (i+1<(Pt.parts p).length\/x∉Pt.names p))=[] by simp[hc],lr]
       exact hkv7
     refine⟨_,rfl,_,rfl,l0,zs,rfl,.inl (qp.of el7),_,_,rfl,rfl,_,rfl,?_⟩
     have put:∀(hc:i+1<(Pt.parts p).length\/x∉Pt.names p),DN (zO 1) (zO 6) (tC (.bl true)) {nx:=λσ H7=>∃o6 kO,σ=[some (.ref a),some (.ref d),some (.ref b),some (.ref l0),some (.int (i+1:Nat)),some y,o6]/\qv H H7/\H7 b=some (.lst ((Pt.names p).map V.str))/\H7 l0=some (.lst zs)/\qf K H7 ((Pt.parts p).map Pt.dt) zs/\H7 m=some (.lst (xs.map V.str))/\H7 d=some (.dK kO)/\kO.length<=kvs.length+(k+1)/\KeysAre kO (Pt.ins (Pt.kW (Pt.names p) (Pt.parts p) i) ((xs.take (k+1)).filter λx=>decide (i+1<(Pt.parts p).length\/x∉Pt.names p))),rt:=Q} [some (.ref a),some (.ref d),some (.ref b),some (.ref l0),some (.int (i+1:Nat)),some y,some (.str x)] H7:=by
      intro hc
      obtain⟨f1,f2⟩:=fin _ (λ_=>rfl) (λh=>absurd hc h)
      refine⟨_,rfl,_,rfl,d,_,rfl,cj.k (k:=Sum.inr x) iO (by rw[xt];lia),?_⟩
      have kt:jt K H7 (upd H7 d (.dK (putK kO (Sum.inr x:Key) (.bl true)))):=λc us xq=>by
       rcases xq with(xq|⟨o,xq⟩)|xq
       ·exact .inl (.inl ((qm (j9 xq iO (by intro z;cases z))).trans xq))
       ·exact .inl (.inr ⟨o,(qm (j9 xq iO (by intro z;cases z))).trans xq⟩)
       ·exact .inr xq
      exact⟨_,_,rfl,g7.set oZ,(qm bd).trans cG,(qm ld).trans el7,hds7.zb kt,(qm md).trans em7,qu,f1,f2⟩
     by_cases vY:i+1<(Pt.parts p).length
     ·rw[vw (show((i+1:Nat):Int)<(zs.length:Int) by lia)]
      exact zY (zY (put (.inl vY)))
     ·rw[xn (show¬((i+1:Nat):Int)<(zs.length:Int) by lia)]
      refine qA ⟨_,rfl,_,rfl,b,_,rfl,.inl (qp.of cG),rfl,qyD _,_,rfl,?_⟩
      rw[vb rfl,HA]
      by_cases xQ:x∈Pt.names p
      ·rw[vw xQ]
       obtain⟨f1,f2⟩:=fin kO (λh=>h.elim (λz=>absurd z vY) (λz=>absurd xQ z)) (λ_=>rfl)
       exact qA ⟨_,kO,rfl,g7,cG,el7,hds7,em7,iO,f1,f2⟩
      ·rw[xn xQ]
       exact zY (put (.inr xQ))
    ·rintro σ H7 ⟨o6,kO,rfl,g7,cG,el7,hds7,em7,iO,hkl7,hkv7⟩
     refine⟨_,_,_,kO,rfl,g7,cG,el7,hds7,iO,?_⟩
     rw[za,yA (qL _)]at hkv7
     rw[ea];exact hkv7
   ·rintro σ H4 ⟨o4,o5,o6,kvs,rfl,g4,eb,el,xw,ed,gX⟩
    refine⟨_,rfl,d,kvs,rfl,ed,λl hl=>?_⟩
    rw[gX.strs,hlen,<-qyF Zj]
    exact q l _ (g4.trans (qv.put hl)) (g4.none _ hl) qu
end
abbrev Vk:cc:=top 52
abbrev Zx:cc:=top 53
abbrev Zk:cc:=top 54
abbrev cM:cc:=top 59
abbrev Vv:cc:=top 60
abbrev gK:cc:=top 61
section
variable {base:ll}
inductive uJ(H:Hp)(sl:jp)(S:Pt.Sl)(p:Pt):Prop
 |mk (kvs:List (Key×V)) (qQ:H sl=some (.dK kvs)) (qZ:kvs.length+2*p.qa<=200000) (qV:∀x,p.fv x->jo kvs (Sum.inr x:Key)=some (.int (Pt.yJ S x:Nat)))
theorem uJ.mono{sl:jp}{S:Pt.Sl}(h:uJ H sl S p)(g:qv H H'):uJ H' sl S p:=let⟨kvs,a,b,c⟩:=h;⟨kvs,g.same _ _ a,b,c⟩
theorem uJ.sub{sl:jp}{S:Pt.Sl}(h:uJ H sl S p)(d:q.qa<=p.qa)(f:∀x,q.fv x->p.fv x):uJ H sl S q:=let⟨kvs,a,b,c⟩:=h;⟨kvs,a,by lia,λx hx=>c x (f x hx)⟩
abbrev yU:List Str:=["part","slots","height","last"]
abbrev jK(K:Fg)(H:Hp)(c:List zX)(ys:List V):Prop:=qf K H (c.map zX.dt) ys
theorem jK.len{c:List zX}(h:jK K H c ys):ys.length=c.length:=by rw[qf.length h,za]
theorem jK.code{S:Pt.Sl}{h:Nat}{b:Bool}(g:jK K H (Pt.codeOf p S h b) ys):ys.length+4<=6*p.sz:=by rw[g.len];exact Pt.gw p S h b
theorem jK.app{c d:List zX}{zs:List V}(h:jK K H c ys)(g:jK K H d zs):jK K H (c++d) (ys++zs):=by unfold jK;rw[kG];exact qf.append h g
theorem jK.one{o:zX}{t:jp}(h:qb K H t (.str o.wd::vs))(g:qf K H o.args vs):jK K H [o] [.ref t]:=zx (cV h (zx (uf _) g)) zp
def wz(S:Pt.Sl):Nat->List Pt->List zX
 |_,[]=>[]
 |h,p::ps=>Pt.codeOf p S h false++wz S (h+1) ps
theorem Px(S:Pt.Sl):∀(h:Nat)(ps qs:List Pt),wz S h (ps++qs)=wz S h ps++wz S (h+ps.length) qs
 |h,[],qs=>rfl
 |h,p::ps,qs=>by
  show Pt.codeOf p S h false++wz S (h+1) (ps++qs)=_
  rw[Px S (h+1) ps qs,zH,show h+(ps.length+1)=h+1+ps.length by lia,<-NA];rfl
inductive qyA(K:Fg)(B:Pt->Prop)(vs:List V)(H:Hp)(Q:VK):Prop
 |mk (v:V) (sl:jp) (h:Nat) (b:Bool) (p:Pt) (S:Pt.Sl) (qQ:vs=[v,.ref sl,.int h,.bl b]) (qZ:qw K H p.dt v) (qV:B p) (qG:p.sz<=50000) (zm:uJ H sl S p) (je:∀l ys H',qv H H'->H l=none->H' l=some (.lst ys)->jK K H' (Pt.codeOf p S h b) ys->Q (.ref l) H')
def Vw(K:Fg)(B:Pt->Prop):Sp:=λvs H Q zh=>qyA K B vs H Q
def NL:Pt->Bool
 | .one _ p=>NL p| .two _ p q=>NL p&&NL q| .fn _ _ p=>NL p| .rc _ _ _ _ p=>NL p| .jy _ _ _=>false
 |_=>true
theorem Pw(h:NL p=true)(hq:q∈Pt.parts p):NL q=true:=by
 cases p with
 |one u p=>simp only[Pt.parts,js,xa,ii]at hq;subst hq;exact h
 |two u p r=>
  simp only[Pt.parts,js,xa,ii]at hq
  simp only[NL,o3]at h
  rcases hq with rfl|rfl
  ·exact h.1
  ·exact h.2
 |fn x k p=>simp only[Pt.parts,js,xa,ii]at hq;subst hq;exact h
 |rc g x k l p=>simp only[Pt.parts,js,xa,ii]at hq;subst hq;exact h
 |jy _ _ _=>cases h
 |_=>cases hq
def bg(K:Fg)(n:Nat):Sp:=Vw K λp=>p.qa<n/\NL p=true
inductive qyE(K:Fg)(n:Nat)(vs:List V)(H:Hp)(Q:VK):Prop
 |mk (v:V) (sl:jp) (h:Nat) (p:Pt) (S:Pt.Sl) (qQ:vs=[v,.ref sl,.int h]) (qZ:qw K H p.dt v) (qV:Pt.plain p=true) (qG:(p.qa<n+1/\NL p=true)) (zm:p.sz<=50000) (je:uJ H sl S p) (kc:∀l ys H',qv H H'->H l=none->H' l=some (.lst ys)->ys.length<=6*jD (Pt.parts p)->jK K H' (wz S h (Pt.parts p)) ys->Q (.ref l) H')
def Zv(K:Fg)(n:Nat):Sp:=λvs H Q zh=>qyE K n vs H Q
theorem qy0(hp:Pt.plain p=true)(hq:q∈Pt.parts p):∀x,q.fv x->p.fv x:=by
 intro x hx
 have hn:oQ p=false:=by cases p<;>first|rfl|simp[Pt.plain]at hp
 obtain⟨i,hi,e⟩:=ap hq
 refine(HS hn x).mpr ⟨i,q,by rw[jm hi,e],hx,.inr ?_⟩
 cases p<;>first|(simp[Pt.names];done)|(simp[Pt.plain]at hp;done)
theorem Zw:qO ["part","slots","height","code","count","inner"] ["part","slots","height"] (qK Zx):=by symm
theorem qy1(F:qJ K "operands_code" "operands_code" Zx .none f fd)(zE:mg "enumerate"=none)(GV:⋯ 1 "values_behind" ["part","sort"] (cI K))(GC:⋯ (3*n+4) "code_of" yU (bg K n)):∅ (3*n+5) f fd ["part","slots","height"] (Zv K n):=by
 refine F.qB Zw (by grind) ?_
 omega
 obtain⟨v,sl,h0,p,S,rfl,hp,qH,⟨hd,nl⟩,hz,hs,q⟩:=h
 refine⟨_,qc (qC (i:=3) Zw.nd rfl oI (zQ qk))
  (qc (nj i4 rfl (Fx (by rfl) zE (qx (zw GV (hr.mono (by lia)) (qx (pv 0) (qx qh qk))) qk))
   (fh rfl (uD (xU (i:=4) Zw.nd rfl oI) (uD (xU (i:=5) Zw.nd rfl oI) fm)))
   (qg (zG (jA jV PySem.F.slot_list_extend PySem.F.type_list_extend BG (pv 3) (qx (zw GC hr (qx (pv 5) (qx (pv 1) (qx (zV oR (pv 2) (pv 4)) (qx lV qk))))) qk)))))
  (qg (qW (pv 3)))),?_⟩
 left
 obtain⟨a,ws,rfl,ha,bx,wG⟩:=KN qH hp
 obtain⟨hsz,gZ⟩:=Zq qH
 refine⟨oO,λl hl=>?_⟩
 right
 have g1:=qv.put (o:=.lst []) hl
 have e1:=@qu H l (.lst [])
 generalize upd H l (.lst [])=H1 at g1 e1⊢
 refine⟨_,rfl,a,"part",Pt.wd p,ws,rfl,qb.mono g1.same ha,bx,λo H2 g2 n2 e2=>?_⟩
 have zD:=g1.trans g2
 have Vy:=wG.mono zD.same
 generalize behind (slotsOf (Pt.wd p)) ws "part"=zs at e2 Vy
 have lo:o≠l:=λz=>by rw[z,e1]at n2;cases n2
 have hlen:zs.length=(Pt.parts p).length:=by rw[Vy.length,za]
 refine⟨o,rfl,⟨_,qp.of e2⟩,?_⟩
 refine Fo (K:=K) (l:=o) (xs:=zs) (λi σ H3=>∃o4 o5 ys,σ=[some (.ref a),some (.ref sl),some (.int h0),some (.ref l),o4,o5]/\qv H H3/\H3 o=some (.lst zs)/\qf K H3 ((Pt.parts p).map Pt.dt) zs/\H3 l=some (.lst ys)/\ys.length<=6*jD ((Pt.parts p).take i)/\jK K H3 (wz S h0 ((Pt.parts p).take i)) ys) ?_ ?_ ?_ ?_
 ·exact⟨_,_,[],rfl,zD,e2,Vy,g2.same _ _ e1,by simp,zp⟩
 ·rintro i σ H3 _ ⟨o4,o5,ys,rfl,_,h,_⟩
  exact qp.of h
 ·rintro i y T σ H3 hy ⟨o4,o5,ys,rfl,g3,eo,xw,el,Zy,cD⟩ hT
  obtain⟨pi,vf⟩:∃pi,(Pt.parts p)[i]? =some pi:=by
   have :i<zs.length:=by
    rcases Ha i zs.length with h|h
    ·exact h
    ·rw[la h]at hy;cases hy
   exact⟨_,jm (by lia)⟩
  obtain⟨y',yp,Vj⟩:=xw.get (i:=i) (d:=pi.dt) (by rw[xH,vf];rfl)
  rw[hy]at yp
  cases yp
  have jq:=rE _ _ _ vf
  have v9:=Q9 (Pt.parts p) (i+1)
  have Vu:=kM vf
  have HH:=gZ pi Vu
  have g4:=qv.put (o:=.tup [.int i,y]) hT
  refine⟨T,_,rfl,qb.of qu,rfl,_,_,rfl,_,_,rfl,rfl,?_⟩
  right
  have wj:=g4.same _ _ el
  have Py:=g4.same _ _ eo
  have Pu:=xw.mono g4.same
  have Po:=Vj.mono g4.same
  generalize upd H3 T (.tup [.int i,y])=H4 at g4 wj Py Pu Po⊢
  have Zu:=g3.trans g4
  refine⟨_,rfl,.inl ⟨rfl,_,qp.of wj⟩,_,rfl,_,rfl,_,rfl,_,rfl,_,_,rfl,rfl,y,sl,h0+i,false,pi,S,by rw[show((h0+i:Nat):Int)=(h0:Int)+(i:Int) by lia];rfl,Po,⟨by lia,Pw nl Vu⟩,by lia,(hs.mono Zu).sub (by lia) (qy0 qH Vu),λl' Vo H5 g5 n5 e5 gW=>?_⟩
  have Vi:=gW.code
  have bw:=g5.same _ _ wj
  refine⟨l,l',ys,Vo,rfl,rfl,bw,e5,by rw[xt];lia,?_⟩
  have kt:jt K H5 (upd H5 l (.lst (ys++Vo))):=qS.jv ((qS.refl l H5).set bw) bw
  refine⟨_,_,ys++Vo,rfl,(Zu.trans g5).set hl,(qm lo).trans (g5.same _ _ Py),(Pu.mono g5.same).zb kt,qu,?_,?_⟩
  ·rw[va];lia
  ·have hi:i<(Pt.parts p).length:=(km.mp vf).1
   rw[my,vf,Px,i3,Nat.min_eq_left (by lia)]
   show jK K _ (_++(Pt.codeOf pi S (h0+i) false++[])) _
   rw[lr]
   exact jK.app (qf.zb kt ((cD.mono g4.same).mono g5.same)) (qf.zb kt gW)
 ·rintro σ H3 ⟨o4,o5,ys,rfl,g3,eo,xw,el,Zy,cD⟩
  rw[hlen,yA (qL _)]at Zy cD
  exact⟨_,rfl,q l ys H3 g3 hl el Zy cD⟩
def Pn(n:Nat)(p:Pt):Prop:=(p.qa<n+1/\NL p=true)/\∃q r,p= .two .call q r
theorem Pb:qO ["part","slots","height","last","order"] yU (qK Zk):=by symm
theorem qy2(F:qJ K "call_code" "call_code" Zk .none f fd)(GO:⋯ (3*n+5) "operands_code" ["part","slots","height"] (Zv K n)):∅ (3*n+6) f fd yU (Vw K (Pn n)):=by
 refine F.qB Pb (by grind) ?_
 omega
 obtain⟨v,sl,h0,b,p,S,rfl,hp,⟨hd,q1,q2,rfl⟩,hz,hs,q⟩:=h
 refine⟨_,qc (qC (i:=4) Pb.nd rfl oI (lU (ku (pv 3)) (zR (qx qh qk)) (zR (qx qh qk))))
  (qg (qW (zV j4 (zw GO hr (qx (pv 0) (qx (pv 1) (qx (pv 2) qk)))) (zQ (qx (pv 4) qk))))),?_⟩
 left
 have rest:∀(H1:Hp)(c:jp),qv H H1->qb K H1 c [.str (if b then zX.last else zX.call).wd]->fk (vM Qn (yR (Zv K n) [] E0 (jQ (zO 0) (jQ (zO 1) (jQ (zO 2) xx)))) (ny (jQ (zO 4) xx))) {nx:=λ_ H'=>Q .qd H',rt:=Q} [some v,some (.ref sl),some (.int h0),some (.bl b),some (.ref c)] H1:=by
  intro H1 c g1 vY
  refine⟨_,rfl,_,rfl,_,rfl,v,sl,h0,_,S,rfl,hp.mono g1.same,rfl,hd,hz,hs.mono g1,λl ys H2 g2 n2 e2 vo xQ=>?_⟩
  refine⟨_,rfl,xJ,λl3 nA=>?_⟩
  have g3:=qv.put (o:=.lst [.ref c]) nA
  have uw:=g3.same _ _ e2
  have e3:=@qu H2 l3 (.lst [.ref c])
  generalize upd H2 l3 (.lst [.ref c])=H3 at g3 uw e3⊢
  have bf:=(g1.trans g2).trans g3
  have hb:jD (Pt.parts (.two .call q1 q2))+1=(Pt.two .call q1 q2).sz:=(Zq (p:=.two .call q1 q2) rfl).1
  refine⟨l,l3,_,_,rfl,rfl,uw,e3,by rw[xt];simp;lia,λl4 Zo=>?_⟩
  have g4:=qv.put (o:=.lst (ys++[.ref c])) Zo
  refine q l4 _ _ (bf.trans g4) (bf.none _ Zo) qu ?_
  have iI:jK K (upd H3 l4 (.lst (ys++[.ref c]))) [if b then zX.last else zX.call] [.ref c]:=jK.one (qb.mono ((g2.trans g3).trans g4).same vY) (by cases b<;>exact zp)
  have Pd:=jK.app (xQ.mono (g3.trans g4).same) iI
  have e:wz S h0 (Pt.parts (.two .call q1 q2))++[if b then zX.last else zX.call]=Pt.codeOf (.two .call q1 q2) S h0 b:=by simp[wz,Pt.parts,Pt.codeOf]
  rw[e]at Pd
  exact Pd
 refine⟨_,rfl,b,rfl,?_⟩
 cases b with
 |true=>exact zY ⟨xJ,λc hc=>rest _ c (qv.put hc) (qb.of qu)⟩
 |false=>exact qA ⟨xJ,λc hc=>rest _ c (qv.put hc) (qb.of qu)⟩
def Pf(p:Pt):Prop:=(∃n,p= .num n)\/(∃b,p= .zI b)\/(∃x,p= .jx x)\/∃k,p= .nil k
inductive qy3(K:Fg)(vs:List V)(H:Hp)(Q:VK):Prop
 |mk (v:V) (sl:jp) (p:Pt) (S:Pt.Sl) (qQ:vs=[v,.ref sl]) (qZ:qw K H p.dt v) (qV:Pf p) (qG:uJ H sl S p) (zm:∀l ys H',qv H H'->H l=none->H' l=some (.lst ys)->jK K H' (Pt.codeOf p S 0 false) ys->Q (.ref l) H')
def Vc(K:Fg):Sp:=λvs H Q zh=>qy3 K vs H Q
theorem Ph:qO ["part","slots","word"] ["part","slots"] (qK Vv):=by symm
theorem qy4(F:qJ K "value_code" "value_code" Vv .none f fd)(GU:⋯ 3 "looked_up" ["scope","name"] rR):∅ 4 f fd ["part","slots"] (Vc K):=by
 refine F.qB Ph (by grind) ?_
 omega
 obtain⟨v,sl,p,S,rfl,hp,hv,hs,q⟩:=h
 refine⟨_,qc (qC (i:=2) Ph.nd rfl oI (qU zc (pv 0) qe))
  (qc (qP (qM jb (pv 2) qh (qR _)) (qg (qW (zQ (qx (zR (qx qh qk)) qk)))) zq)
  (qc (qP (qM jb (pv 2) qh (qR _)) (qg (qW (zQ (qx (zR (qx qh (qx (zw GU hr (qx (pv 1) (qx (qU zc (pv 0) qe) qk))) qk))) qk)))) zq)
  (qg (qW (zQ (qx (zR (qx qh (qx (qU zc (pv 0) qe) qk))) qk)))))),?_⟩
 left
 have fin:∀(H1:Hp)(c:jp)(o:zX)(us:List V),Pt.codeOf p S 0 false=[o]->qv H H1->qb K H1 c (.str o.wd::us)->qf K H1 o.args us->∀l,H1 l=none->Q (.ref l) (upd H1 l (.lst [.ref c])):=λH1 c o us e g h1 h2 l hl=>by
  refine q l [.ref c] _ (g.trans (qv.put hl)) (g.none _ hl) qu ?_
  rw[e]
  exact jK.one (qb.mono (qv.put hl).same h1) (h2.mono (qv.put hl).same)
 have yh:(∃(wd:Str)(a:jp)(u:V)(o:zX),v= .ref a/\qb K H a [.str wd,u]/\¬V.str wd=V.str "nil"/\¬V.str wd=V.str "name"/\Pt.codeOf p S 0 false=[o]/\o.wd="put"/\∀H1,qv H H1->qf K H1 o.args [u])\/(∃x,p= .jx x)\/∃k,p= .nil k:=by
  rcases hv with⟨n,rfl⟩|⟨b,rfl⟩|h
  ·obtain⟨a,u,rfl,ha,hx⟩:=xG hp
   exact .inl ⟨"num",a,u,.num n,rfl,ha,by ext,by ext,rfl,rfl,λH1 g=>zx (hx.mono g.same) zp⟩
  ·obtain⟨a,u,rfl,ha,hx⟩:=xG hp
   exact .inl ⟨"truth",a,u,.zI b,rfl,ha,by ext,by ext,rfl,rfl,λH1 g=>zx (hx.mono g.same) zp⟩
  ·exact .inr h
 rcases yh with⟨wd,a,u,o,rfl,ha,h1,h2,h3,h4,h5⟩|⟨x,rfl⟩|⟨k,rfl⟩
 ·refine⟨_,rfl,a,_,_,.str wd,rfl,rfl,ha,qY (j:=0) rfl,?_⟩
  right
  refine⟨_,rfl,rfl,_,rfl,zB (λh=>absurd (vi h) h1) (λ_=>?_)⟩
  refine⟨_,rfl,rfl,_,rfl,zB (λh=>absurd (vi h) h2) (λ_=>?_)⟩
  exact⟨_,rfl,a,_,_,u,rfl,rfl,ha,qY (j:=1) rfl,jk,λc hc=>⟨xJ,fin _ c o [u] h3 (qv.put hc) (by rw[h4];exact qb.of qu) (h5 _ (qv.put hc))⟩⟩
 ·obtain⟨a,u,rfl,ha,hx⟩:=xG hp
  cases xW hx
  obtain⟨kvs,s1,s2,s3⟩:=hs
  refine⟨_,rfl,a,_,_,.str "name",rfl,rfl,ha,qY (j:=0) rfl,?_⟩
  right
  refine⟨_,rfl,rfl,_,rfl,zB (λh=>absurd h (by ext)) (λ_=>?_)⟩
  refine⟨_,rfl,rfl,_,rfl,zB (λ_=>?_) (λh=>absurd (by ext) h)⟩
  exact⟨_,rfl,_,rfl,a,_,_,.str x,rfl,rfl,ha,qY (j:=1) rfl,sl,x,_,kvs,rfl,s1,s3 x rfl,jk,λc hc=>⟨xJ,fin _ c (.get (Pt.yJ S x)) [.int (Pt.yJ S x:Nat)] rfl (qv.put hc) (qb.of qu) (zx (by rw[qw]) zp)⟩⟩
 ·obtain⟨a,u,rfl,ha,hx⟩:=xG hp
  refine⟨_,rfl,a,_,_,.str "nil",rfl,rfl,ha,qY (j:=0) rfl,?_⟩
  right
  refine⟨_,rfl,rfl,_,rfl,zB (λ_=>?_) (λh=>absurd (by ext) h)⟩
  exact⟨xJ,λc hc=>⟨xJ,fin _ c .nil [] rfl (qv.put hc) (qb.of qu) zp⟩⟩
end
section
variable {base:ll}
theorem vh(h:H l=some (.lst xs)):jt K H (upd H l (.lst ys)):=qS.jv ((qS.refl l H).set h) h
theorem Pt.wW:∀p:Pt,p.qa<p.sz
 | .num _=>by simp[Pt.qa,Pt.sz]
 | .zI _=>by simp[Pt.qa,Pt.sz]
 | .jx _=>by simp[Pt.qa,Pt.sz]
 | .nil _=>by simp[Pt.qa,Pt.sz]
 | .one _ p=>by have :=Pt.wW p;simp only[Pt.qa,Pt.sz];lia
 | .two _ p q=>by have :=Pt.wW p;have :=Pt.wW q;simp only[Pt.qa,Pt.sz];lia
 | .jy _ p q=>by have :=Pt.wW p;have :=Pt.wW q;simp only[Pt.qa,Pt.sz];lia
 | .fn _ _ p=>by have :=Pt.wW p;simp only[Pt.qa,Pt.sz];lia
 | .rc _ _ _ _ p=>by have :=Pt.wW p;simp only[Pt.qa,Pt.sz];lia
inductive cF:Pt->Prop
 |fn {x9 k9 p9}:cF (.fn x9 k9 p9)
 |rc {g9 x9 k9 l9 p9}:cF (.rc g9 x9 k9 l9 p9)
theorem qy5(h:cF p)(e:Pt.parts p=[q])(S:Pt.Sl):Pt.codeOf p S 0 false=
  .func (decide ((Pt.jL p).length≠1)) ((Pt.outs p).map (Pt.yJ S)) (Pt.codeOf q (Pt.vg 0 (Pt.outs p++Pt.jL p)) ((Pt.outs p++Pt.jL p).length) true).length::Pt.codeOf q (Pt.vg 0 (Pt.outs p++Pt.jL p)) ((Pt.outs p++Pt.jL p).length) true:=by
 cases h with
 | @fn x k r=>
  have :r=q:=by simpa[Pt.parts]using e
  subst this
  simp[Pt.codeOf,Pt.told,Pt.jL]
 | @rc g x k l r=>
  have :r=q:=by simpa[Pt.parts]using e
  subst this
  by_cases z:g=x
  ·subst z;simp[Pt.codeOf,Pt.told,Pt.jL]
  ·simp[Pt.codeOf,Pt.told,Pt.jL,z]
theorem qy6(p:Pt)(h:cF p):(Pt.outs p++Pt.jL p).Nodup/\(∀x,x∈Pt.jL p↔x∈Pt.names p)/\(Pt.jL p).length<=2:=by
 have e:∀x,x∈Pt.jL p↔x∈Pt.names p:=by
  intro x
  cases h with
  |fn=>simp[Pt.jL,Pt.names]
  | @rc g y k l r=>
   by_cases z:g=y
   ·subst z;simp[Pt.jL,Pt.names]
   ·simp[Pt.jL,Pt.names,z]
 refine⟨List.nodup_append.mpr ⟨Pt.qww p,?_,λa ha b hb z=>?_⟩,e,?_⟩
 ·cases h with
  |fn=>simp[Pt.jL]
  | @rc g y k l r=>
   by_cases z:g=y
   ·subst z;simp[Pt.jL]
   ·simp[Pt.jL,z]
 ·subst z
  have h1:=(Pt.ou a p).mp ha
  have h2:=(e a).mp hb
  cases h with
  |fn=>exact h1.2 (by simpa[Pt.names]using h2)
  |rc=>
   rcases(show a=_\/a=_ by simpa[Pt.names]using h2)with z|z
   ·exact h1.2.1 z
   ·exact h1.2.2 z
 ·cases h with
  |fn=>simp[Pt.jL]
  | @rc g y k l r=>
   by_cases z:g=y
   ·subst z;simp[Pt.jL]
   ·simp[Pt.jL,z]
inductive qy7(K:Fg)(n:Nat)(vs:List V)(H:Hp)(Q:VK):Prop
 |mk (v:V) (sl:jp) (p:Pt) (S:Pt.Sl) (qQ:vs=[v,.ref sl]) (qZ:qw K H p.dt v) (qV:(p.qa<n+1/\NL p=true)) (qG:cF p) (zm:p.sz<=50000) (je:uJ H sl S p) (kc:∀l ys H',qv H H'->H l=none->H' l=some (.lst ys)->ys.length+5<=6*p.sz->jK K H' (Pt.codeOf p S 0 false) ys->Q (.ref l) H')
def Pp(K:Fg)(n:Nat):Sp:=λvs H Q zh=>qy7 K n vs H Q
theorem iC:qO ["part","slots","kept","bound","inner","slot","name","body","word"] ["part","slots"] (qK cM):=by symm
theorem qy8(h:qw K H p.dt v)(hf:cF p):∃a ws q u,v= .ref a/\qb K H a (ws++[u])/\qw K H q.dt u/\Pt.parts p=[q]/\q.qa<p.qa/\q.sz+1=p.sz/\∃x r,Pt.names p=x::r/\r.length<=1:=by
 cases hf with
 | @fn x k q=>
  obtain⟨a,v0,v1,v2,rfl,ha,_,_,h3⟩:=gy h
  exact⟨a,[.str "fn",v0,v1],q,v2,rfl,ha,h3,rfl,by simp[Pt.qa],by simp[Pt.sz],x,[],rfl,by simp⟩
 | @rc g x k l q=>
  obtain⟨a,v0,v1,v2,v3,v4,rfl,ha,_,_,_,_,h3⟩:=QR h
  exact⟨a,[.str "rec",v0,v1,v2,v3],q,v4,rfl,ha,h3,rfl,by simp[Pt.qa],by simp[Pt.sz],g,[x],rfl,by simp⟩
theorem Pr(hf:cF p):oQ p=false:=by cases hf<;>rfl
theorem Pa{H:Hp}(f:Str->Nat):∀xs:List Str,qf K H (xs.map ((λk:Nat=>Dt.int (k:Int))∘f)) (xs.map λx=>V.int (f x:Nat))
 |[]=>zp
 |x::xs=>zx (by rw[Function.comp_apply,qw]) (Pa f xs)
structure Vl(mg:Str->Option zt):Prop where
 enumerate:mg "enumerate"=none
 len:mg "len"=none
 tuple:mg "tuple"=none
theorem qy9(F:qJ K "function_code" "function_code" cM .none f fd)(G:Vl mg)(GU:⋯ 3 "looked_up" ["scope","name"] rR)(GB:⋯ 2 "names_bound" ["part"] (rP K))(GO:⋯ (n+3) "outside_names" ["part"] (bq K (n+1)))(GC:⋯ (3*n+4) "code_of" yU (bg K n)):∅ (3*n+5) f fd ["part","slots"] (Pp K n):=by
 refine F.qB iC (by grind) ?_
 omega
 obtain⟨v,sl,p,S,rfl,hp,⟨hd,nl⟩,hf,hz,hs,q⟩:=h
 have uh:((["name"]:List Str)++(["slots"]:List Str)).Nodup:=by ext
 obtain⟨a',ws',ea,Pe,bx,_,Vq⟩:=K6 (Pr hf) hp
 obtain⟨a,ws,pq,u,rfl,ha,hu,Vg,hdq,hzq,x0,r0,Zi,xE⟩:=qy8 hp hf
 have J7:a'=a:=by cases ea;rfl
 rw[J7]at Pe
 have xw:=Pt.wW p
 have ec:=qy5 hf Vg S
 obtain⟨sJ,PZ,bn3⟩:=qy6 p hf
 have se:=Pt.yX p
 obtain⟨tl,sX,uX⟩:∃t,xm (jc (zJ P w) P w K mg base ["part","slots","kept","bound","inner","slot","name","body","word"] "function_code" (qK cM) f zy A outer s H E).yd ((uE cM).drop 7) t/\
   ∀(H5:Hp)(lk:jp)(c3 c4 c5 c6:Option V)(l5:jp)(wd:Str)(ys:List V),qv H H5->H5 lk=some (.lst ((Pt.outs p).map V.str))->H5 l5=some (.lst ys)->wd=(if decide ((Pt.jL p).length≠1)then("rec":Str)else("fn":Str))->jK K H5 (Pt.codeOf pq (Pt.vg 0 (Pt.outs p++Pt.jL p)) ((Pt.outs p++Pt.jL p).length) true) ys->
    t {nx:=λ_ H'=>Q .qd H',rt:=Q} [some (.ref a),some (.ref sl),some (.ref lk),c3,c4,c5,c6,some (.ref l5),some (.str wd)] H5:=by
  refine⟨_,qg (qW (zV j4 (zQ (qx (zR (qx (pv 8) (qx (wD Ql (by rfl) G.tuple lL (qx (rN (QB (own:=["name"]) (y:="slots") (i:=1) (by rfl) (by ext) (by rfl) (by ext) (by rfl) (by ext) (by rfl) (.inl (by rfl)) (by rfl) (by ext)) rfl (eE (pv 2))
   (λC s H fp pins=>zw GU (hr.mono (by lia)) (qx (pv 1) (qx (pv 0) qk))) (λC s H fp pins=>xU (i:=0) uh rfl oI (Or.inr (by rfl)))) qk)) (qx (jZ wQ (by rfl) G.len xV (qx (pv 7) qk)) qk)))) qk)) (pv 7))),?_⟩
  left
  intro H5 lk c3 c4 c5 c6 l5 wd ys g5 ek e5 gY gW
  have Vi:=gW.code
  have PX:∀x,x∈Pt.outs p->p.fv x:=λx=>(Pt.ou x p).mp
  generalize vP:Pt.outs p=xs at ek se PX ec gW
  refine⟨_,rfl,_,rfl,lk,rfl,⟨_,qp.of ek⟩,λD0 kr=>?_⟩
  have gD:=qv.put (o:=.lst []) kr
  obtain⟨kvs,s1,s2,s3⟩:=hs
  refine FU (K:=K) (a:=lk) (xs:=xs.map V.str) (te:=yR rR [] E0 (jQ (zO 1) (jQ (zO 0) xx))) (ix:=[1]) (σ:=[some (.ref a),some (.ref sl),some (.ref lk),c3,c4,c5,c6,some (.ref l5),some (.str wd)])
   (λi zs H6=>qv H5 H6/\H6 D0=some (.lst zs)/\zs=(xs.take i).map λx=>V.int (Pt.yJ S x:Nat)) ?_ ?_ ?_ ?_
  ·exact⟨gD,qu,rfl⟩
  ·rintro i zs H6 _ ⟨g6,_⟩
   exact qp.of (g6.same _ _ ek)
  ·rintro i y zs H6 hy ⟨g6,eD,gU⟩ Q' hq
   rw[xH]at hy
   obtain⟨x,hx,rfl⟩:=ve.mp hy
   have iU:=s3 x (PX x (kM hx))
   have hi:i<xs.length:=(km.mp hx).1
   exact⟨_,rfl,_,rfl,sl,x,_,kvs,rfl,(g5.trans g6).same _ _ s1,iU,hq _ H6 eD (by rw[xt,gU,za,i3];lia) ⟨g6.set kr,qu,by rw[gU,my,hx];simp⟩⟩
  ·rintro zs H6 ⟨g6,eD,gU⟩
   rw[za,yA (qL _)]at gU
   refine⟨D0,zs,rfl,.inl ⟨qp.of eD,λt0 gc=>?_⟩⟩
   have g7:=qv.put (o:=.tup zs) gc
   have e0:=@qu H6 t0 (.tup zs)
   generalize upd H6 t0 (.tup zs)=H7 at g7 e0⊢
   have bh:=g6.trans g7
   have cH:=bh.same _ _ e5
   refine⟨_,rfl,l5,ys,rfl,.inl (qp.of cH),uI,λt ht=>?_⟩
   have g8:=qv.put (o:=.tup [.str wd,.ref t0,.int ys.length]) ht
   have cH:=g8.same _ _ cH
   have et:=@qu H7 t (.tup [.str wd,.ref t0,.int ys.length])
   generalize upd H7 t (.tup [.str wd,.ref t0,.int ys.length])=H8 at g8 cH et⊢
   refine⟨xJ,λl6 sV=>?_⟩
   have g9:=qv.put (o:=.lst [.ref t]) sV
   have cH:=g9.same _ _ cH
   have e6:=@qu H8 l6 (.lst [.ref t])
   generalize upd H8 l6 (.lst [.ref t])=H9 at g9 cH e6⊢
   have PK:=((g5.trans bh).trans g8).trans g9
   refine⟨_,rfl,l6,l5,_,_,rfl,rfl,e6,cH,by rw[xt];simp;lia,λl7 wx=>?_⟩
   refine q l7 _ _ (PK.trans (qv.put wx)) (PK.none _ wx) qu (by simp;lia) ?_
   have ga:=g9.trans (qv.put (o:=.lst ([.ref t]++ys)) wx)
   rw[ec]
   refine jK.app (c:=[_]) (jK.one (vs:=[.ref t0,.int ys.length]) (qb.of ?_) (zx (cV (qb.of ((g8.trans ga).same _ _ e0)) ?_) (zx ?_ zp))) (gW.mono ((bh.trans g8).trans ga).same)
   ·rw[ga.same _ _ et,gY];rfl
   ·rw[gU,Jn]
    exact Pa _ xs
   ·rw[gW.len,qw]
 obtain⟨tm,pms,PV⟩:∃t,xm (jc (zJ P w) P w K mg base ["part","slots","kept","bound","inner","slot","name","body","word"] "function_code" (qK cM) f zy A outer s H E).yd ((uE cM).drop 3) t/\
   ∀(H3:Hp)(lk bb:jp),qv H H3->H3 lk=some (.lst ((Pt.outs p).map V.str))->H3 bb=some (.lst ((Pt.jL p).map V.str))->
    t {nx:=λ_ H'=>Q .qd H',rt:=Q} [some (.ref a),some (.ref sl),some (.ref lk),some (.ref bb),none,none,none,none,none] H3:=by
  refine⟨_,qc (qC (i:=4) iC.nd rfl oI QK)
   (qc (nj i4 rfl (Fx (by rfl) G.enumerate (qx (zV j4 (pv 2) (pv 3)) qk)) (fh rfl (uD (xU (i:=5) iC.nd rfl oI) (uD (xU (i:=6) iC.nd rfl oI) fm)))
    (qg (QX (u4 hr.u2) (pv 4) (pv 6) (pv 5) rfl)))
   (qc (qC (i:=7) iC.nd rfl oI (zw GC hr (qx (qU zc (pv 0) (e9 Qx qe)) (qx (pv 4) (qx (jZ qvd (by rfl) G.len xV (qx (pv 4) qk)) (qx lV qk))))))
   (qc (qC (i:=8) iC.nd rfl oI (lU (qM jb (jZ wQ (by rfl) G.len xV (qx (pv 3) qk)) qe (qR _)) qh qh)) sX))),?_⟩
  left
  intro H3 lk bb g3 ek eb
  have vP:∀x,x∈Pt.outs p↔p.fv x:=λx=>Pt.ou x p
  generalize hxo:Pt.outs p=xs at ek se vP sJ uX
  generalize hbo:Pt.jL p=bs at eb sJ PZ bn3 uX
  intro d gO
  right
  have g4:=qv.put (o:=.dK []) gO
  have ed:=@qu H3 d (.dK [])
  have ek:=g4.same _ _ ek
  have eb:=g4.same _ _ eb
  have nG:H d=none:=g3.none _ gO
  have kd:lk≠d:=λz=>by rw[z,ed]at ek;cases ek
  have bd:bb≠d:=λz=>by rw[z,ed]at eb;cases eb
  generalize upd H3 d (.dK [])=H4 at g4 ek eb ed⊢
  have Zu:=g3.trans g4
  refine⟨_,rfl,_,rfl,lk,bb,_,_,rfl,rfl,ek,eb,by rw[xt];simp;lia,λlc Vm=>?_⟩
  rw[<-kG]
  have cd:lc≠d:=λz=>by rw[z,ed]at Vm;cases Vm
  have g5:=qv.put (o:=.lst ((xs++bs).map V.str)) Vm
  have ec:=@qu H4 lc (.lst ((xs++bs).map V.str))
  have ek:=g5.same _ _ ek
  have eb:=g5.same _ _ eb
  have ed:=g5.same _ _ ed
  generalize upd H4 lc (.lst ((xs++bs).map V.str))=H5 at g5 ec ek eb ed⊢
  have Zc:=Zu.trans g5
  refine⟨lc,rfl,⟨_,qp.of ec⟩,?_⟩
  refine Fo (K:=K) (l:=lc) (xs:=(xs++bs).map V.str) (λi σ H6=>∃o5 o6 kvs,σ=[some (.ref a),some (.ref sl),some (.ref lk),some (.ref bb),some (.ref d),o5,o6,none,none]/\qv H H6/\H6 lc=some (.lst ((xs++bs).map V.str))/\H6 lk=some (.lst (xs.map V.str))/\H6 bb=some (.lst (bs.map V.str))/\H6 d=some (.dK kvs)/\KeysAre kvs ((xs++bs).take i)/\∀j x,j<i->(xs++bs)[j]? =some x->jo kvs (Sum.inr x:Key)=some (.int (j:Nat))) ?_ ?_ ?_ ?_
  ·exact⟨_,_,[],rfl,Zc,ec,ek,eb,ed,rfl,λj x h=>absurd h (Y1 _)⟩
  ·rintro i σ H6 _ ⟨o5,o6,kvs,rfl,_,h,_⟩
   exact qp.of h
  ·rintro i y T σ H6 hy ⟨o5,o6,kvs,rfl,g6,ec6,ek6,sQ,bc,yY,hkx⟩ hT
   rw[xH]at hy
   obtain⟨x,hx,rfl⟩:=ve.mp hy
   have hi:i<(xs++bs).length:=(km.mp hx).1
   rw[va]at hi
   have g7:=qv.put (o:=.tup [.int i,.str x]) hT
   refine⟨T,_,rfl,qb.of qu,rfl,_,_,rfl,_,_,rfl,rfl,?_⟩
   right
   have PY:=g7.same _ _ ec6
   have Zl:=g7.same _ _ ek6
   have cG:=g7.same _ _ sQ
   have iO:=g7.same _ _ bc
   generalize upd H6 T (.tup [.int i,.str x])=H7 at g7 PY Zl cG iO⊢
   have Zg:=yY.length
   rw[i3]at Zg
   refine⟨_,rfl,_,rfl,_,rfl,d,_,rfl,cj.k (k:=Sum.inr x) iO (by rw[xt];lia),?_⟩
   have PU:x∉(xs++bs).take i:=by
    intro hm
    obtain⟨j,hj,e⟩:=ap hm
    rw[i3]at hj
    rw[List.getElem_take]at e
    have vR:i<(xs++bs).length:=(km.mp hx).1
    have e2:=(km.mp hx).2
    have :=(List.nodup_iff_pairwise_ne.mp sJ)
    have h3:=List.pairwise_iff_getElem.mp sJ j i (by lia) vR (by lia)
    exact h3 (e.trans e2.symm)
   refine⟨_,_,_,rfl,(g6.trans g7).set nG,(qm cd).trans PY,(qm kd).trans Zl,(qm bd).trans cG,qu,?_,λj y hj Zm=>?_⟩
   ·unfold KeysAre at *
    rw[(K7 kvs _ _).2 (by rw[yY];exact λz=>PU (K8.mp z)),yY,my,hx];simp
   ·rw[Qe]
    by_cases z:y=x
    ·subst z
     rw[vb rfl]
     by_cases z2:j=i
     ·subst z2;rfl
     ·have hm:y∈(xs++bs).take i:=kM (i:=j) (by rw[qzx (show j<i by lia)];exact Zm)
      exact absurd hm PU
    ·rw[ke (λh=>z (He h))]
     have z2:j≠i:=λe=>by subst e;rw[hx]at Zm;exact z (xb Zm).symm
     exact hkx j y (by lia) Zm
  ·rintro σ H6 ⟨o5,o6,kvs,rfl,g6,ec6,ek6,sQ,bc,yY,hkx⟩
   rw[za]at yY hkx
   rw[yA (qL _)]at yY
   have Zg:=yY.length
   have qux:=Zg
   rw[va]at qux
   have hsq:uJ H6 d (Pt.vg 0 (xs++bs)) pq:=by
    refine⟨kvs,bc,?_,λx hx=>?_⟩
    ·lia
    ·have hm:x∈xs++bs:=by
      by_cases z:x∈Pt.names p
      ·exact kL _ ((PZ x).mpr z)
      ·exact tj _ ((vP x).mpr ((HS (Pr hf) x).mpr ⟨0,pq,by rw[Vg];rfl,hx,.inr z⟩))
     obtain⟨j,hj,e⟩:=ap hm
     have e':(xs++bs)[j]? =some x:=by rw[jm hj,e]
     rw[hkx j x hj e',Pt.Ft sJ e',Nat.zero_add]
   refine⟨_,rfl,1,rfl,a,_,-1,u,rfl,rfl,qb.mono g6.same ha,Qi ws u,_,rfl,_,rfl,d,kvs,rfl,bc,u,d,kvs.length,true,pq,Pt.vg 0 (xs++bs),rfl,hu.mono g6.same,⟨by lia,Pw nl (by rw[Vg];simp)⟩,by lia,hsq,λl5 ys H7 g7 n7 e7 PL=>?_⟩
   rw[Zg]at PL
   right
   have Zl:=g7.same _ _ ek6
   have fin:∀wd:Str,_:=λwd hw=>uX H7 lk (some (.ref bb)) (some (.ref d)) o5 o6 l5 wd ys (g6.trans g7) Zl e7 hw PL
   refine⟨_,rfl,bb,_,rfl,.inl (qp.of (g7.same _ _ sQ)),rfl,_,rfl,zB (λhw=>?_) (λhw=>?_)⟩
   ·have e1:bs.length=1:=by have :=vi hw;rw[za]at this;have :=V.int.inj this;lia
    exact fin "fn" (by rw[e1];rfl)
   ·have e1:bs.length≠1:=λz=>hw (by rw[za,z];rfl)
    exact fin "rec" (by rw[vw e1];rfl)
 refine⟨_,qc (qC (i:=2) iC.nd rfl oI (zw GO (hr.mono (by lia)) (qx (pv 0) qk)))
  (qc (qC (i:=3) iC.nd rfl oI (zw GB (hr.mono (by lia)) (qx (pv 0) qk)))
  (qc (qP (qM jb (qU jH (pv 3) qe) (qU jH (pv 3) (e9 Qx qe)) (qR _)) (qg (qC (i:=3) iC.nd rfl oI (nu qxT (pv 3) pe (lP qe)))) zq) pms)),?_⟩
 left
 refine⟨_,rfl,.ref a,p,rfl,hp,hd,hz,λlk H1 g1 n1 e1=>?_⟩
 right
 refine⟨_,rfl,a,Pt.wd p,ws',rfl,qb.mono g1.same Pe,bx,λb H2 g2 n2 e2=>?_⟩
 rw[Vq]at e2
 right
 have zD:=g1.trans g2
 have yQ:=g2.same _ _ e1
 have quv:∃y,vB ((Pt.names p).map V.str) (-1)=some (.str y)/\(y=x0->Pt.jL p=[x0])/\(y≠x0->Pt.jL p=Pt.names p):=by
  cases hf with
  | @fn z k r=>
   have e:x0=z:=by have :=Zi;simp[Pt.names]at this;exact this.1.symm
   subst e
   exact⟨x0,Qi [] (V.str x0),λ_=>rfl,λh=>absurd rfl h⟩
  | @rc g z k l r=>
   have e:x0=g:=by have :=Zi;simp[Pt.names]at this;exact this.1.symm
   subst e
   refine⟨z,Qi [V.str x0] (V.str z),λh=>?_,λh=>?_⟩
   ·subst h;simp[Pt.jL]
   ·simp[Pt.jL,Pt.names,y7 h]
 obtain⟨y,hy,hyx,hyn⟩:=quv
 have quu:yS ((Pt.names p).map V.str) none (some 1)=([x0]:List Str).map V.str:=by
  rw[Zi]
  match r0,xE with
  |[],_=>rfl
  |[y],_=>rfl
 refine⟨_,rfl,b,_,0,.str x0,rfl,rfl,qp.of e2,by rw[Zi];exact qY (j:=0) rfl,_,rfl,1,rfl,b,_,-1,.str y,rfl,rfl,qp.of e2,hy,rfl,_,rfl,zB (λVn=>?_) (λVn=>?_)⟩
 ·have Vb:y=x0:=by have :=vi Vn;cases this;rfl
  refine⟨_,rfl,_,rfl,b,_,rfl,qp.of e2,λb2 PM=>?_⟩
  right
  rw[quu,<-hyx Vb]
  exact PV _ lk b2 (zD.trans (qv.put PM)) ((qv.put PM).same _ _ yQ) qu
 ·have Vb:y≠x0:=λz=>Vn (by rw[z];simp)
  rw[<-hyn Vb]at e2
  exact PV H2 lk b zD yQ e2
end
noncomputable abbrev Vd:cc:=top 33
noncomputable def sW:List Str:=["call","if","and","or","let"]
noncomputable def sY:List Str:=["head","tail","cons","pair","plus","over"]
theorem quo:∀x∈sY,vV x sW=none/\kX (.str x) [.str "fn",.str "rec"]=false/\kX (.str x) [.str "num",.str "truth",.str "name",.str "nil"]=false:=by ext
theorem qui:∀x∈(["num","truth","name","nil"]:List Str),vV x sW=none/\kX (.str x) [.str "fn",.str "rec"]=false/\kX (.str x) [.str "num",.str "truth",.str "name",.str "nil"]=true:=by ext
theorem quc:∀x∈(["fn","rec"]:List Str),vV x sW=none/\kX (.str x) [.str "fn",.str "rec"]=true:=by ext
theorem qul(h:qw K H p.dt v):∃a xs,v= .ref a/\qb K H a (.str (Pt.wd p)::xs):=by
 by_cases hn:oQ p=true
 ·cases p with
  |jx x=>obtain⟨a,u,rfl,ha,_⟩:=xG h;exact⟨a,_,rfl,ha⟩
  |_=>cases hn
 ·obtain⟨a,xs,e,h1,_⟩:=K6 (by simpa using hn) h
  exact⟨a,xs,e,h1⟩
inductive Way:Pt->Prop
 |call {q9 r9}:Way (.two .call q9 r9)
 |fn {p9}:cF p9->Pt.wd p9∈(["fn","rec"]:List Str)->Way p9
 |val {p9}:Pf p9->Pt.wd p9∈(["num","truth","name","nil"]:List Str)->p9.sz=1->Way p9
 |Vf {p9}:Pt.plain p9=true->Pt.wd p9∈sY->Way p9
theorem way(p:Pt)(nl:NL p=true):Way p:=by
 cases p with
 |num n=>exact .val (.inl ⟨n,rfl⟩) (by simp[Pt.wd]) rfl
 |zI n=>exact .val (.inr (.inl ⟨n,rfl⟩)) (by simp[Pt.wd]) rfl
 |jx n=>exact .val (.inr (.inr (.inl ⟨n,rfl⟩))) (by simp[Pt.wd]) rfl
 |nil n=>exact .val (.inr (.inr (.inr ⟨n,rfl⟩))) (by simp[Pt.wd]) rfl
 |one u q=>exact .Vf rfl (by cases u<;>simp[Pt.wd,U1.str,sY])
 |two u q r=>
  cases u
  case call=>exact .call
  all_goals exact .Vf rfl (by simp[Pt.wd,U2.str,sY])
 |jy x q r=>cases nl
 |fn x k q=>exact .fn .fn (by simp[Pt.wd])
 |rc g x k l q=>exact .fn .rc (by simp[Pt.wd])
theorem PN(h:Way p)(hz:(match p with | .fn .. =>true| .rc .. =>true| .num _=>true| .zI _=>true| .jx _=>true| .nil _=>true|_=>false)=true)(S:Pt.Sl)(n:Nat)(b:Bool):Pt.told b (Pt.codeOf p S 0 false)=Pt.codeOf p S n b:=by
 cases p<;>first|(cases hz;done)|(cases b<;>rfl)
theorem qug(h:Pt.plain p=true)(hw:Pt.wd p∈sY)(S:Pt.Sl)(n:Nat)(b:Bool):∃o:zX,o.wd=Pt.wd p/\o.args=[]/\Pt.told b (wz S n (Pt.parts p)++[o])=Pt.codeOf p S n b:=by
 cases p with
 |one u q=>refine⟨Pt.u1 u,by cases u<;>rfl,by cases u<;>rfl,?_⟩;simp[wz,Pt.parts,Pt.codeOf]
 |two u q r=>
  cases u
  case call=>exact absurd hw (by simp[Pt.wd,U2.str];ext)
  case cons=>exact⟨Pt.u2 .cons,rfl,rfl,by simp[wz,Pt.parts,Pt.codeOf]⟩
  case pair=>exact⟨Pt.u2 .pair,rfl,rfl,by simp[wz,Pt.parts,Pt.codeOf]⟩
  case plus=>exact⟨Pt.u2 .plus,rfl,rfl,by simp[wz,Pt.parts,Pt.codeOf]⟩
  case over=>exact⟨Pt.u2 .over,rfl,rfl,by simp[wz,Pt.parts,Pt.codeOf]⟩
 |_=>exact absurd hw (by simp[Pt.wd];ext)
section
variable {base:ll}
theorem br:qO ["part","slots","height","last","word","code"] yU (qK gK):=by symm
theorem qum(F:qJ K "code_of" "code_of" gK .none f fd):∅ (3*0+4) f fd yU (bg K 0):=by
 refine F.qB br (by grind) ?_
 omega
 obtain⟨v,sl,h,b,p,S,rfl,_,hd,_⟩:=h
 exact absurd hd.1 (Y1 _)
theorem qun{fC fL tb:jp}(F:qJ K "code_of" "code_of" gK .none f fd)(mP:mg "PLACED_CODES"=some (.ref tb))(T1:kE K tb (sW.zip [.ref fC,.ref fI,.ref fI,.ref fI,.ref fL]))(GC:At P w K mg base (3*n+6) fC yU (Vw K (Pn n)))(GF:⋯ (3*n+5) "function_code" ["part","slots"] (Pp K n))(GV:⋯ 4 "value_code" ["part","slots"] (Vc K))(GO:⋯ (3*n+5) "operands_code" ["part","slots","height"] (Zv K n)):∅ (3*(n+1)+4) f fd yU (bg K (n+1)):=by
 refine F.qB (k:=3*n+6) br (λvs H Q E h=>?_) (λzy A outer s H vs Q E hr h=>?_)
 ·obtain⟨v,sl,h,b,p,S,rfl,_⟩:=h
  rfl
 ·obtain⟨v,sl,h0,b,p,S,rfl,hp,hd,hz,hs,q⟩:=h
  obtain⟨tl,sX,uX⟩:∃t,xm (jc (zJ P w) P w K mg base ["part","slots","height","last","word","code"] "code_of" (qK gK) f zy A outer s H E).yd ((uE gK).drop 3) t/\
    ∀(H5:Hp)(c4:Option V)(l:jp)(ys:List V),qv H H5->H l=none->H5 l=some (.lst ys)->ys.length+5<=6*p.sz->(∃c,jK K H5 c ys/\Pt.told b c=Pt.codeOf p S h0 b)->
     t {nx:=λ_ H'=>Q .qd H',rt:=Q} [some v,some (.ref sl),some (.int h0),some (.bl b),c4,some (.ref l)] H5:=by
   refine⟨_,qg (qW (lU (ku (pv 3)) (zV j4 (pv 5) (zQ (qx (zR (qx qh qk)) qk))) (pv 5))),?_⟩
   intro H5 c4 l ys g5 nl e5 hl ⟨c,hc,ec⟩
   refine⟨_,rfl,b,rfl,?_⟩
   cases b with
   |false=>exact qA ⟨_,rfl,q l ys H5 g5 nl e5 (by rw[<-ec];exact hc)⟩
   |true=>
    refine zY ⟨_,rfl,xJ,λt ht=>?_⟩
    have g6:=qv.put (o:=.tup [.str "tell"]) ht
    have e5:=g6.same _ _ e5
    have et:=@qu H5 t (.tup [.str "tell"])
    generalize upd H5 t (.tup [.str "tell"])=H6 at g6 e5 et⊢
    refine⟨xJ,λl6 sV=>?_⟩
    have g7:=qv.put (o:=.lst [.ref t]) sV
    have e5:=g7.same _ _ e5
    have e6:=@qu H6 l6 (.lst [.ref t])
    generalize upd H6 l6 (.lst [.ref t])=H7 at g7 e5 e6⊢
    have bh:=(g5.trans g6).trans g7
    refine⟨l,l6,_,_,rfl,rfl,e5,e6,by rw[xt];simp;lia,λl7 wx=>?_⟩
    refine q l7 _ _ (bh.trans (qv.put wx)) (bh.none _ wx) qu ?_
    rw[<-ec]
    exact jK.app (hc.mono ((g6.trans g7).trans (qv.put wx)).same) (jK.one (o:=.tell) (vs:=[]) (qb.of ((g7.trans (qv.put wx)).same _ _ et)) zp)
  refine⟨_,qc (qC (i:=4) br.nd rfl oI (qU zc (pv 0) qe))
   (qc (qP (qM u6 (pv 4) (zf (v:=.ref tb) (by rfl) mP rfl) rfl) (qg (qW (gj (CX:=zJ P w) (qU ux (zf (v:=.ref tb) (by rfl) mP rfl) (pv 4)) (qx (pv 0) (qx (pv 1) (qx (pv 2) (qx (pv 3) qk))))))) zq)
   (qc (qP (qM ni (pv 4) (zR (qx qh (qx qh qk))) rfl) (qg (qC (i:=5) br.nd rfl oI (zw GF (hr.mono (by lia)) (qx (pv 0) (qx (pv 1) qk)))))
    (qg (qP (qM ni (pv 4) (zR (qx qh (qx qh (qx qh (qx qh qk))))) rfl)
     (qg (qC (i:=5) br.nd rfl oI (zw GV (hr.mono (by lia)) (qx (pv 0) (qx (pv 1) qk)))))
     (qg (qC (i:=5) br.nd rfl oI (zV j4 (zw GO (hr.mono (by lia)) (qx (pv 0) (qx (pv 1) (qx (pv 2) qk)))) (zQ (qx (zR (qx (pv 4) qk)) qk))))))))
   sX)),?_⟩
  obtain⟨a,ws,rfl,ha⟩:=qul hp
  refine⟨_,rfl,a,_,_,.str (Pt.wd p),rfl,rfl,ha,qY (j:=0) rfl,?_⟩
  right
  refine⟨_,rfl,_,_,_,rfl,rfl,T1,_,rfl,?_⟩
  cases way p hd.2 with
  | @call p1 p2=>
   obtain⟨xy,y3,y4,y5⟩:=GC
   rw[show Pt.wd (.two .call p1 p2)=("call":Str)from rfl,v8 (i:=0) (by ext) (by show 0<5;decide)]
   refine zY ⟨_,rfl,_,_,_,_,rfl,rfl,T1,jn (i:=0) (by ext) rfl,fC,xy,_,_,[],[],E0,_,rfl,y3,hr,y4,y5,.nil,z8,_,rfl,_,rfl,_,rfl,_,rfl,?_⟩
   exact⟨_,sl,h0,b,_,S,rfl,hp,⟨hd,_,_,rfl⟩,hz,hs,q⟩
  |fn hf hw=>
   obtain⟨w1,w2⟩:=quc _ hw
   rw[iX w1]
   refine qA ⟨_,rfl,jk,λc1 vY=>?_⟩
   have g1:=qv.put (o:=.tup [.str "fn",.str "rec"]) vY
   refine⟨c1,_,rfl,.inr (qb.of qu),rfl,rfl,_,rfl,?_⟩
   rw[ke (c:=false=true) (by decide),w2]
   generalize upd H c1 (.tup [.str "fn",.str "rec"])=H1 at g1⊢
   refine zY ⟨_,rfl,_,rfl,_,sl,p,S,rfl,hp.mono g1.same,hd,hf,hz,hs.mono g1,λl ys H2 g2 n2 e2 vo xQ=>?_⟩
   exact uX H2 _ l ys (g1.trans g2) (g1.none _ n2) e2 vo ⟨_,xQ,PN (.fn hf hw) (by cases hf<;>rfl) S h0 b⟩
  |val hv hw hsz=>
   obtain⟨w1,w2,w3⟩:=qui _ hw
   rw[iX w1]
   refine qA ⟨_,rfl,jk,λc1 vY=>?_⟩
   have g1:=qv.put (o:=.tup [.str "fn",.str "rec"]) vY
   refine⟨c1,_,rfl,.inr (qb.of qu),rfl,rfl,_,rfl,?_⟩
   rw[ke (c:=false=true) (by decide),w2]
   generalize upd H c1 (.tup [.str "fn",.str "rec"])=H1 at g1⊢
   refine qA ⟨_,rfl,(by show 4<=sizeLine;decide),λc2 xQ=>?_⟩
   have g2:=qv.put (o:=.tup [.str "num",.str "truth",.str "name",.str "nil"]) xQ
   refine⟨c2,_,rfl,.inr (qb.of qu),rfl,rfl,_,rfl,?_⟩
   rw[ke (c:=false=true) (by decide),w3]
   generalize upd H1 c2 (.tup [.str "num",.str "truth",.str "name",.str "nil"])=H2 at g2⊢
   have zD:=g1.trans g2
   refine zY ⟨_,rfl,_,rfl,_,sl,p,S,rfl,hp.mono zD.same,hv,hs.mono zD,λl ys H3 g3 n3 e3 uK=>?_⟩
   have Vh:ys.length=1:=by rw[uK.len];rcases hv with⟨_,rfl⟩|⟨_,rfl⟩|⟨_,rfl⟩|⟨_,rfl⟩<;>rfl
   exact uX H3 _ l ys (zD.trans g3) (zD.none _ n3) e3 (by lia) ⟨_,uK,PN (.val hv hw hsz) (by rcases hv with⟨_,rfl⟩|⟨_,rfl⟩|⟨_,rfl⟩|⟨_,rfl⟩<;>rfl) S h0 b⟩
  |Vf qH hw=>
   obtain⟨w1,w2,w3⟩:=quo _ hw
   rw[iX w1]
   refine qA ⟨_,rfl,jk,λc1 vY=>?_⟩
   have g1:=qv.put (o:=.tup [.str "fn",.str "rec"]) vY
   refine⟨c1,_,rfl,.inr (qb.of qu),rfl,rfl,_,rfl,?_⟩
   rw[ke (c:=false=true) (by decide),w2]
   generalize upd H c1 (.tup [.str "fn",.str "rec"])=H1 at g1⊢
   refine qA ⟨_,rfl,(by show 4<=sizeLine;decide),λc2 xQ=>?_⟩
   have g2:=qv.put (o:=.tup [.str "num",.str "truth",.str "name",.str "nil"]) xQ
   refine⟨c2,_,rfl,.inr (qb.of qu),rfl,rfl,_,rfl,?_⟩
   rw[ke (c:=false=true) (by decide),w3]
   generalize upd H1 c2 (.tup [.str "num",.str "truth",.str "name",.str "nil"])=H2 at g2⊢
   have zD:=g1.trans g2
   have hsz:=(Zq qH).1
   refine qA ⟨_,rfl,_,rfl,_,rfl,_,sl,h0,p,S,rfl,hp.mono zD.same,qH,hd,hz,hs.mono zD,λl ys H3 g3 n3 e3 nA uK=>?_⟩
   refine⟨_,rfl,xJ,λt ht=>?_⟩
   have g4:=qv.put (o:=.tup [.str (Pt.wd p)]) ht
   have e3:=g4.same _ _ e3
   have et:=@qu H3 t (.tup [.str (Pt.wd p)])
   generalize upd H3 t (.tup [.str (Pt.wd p)])=H4 at g4 e3 et⊢
   refine⟨xJ,λl6 sV=>?_⟩
   have g5:=qv.put (o:=.lst [.ref t]) sV
   have e3:=g5.same _ _ e3
   have e6:=@qu H4 l6 (.lst [.ref t])
   generalize upd H4 l6 (.lst [.ref t])=H5 at g5 e3 e6⊢
   have Zc:=((zD.trans g3).trans g4).trans g5
   refine⟨l,l6,_,_,rfl,rfl,e3,e6,by rw[xt];simp;lia,λl7 wx=>?_⟩
   obtain⟨o,ho1,ho2,ho3⟩:=qug qH hw S h0 b
   refine uX _ _ l7 _ (Zc.trans (qv.put wx)) (Zc.none _ wx) qu (by simp;lia) ⟨_,jK.app (uK.mono ((g4.trans g5).trans (qv.put wx)).same) (jK.one (o:=o) (vs:=[]) (qb.of ?_) (by rw[ho2];exact zp)),ho3⟩
   rw[(g5.trans (qv.put wx)).same _ _ et,ho1]
end
structure Df(K:Fg)(mg:Str->Option zt)(x:Str)(st:cc)(ps:List Str)(f:jp)(fd:ol):Prop where
 fn:qJ K x x st .none f fd
 at_:mg x=some (.ref f)
 bi:Binds K fd ps []
section
variable {base:ll} {k:Nat}
theorem Df.kn(d:Df K mg x st ps f fd)(h:∅ k f fd ps sp):⋯ k x ps sp:=⟨f,fd,h,d.at_,d.fn.kp,d.bi⟩
theorem Df.at(d:Df K mg x st ps f fd)(h:∅ k f fd ps sp):At P w K mg base k f ps sp:=⟨fd,h,d.fn.kp,d.bi⟩
end
section
variable {base:ll}
variable {quh PB PD PF fON qur PR Vp qus qut qua fKT qpf:jp} {que quQ dFn quJ dON quK quV dIf qpp quW quY dKT qps:ol}
theorem P0(F:Df K mg "fitted" rT xN quh que)(FL:Df K mg "let_kind" Q2 xN PB quQ)(FN:Df K mg "fn_kind" Q3 xN PD dFn)(FR:Df K mg "rec_kind" Q4 xN PF quJ){UF NN:jp}(G:KP P w K mg base UF PB PD PF)(GV:⋯ 1 "values_behind" ["part","sort"] (cI K))(GR:⋯ 1 "require" ["holds"] (gm UF))(GU:⋯ 3 "looked_up" ["scope","name"] (QA NN))(GP:⋯ 63 "pair_kind" ["kinds","pairs"] (KL K))(GW:⋯ 1 "with_name" ["scope","name","bound"] nM):
  ∀n,⋯ (2*n+72) "fitted" xN (iY K UF NN n)
 |0=>F.kn (qyK F.fn)
 |n+1=>by
  have ih:=P0 F FL FN FR G GV GR GU GP GW n
  exact F.kn (qyV F.fn G GV GR GU GP (FL.at (qyg FL.fn ih GW)) (FN.at (qyn FN.fn ih GW)) (FR.at (qyd FR.fn ih GW GR)) ih)
theorem P1(F:Df K mg "outside_names" sd ["part"] fON dON)(G:K9 mg)(GV:⋯ 1 "values_behind" ["part","sort"] (cI K))(GB:⋯ 2 "names_bound" ["part"] (rP K)):∀n,⋯ (n+2) "outside_names" ["part"] (bq K n)
 |0=>F.kn (qyP F.fn)
 |n+1=>F.kn (qyR F.fn G GV GB (P1 F G GV GB n))
theorem P4{tb:jp}(F:Df K mg "code_of" gK yU qua quY)(FO:Df K mg "operands_code" Zx ["part","slots","height"] qur quK)(FC:Df K mg "call_code" Zk yU PR quV)(FF:Df K mg "function_code" cM ["part","slots"] qut quW)(G:Vl mg)
  (mP:mg "PLACED_CODES"=some (.ref tb))(T1:kE K tb (sW.zip [.ref PR,.ref Vp,.ref Vp,.ref Vp,.ref qus]))(GV:⋯ 1 "values_behind" ["part","sort"] (cI K))(GB:⋯ 2 "names_bound" ["part"] (rP K))(GU:⋯ 3 "looked_up" ["scope","name"] rR)(GW:⋯ 1 "with_name" ["scope","name","bound"] nM)
  (P5:⋯ 4 "value_code" ["part","slots"] (Vc K))(GO:∀n,⋯ (n+2) "outside_names" ["part"] (bq K n)):∀n,⋯ (3*n+4) "code_of" yU (bg K n)
 |0=>F.kn (qum F.fn)
 |n+1=>by
  have ih:=P4 F FO FC FF G mP T1 GV GB GU GW P5 GO n
  have o:=FO.kn (qy1 FO.fn G.enumerate GV ih)
  exact F.kn (qun F.fn mP T1 (FC.at (qy2 FC.fn o)) (FF.kn (qy9 FF.fn G GU GB (GO (n+1)) ih)) P5 o)
end
theorem quU{P:cv}{w:fe}{K:Fg}{mg:Str->Option zt}{base:ll}{k:Nat}{fG:Sp}(G:⋯ k x ps sp)(h:∀vs H Q E,fG vs H Q E->sp vs H Q E):⋯ k x ps fG:=let⟨f,fd,F,r⟩:=G;⟨f,fd,F.imp h,r⟩
theorem quO{P:cv}{w:fe}{K:Fg}{mg:Str->Option zt}{base:ll}{k:Nat}(G:⋯ k "looked_up" ["scope","name"] (QA NN)):⋯ k "looked_up" ["scope","name"] rR:=
 quU G λ_ _ _ _⟨sc,x,u,kvs,e,hs,hv,q⟩=>⟨sc,x,kvs,e,hs,λu' z=>by rw[hv]at z;cases z;exact q,λz=>by rw[hv]at z;cases z⟩
section
variable {base:ll}
def cP(UF NN:jp)(H:Hp)(E:XK):Bad->Prop
 | .jN=>∀e t H',qv H H'->H' e=some (ze false UF t none e)->E (.ref UF) (some e) H'
 | .oi x=>∀e t d H',qv H H'->H' e=some (ze false NN t (some d) e)->H' d=some (.xd [("name",.str x)])->E (.ref NN) (some e) H'
theorem cP.b{pr:jp}{H H1:Hp}{E:XK}{b:Bad}(h:cP UF NN H E b)(g:qv H H1)(hp:H pr=none):wU UF NN pr H1 E b:=by
 cases b with
 |jN=>exact λe t H' g' he=>h e t H' (qS.QS g g' hp) he
 |oi x=>exact λe t d H' g' he hd=>h e t d H' (qS.QS g g' hp) he hd
def KoE(K:Fg)(UF NN:jp)(H:Hp)(Q:VK)(E:XK):Except Bad Kd->Prop
 | .ok κ=>∀u H',qv H H'->qw K H' κ.dt u->Q u H'
 | .error b=>cP UF NN H E b
structure Pg(p:Pt):Prop where
 qa:p.qa<50
 sz:p.sz<=50000
 gr:p.gr<=1050
 kb:p.Kb 40
inductive quC(K:Fg)(UF:jp)(NN:jp)(vs:List V)(H:Hp)(Q:VK)(E:XK):Prop
 |mk (v:V) (p:Pt) (qQ:vs=[v]) (qZ:qw K H p.dt v) (qV:Pg p) (qG:KoE K UF NN H Q E (Pt.fit [] p))
def Vr(K:Fg)(UF NN:jp):Sp:=λvs H Q E=>quC K UF NN vs H Q E
theorem quL:qO ["part"] ["part"] (qK Vd):=by symm
theorem quG(F:qJ K "kind_of" "kind_of" Vd .none f fd)(GF:⋯ 172 "fitted" xN (iY K UF NN 50)):∅ 173 f fd ["part"] (Vr K UF NN):=by
 refine F.jI quL (by grind) ?_
 omega
 obtain⟨v,p,rfl,hp,hg,q⟩:=h
 refine⟨_,qg (qW (jB GF hr (qx (pv 0) (qx QK (qx (zQ qk) qk))))),?_⟩
 left
 refine⟨_,rfl,λd oZ=>?_⟩
 have g1:=qv.put (o:=.dK []) oZ
 have e1:=@qu H d (.dK [])
 generalize upd H d (.dK [])=H1 at g1 e1⊢
 refine⟨oO,λl hl=>?_⟩
 have g2:=qv.put (o:=.lst []) hl
 have e2:=@qu H1 l (.lst [])
 have e1:=g2.same _ _ e1
 generalize upd H1 l (.lst [])=H2 at g2 e1 e2⊢
 have zD:=g1.trans g2
 have nl:H l=none:=g1.none _ hl
 have hd:=hg.qa
 have hz:=hg.sz
 refine⟨v,d,l,p,[],0,0,41,rfl,hp.mono zD.same,hg.qa,⟨Pt.Cb.nil _,hg.kb,qL _,by have :=hg.gr;lia⟩,⟨[],e1,by simp,(λx k h=>by cases h),λx _=>rfl⟩,by lia,⟨[],[],e2,zp,(λk h=>by cases h),by simp⟩,by lia,?_⟩
 cases hf:Pt.fit [] p with
 |ok κ=>rw[hf]at q;exact λu H3 g3 _ hu=>q u H3 (qS.QS zD g3 nl) hu
 |error b=>rw[hf]at q;exact cP.b q zD nl
def CmE(K:Fg)(p:Pt)(UF NN:jp)(H:Hp)(Q:VK)(E:XK):Except Bad Kd->Prop
 | .ok _=>NL p=true/\∀l ys H',qv H H'->H l=none->H' l=some (.lst ys)->jK K H' (Pt.codeOf p [] 0 true) ys->Q (.ref l) H'
 | .error b=>cP UF NN H E b
inductive quN(K:Fg)(UF:jp)(NN:jp)(vs:List V)(H:Hp)(Q:VK)(E:XK):Prop
 |mk (v:V) (p:Pt) (qQ:vs=[v]) (qZ:qw K H p.dt v) (qV:Pg p) (qG:CmE K p UF NN H Q E (Pt.fit [] p))
def P6(K:Fg)(UF NN:jp):Sp:=λvs H Q E=>quN K UF NN vs H Q E
theorem quB:qO ["part"] ["part"] (qK Vk):=by symm
theorem quD(F:qJ K "compiled" "compiled" Vk .none f fd)(GK:⋯ 173 "kind_of" ["part"] (Vr K UF NN))(GC:⋯ 154 "code_of" yU (bg K 50)):∅ 174 f fd ["part"] (P6 K UF NN):=by
 refine F.jI quB (by grind) ?_
 omega
 obtain⟨v,p,rfl,hp,hg,q⟩:=h
 refine⟨_,qc (zG (jB GK hr (qx (pv 0) qk))) (qg (qW (zw GC (hr.mono (by decide)) (qx (pv 0) (qx QK (qx qe (qx lV qk))))))),?_⟩
 left
 refine⟨_,rfl,v,p,rfl,hp,hg,?_⟩
 cases hf:Pt.fit [] p with
 |error b=>rw[hf]at q;exact q
 |ok κ=>
 rw[hf]at q
 obtain⟨nl,q⟩:=q
 intro u H1 g1 _
 refine⟨_,rfl,λd oZ=>?_⟩
 have g2:=qv.put (o:=.dK []) oZ
 have e1:=@qu H1 d (.dK [])
 generalize upd H1 d (.dK [])=H2 at g2 e1⊢
 have zD:=g1.trans g2
 have hd:=hg.qa
 refine⟨v,d,0,true,p,[],rfl,hp.mono zD.same,⟨hg.qa,nl⟩,hg.sz,⟨[],e1,by simp;lia,λx hx=>?_⟩,λl ys H3 g3 n3 e3 uK=>q l ys H3 (zD.trans g3) (zD.none _ n3) e3 uK⟩
 obtain⟨l,hl⟩:=Pt.cO p hf x hx
 cases hl
end
end K27
namespace Mth
def scan(p:Nat->Bool)(l:List Nat)(k:Nat):Nat:=k+((l.drop k).takeWhile p).length
theorem P7{l:List Nat}{k c:Nat}(h:l[k]? =some c):l.drop k=c::l.drop (k+1):=by
 obtain⟨hk,e⟩:=km.mp h
 rw[IH hk,e]
theorem P8{p:Nat->Bool}{l:List Nat}{k c:Nat}(h:l[k]? =some c)(hp:p c=true):scan p l k=scan p l (k+1):=by
 unfold scan
 rw[P7 h,qzE,vb hp,zH]
 lia
theorem P9{p:Nat->Bool}{l:List Nat}{k c:Nat}(h:l[k]? =some c)(hp:p c=false):scan p l k=k:=by
 unfold scan
 rw[P7 h,qzE,ke (by rw[hp];exact kf)]
 rfl
theorem Rq{p:Nat->Bool}{l:List Nat}{k:Nat}(h:l.length<=k):scan p l k=k:=by
 unfold scan
 rw[List.drop_eq_nil_of_le h]
 rfl
theorem Rj{p:Nat->Bool}{l:List Nat}{k:Nat}(h:k<=l.length):scan p l k<=l.length:=by
 unfold scan
 have :=(List.takeWhile_sublist (l:=l.drop k) p).length_le
 rw[DD]at this
 lia
end Mth
namespace K27
open PySem L2 Mth PyProof
abbrev Vs:cc:=inClass (top 128) 0
abbrev Vt:cc:=inClass (top 128) 1
abbrev Zn:cc:=top 129
abbrev Zb:cc:=top 130
abbrev Va:cc:=inClass (top 2) 0
abbrev bQ:Str:=" \n"
abbrev runs:Str:="abcdefghijklmnopqrstuvwxyz0123456789-"
def iL(j:Str)(c:Nat):Bool:=decide (c∈j.cps.toList)
def pStart(z:Str)(k:Nat):Nat:=scan (iL bQ) z.cps.toList k
def pEnd(z:Str)(k:Nat):Nat:=if scan (iL runs) z.cps.toList k>k then scan (iL runs) z.cps.toList k else min (k+1) z.length
structure Zd(mg:Str->Option zt):Prop where
 len:mg "len"=none
 min:mg "min"=none
 bQ:∃t,mg "WHITE_SIGNS"=some (.str bQ t)
 runs:∃t,mg "RUN_SIGNS"=some (.str runs t)
section
variable {base:ll}
theorem gI(z:Str):z.cps.toList.length=z.length:=by simp[Str.length]
inductive Rx(vs:List V)(H:Hp)(Q:VK):Prop
 |mk (z:Str) (k:Nat) (qQ:vs=[.str z,.int k]) (qZ:z.length<=100000) (qV:k<=z.length) (qG:Q (.int (pStart z k:Nat)) H):Rx vs H Q
def quF:Sp:=λvs H Q zh=>Rx vs H Q
theorem Ve:qO ["text","place","start"] ["text","place"] (qK Zn):=by symm
theorem quH(F:qJ K "piece_start" "piece_start" Zn .none f fd)(G:Zd mg):∅ 1 f fd ["text","place"] quF:=by
 refine F.qB Ve (by grind) ?_
 omega
 obtain⟨z,k,rfl,hz,hk,q⟩:=h
 obtain⟨tw,hw⟩:=G.bQ
 have kq:z.length<=sizeLine:=by rw[xt];lia
 refine⟨_,qc (qC (i:=2) Ve.nd rfl oI (pv 1))
  (qc (lO i4 (lY (qM nk (pv 2) (jZ i7 (by rfl) G.len xV (qx (pv 0) qk)) (qR _))
    (lW (qM nX (qU Qc (pv 0) (pv 2)) (zf (v:=.str bQ) (by rfl) hw ⟨tw,rfl⟩) rfl))).pt (qg (eS (i:=2) Ve.nd rfl oI qe NP)))
  (qg (qW (pv 2)))),?_⟩
 left
 refine⟨_,rfl,λm σ H'=>∃cur:Nat,σ=[some (.str z),some (.int k),some (.int cur)]/\H'=H/\cur<=z.length/\pStart z cur=pStart z k/\m=z.length-cur,⟨_,k,rfl,rfl,hk,rfl,rfl⟩,?_⟩
 rintro m σ H' ⟨cur,rfl,rfl,hc,he,rfl⟩
 refine⟨_,rfl,_,rfl,_,rfl,kq,_,_,rfl,rfl,_,rfl,?_⟩
 refine zB (λh1=>?_) (λh1=>?_)
 ·have wY:cur<z.length:=by simpa using h1
  obtain⟨c,uN⟩:∃c,z.cps.toList[cur]? =some c:=⟨_,jm (by rw[gI];exact wY)⟩
  refine⟨_,rfl,_,rfl,_,_,c,rfl,rfl,kq,qY uN,_,_,rfl,rfl,_,rfl,?_⟩
  refine zB (λh2=>?_) (λh2=>?_)
  ·refine⟨λσ' H2=>σ'=[some (.str z),some (.int k),some (.int (cur+1:Nat))]/\H2=H',λσ' H2⟨e1,e2⟩=>⟨_,?_,cur+1,e1,e2,wY,?_,rfl⟩,?_⟩
   ·lia
   ·rw[<-he];exact(P8 uN h2).symm
   ·exact⟨_,rfl,_,_,rfl,rfl,rfl,rfl⟩
  ·have e3:pStart z cur=cur:=P9 uN (cw.mpr h2)
   refine⟨_,rfl,?_⟩
   rw[<-he,e3]at q
   exact q
 ·have wY:z.length<=cur:=by
   have :¬(cur:Int)<z.length:=by simpa using h1
   lia
  have e3:pStart z cur=cur:=Rq (by rw[gI];exact wY)
  refine⟨_,rfl,?_⟩
  rw[<-he,e3]at q
  exact q
inductive Rv(vs:List V)(H:Hp)(Q:VK):Prop
 |mk (z:Str) (k:Nat) (qQ:vs=[.str z,.int k]) (qZ:z.length<=100000) (qV:k<=z.length) (qG:Q (.int (pEnd z k:Nat)) H):Rv vs H Q
def quP:Sp:=λvs H Q zh=>Rv vs H Q
theorem VQ:qO ["text","start","end"] ["text","start"] (qK Zb):=by symm
theorem quR(F:qJ K "piece_end" "piece_end" Zb .none f fd)(G:Zd mg):∅ 1 f fd ["text","start"] quP:=by
 refine F.qB VQ (by grind) ?_
 omega
 obtain⟨z,k,rfl,hz,hk,q⟩:=h
 obtain⟨tw,hw⟩:=G.runs
 have kq:z.length<=sizeLine:=by rw[xt];lia
 refine⟨_,qc (qC (i:=2) VQ.nd rfl oI (pv 1))
  (qc (lO i4 (lY (qM nk (pv 2) (jZ i7 (by rfl) G.len xV (qx (pv 0) qk)) (qR _))
    (lW (qM nX (qU Qc (pv 0) (pv 2)) (zf (v:=.str runs) (by rfl) hw ⟨tw,rfl⟩) rfl))).pt (qg (eS (i:=2) VQ.nd rfl oI qe NP)))
  (qg (qW (lU (qM yf (pv 2) (pv 1) (qR _)) (pv 2)
   (jZ (Bx rfl) (by rfl) G.min qqQ (qx (zV oR (pv 1) qe) (qx (jZ i7 (by rfl) G.len xV (qx (pv 0) qk)) qk))))))),?_⟩
 left
 have fin:∀(cur:Nat)(H':Hp),H'=H->scan (iL runs) z.cps.toList cur=scan (iL runs) z.cps.toList k->scan (iL runs) z.cps.toList cur=cur->k<=cur->
   fk (NG (Qk (vM (uH λi j=>.bl (decide (j<i))) (zO 2) (zO 1))) (zO 2) (Qy (λxs H Q=>∃i j,xs=[.int i,.int j]/\Q (.int (if j<i then j else i)) H) (jQ (vM (uH λi j=>.int (i+j)) (zO 1) (tC (.int 1)))
    (jQ (Qy (λxs H Q=>∃z,xs=[.str z]/\z.length<=sizeLine/\Q (.int z.length) H) (jQ (zO 0) xx)) xx)))) {nx:=λ_ H'=>Q .qd H',rt:=Q} [some (.str z),some (.int k),some (.int cur)] H':=by
  intro cur H' e1 e2 e3 e4
  subst e1
  have e5:scan (iL runs) z.cps.toList k=cur:=by rw[<-e2,e3]
  refine⟨_,rfl,_,rfl,_,_,rfl,rfl,_,rfl,?_⟩
  refine zB (λh1=>?_) (λh1=>?_)
  ·have wY:k<cur:=by simpa using h1
   refine⟨_,rfl,?_⟩
   have e6:pEnd z k=cur:=by unfold pEnd;rw[e5,vb wY]
   rw[e6]at q
   exact q
  ·have wY:cur=k:=by
    have :¬(k:Int)<cur:=by simpa using h1
    lia
   refine⟨_,rfl,_,_,rfl,rfl,_,rfl,_,rfl,kq,_,_,rfl,?_⟩
   have e6:pEnd z k=min (k+1) z.length:=by unfold pEnd;rw[e5,ke (by lia)]
   rw[e6]at q
   have e7:((min (k+1) z.length:Nat):Int)=if(z.length:Int)<(k:Int)+1 then(z.length:Int)else(k:Int)+1:=by
    by_cases hh:(z.length:Int)<(k:Int)+1
    ·rw[vb hh];lia
    ·rw[ke hh];lia
   rw[e7]at q
   exact q
 refine⟨_,rfl,λm σ H'=>∃cur:Nat,σ=[some (.str z),some (.int k),some (.int cur)]/\H'=H/\cur<=z.length/\k<=cur/\scan (iL runs) z.cps.toList cur=scan (iL runs) z.cps.toList k/\m=z.length-cur,⟨_,k,rfl,rfl,hk,qL _,rfl,rfl⟩,?_⟩
 rintro m σ H' ⟨cur,rfl,rfl,hc,hkc,he,rfl⟩
 refine⟨_,rfl,_,rfl,_,rfl,kq,_,_,rfl,rfl,_,rfl,?_⟩
 refine zB (λh1=>?_) (λh1=>?_)
 ·have wY:cur<z.length:=by simpa using h1
  obtain⟨c,uN⟩:∃c,z.cps.toList[cur]? =some c:=⟨_,jm (by rw[gI];exact wY)⟩
  refine⟨_,rfl,_,rfl,_,_,c,rfl,rfl,kq,qY uN,_,_,rfl,rfl,_,rfl,?_⟩
  refine zB (λh2=>?_) (λh2=>?_)
  ·refine⟨λσ' H2=>σ'=[some (.str z),some (.int k),some (.int (cur+1:Nat))]/\H2=H',λσ' H2⟨e1,e2⟩=>⟨_,?_,cur+1,e1,e2,wY,by lia,?_,rfl⟩,?_⟩
   ·lia
   ·rw[<-he];exact(P8 uN h2).symm
   ·exact⟨_,rfl,_,_,rfl,rfl,rfl,rfl⟩
  ·exact fin cur H' rfl he (P9 uN (cw.mpr h2)) hkc
 ·have wY:z.length<=cur:=by
   have :¬(cur:Int)<z.length:=by simpa using h1
   lia
  exact fin cur H' rfl he (Rq (by rw[gI];exact wY)) hkc
end
def sU(z:Str)(a b:Nat):Str:=⟨((z.cps.toList.drop a).take (b-a)).toArray⟩
theorem Zf{y:Str}(h:x.cps.toList=y.cps.toList):x=y:=by
 cases x;cases y
 congr
 exact Array.toList_inj.mp h
theorem quS{a b:Nat}(uv:a<=b)(hb:b<=z.length):qzM z (some (a:Int)) (some (b:Int))=sU z a b:=by
 unfold qzM
 split
 ·rename_i h
  have e:(Builtin.Str.strSliceIndices (some (a:Int)) (some (b:Int)) 1 z.length).length=z.length:=by simpa using h
  rw[StrLaws.strSliceIndices_plain uv hb]at e
  simp only[za,List.length_range]at e
  have ha:a=0:=by lia
  have jE:b=z.length:=by lia
  apply Zf
  show z.cps.toList=(((z.cps.toList.drop a).take (b-a)).toArray).toList
  rw[ha,jE,List.drop_zero,Nat.sub_zero,<-gI,List.take_length]
 ·rw[StrLaws.sliced_plain z uv hb]
  rfl
theorem Zh{k:Nat}(h:k<=z.length):pStart z k<=z.length:=by
 rw[<-gI]at h⊢
 exact Rj h
theorem quT{k:Nat}(h:k<=z.length):k<=pEnd z k:=by
 unfold pEnd
 split
 ·lia
 ·lia
theorem Rw{k:Nat}(h:k<=z.length):pEnd z k<=z.length:=by
 unfold pEnd
 split
 ·rw[<-gI]at h⊢
  exact Rj h
 ·lia
theorem Ry:¬("text":Str)="place":=by ext
theorem Ru:¬("text":Str)="behind":=by ext
theorem Ro:¬("place":Str)="behind":=by ext
theorem quA:¬("place":Str)="text":=by ext
theorem quE:¬("behind":Str)="text":=by ext
theorem qu0:¬("behind":Str)="place":=by ext
def zC(z:Str)(a b:Int):List (Str×V):=[("text",.str z),("place",.int a),("behind",.int b)]
theorem Zp(z:Str)(a b:Int):(zC z a b).lookup ("text":Str)=some (.str z):=yq _ _ _
theorem VZ(z:Str)(a b:Int):(zC z a b).lookup ("place":Str)=some (.int a):=by unfold zC;rw[jj quA,yq]
theorem Ri(z:Str)(a b:Int):(zC z a b).lookup ("behind":Str)=some (.int b):=by unfold zC;rw[jj quE,jj qu0,yq]
theorem qu1(z:Str)(a b:Int):(zC z a b).lookup ("take":Str)=none:=by
 unfold zC
 rw[jj (by ext),jj (by ext),jj (by ext)]
 rfl
theorem qu2(z:Str)(a b c:Int):zP "place" (.int c) (zC z a b)=zC z c b:=by unfold zC;rw[xC Ry,nY]
theorem qu3(z:Str)(a b c:Int):zP "behind" (.int c) (zC z a b)=zC z a c:=by unfold zC;rw[xC Ru,xC Ro,nY]
structure Pk(K:Fg)(C fI fT:jp):Prop where
 cl:vJ K C
 n1:jO K C "text"
 n2:jO K C "place"
 n3:jO K C "behind"
 made:Mk K C fI
 mt:Meth K C "take" fT
section
variable {base:ll} {fT fE:jp}
inductive qu4(C:jp)(vs:List V)(H:Hp)(Q:VK):Prop
 |mk (p:jp) (dx:jp) (z:Str) (qQ:vs=[.ref p,.str z]) (qZ:H p=some (.ins C dx [])) (qV:Q .qd (upd H p (.ins C dx (zC z 0 0))))
def Rc(C:jp):Sp:=λvs H Q zh=>qu4 C vs H Q
theorem scI:qO ["self","text"] ["self","text"] (qK Vs):=by symm
theorem qu6(F:qJ K "__init__" "Pieces.__init__" Vs .none fI fd)(T:Pk K C fI fT):∅ 1 fI fd ["self","text"] (Rc C):=by
 refine F.qB scI (by grind) ?_
 omega
 obtain⟨p,dx,z,rfl,hp,k⟩:=h
 refine⟨_,qc (xj (pv 0) (pv 1) rfl) (qc (xj (pv 0) qe rfl) (qg (xj (pv 0) qe rfl))),?_⟩
 left
 refine⟨_,rfl,_,rfl,p,C,dx,[],rfl,hp,T.cl,T.n1,(by decide),_,rfl,p,C,dx,_,rfl,qu,T.cl,T.n2,(by show 1<1000;decide),_,rfl,p,C,dx,_,rfl,qu,T.cl,T.n3,?_,?_⟩
 ·refine Nat.lt_of_le_of_lt (JA _ _ _) ?_
  show 2<1000;decide
 ·have e:zP "behind" (V.int 0) (zP "place" (V.int 0) (zP "text" (V.str z) []))=zC z 0 0:=by
   show zP "behind" (V.int 0) (zP "place" (V.int 0) [("text",V.str z)])=_
   rw[xC Ry]
   show zP "behind" (V.int 0) [("text",V.str z),("place",V.int 0)]=_
   rw[xC Ru,xC Ro]
   rfl
  rw[e,uL,uL]
  exact k
inductive qu7(C:jp)(vs:List V)(H:Hp)(Q:VK):Prop
 |mk (p:jp) (dx:jp) (z:Str) (a:Int) (b:Nat) (qQ:vs=[.ref p]) (qZ:H p=some (.ins C dx (zC z a b))) (qV:z.length<=100000) (qG:b<=z.length) (zm:Q (.str (sU z (pStart z b) (pEnd z (pStart z b)))) (upd H p (.ins C dx (zC z (pStart z b:Nat) (pEnd z (pStart z b):Nat)))))
def Rl(C:jp):Sp:=λvs H Q zh=>qu7 C vs H Q
theorem scT:qO ["self"] ["self"] (qK Vt):=by symm
theorem qu9{Rg:ol}(F:qJ K "take" "Pieces.take" Vt .none fT fd)(T:Pk K C fI fT)(G:Zd mg)(FS:qJ K "piece_start" "piece_start" Zn .none fS eK)(FE:qJ K "piece_end" "piece_end" Zb .none fE Rg)(mS:mg "piece_start"=some (.ref fS))(mE:mg "piece_end"=some (.ref fE))(bS:Binds K eK ["text","place"] [])(bE:Binds K Rg ["text","start"] []):∅ 2 fT fd ["self"] (Rl C):=by
 refine F.qB scT (by grind) ?_
 omega
 obtain⟨p,dx,z,a,b,rfl,hp,hz,hb,k⟩:=h
 have GS:=quH (P:=P) (w:=w) (base:=base) FS G
 have GE:=quR (P:=P) (w:=w) (base:=base) FE G
 have kq:z.length<=sizeLine:=by rw[xt];lia
 refine⟨_,qc (xj (pv 0) (f9 GS hr (by rfl) mS FS.kp bS .nil z8 (qx (qT (pv 0) rfl) (qx (qT (pv 0) rfl) qk))) rfl)
  (qc (xj (pv 0) (f9 GE hr (by rfl) mE FE.kp bE .nil z8 (qx (qT (pv 0) rfl) (qx (qT (pv 0) rfl) qk))) rfl)
  (qg (qW (nu Dn (qT (pv 0) rfl) (lP (qT (pv 0) rfl)) (lP (qT (pv 0) rfl)))))),?_⟩
 left
 have g1:∀{H':Hp}{x y:Int},H' p=some (.ins C dx (zC z x y))->∃(a:jp)(C0 dx0:jp)(fs:List (Str×V))(v:V),V.ref p= .ref a/\H' a=some (.ins C0 dx0 fs)/\vJ K C0/\jO K C0 "text"/\fs.lookup ("text":Str)=some v/\v= .str z:=fun {H' x y}h=>⟨p,C,dx,_,_,rfl,h,T.cl,T.n1,Zp _ _ _,rfl⟩
 refine⟨_,rfl,p,C,dx,_,_,rfl,hp,T.cl,T.n1,Zp _ _ _,_,rfl,p,C,dx,_,_,rfl,hp,T.cl,T.n3,Ri _ _ _,z,b,rfl,hz,hb,_,rfl,p,C,dx,_,rfl,hp,T.cl,T.n2,(by show 3<1000;decide),?_⟩
 rw[qu2]
 have h1:upd H p (.ins C dx (zC z (pStart z b:Nat) b)) p=some (.ins C dx (zC z (pStart z b:Nat) b)):=qu
 refine⟨_,rfl,p,C,dx,_,_,rfl,h1,T.cl,T.n1,Zp _ _ _,_,rfl,p,C,dx,_,_,rfl,h1,T.cl,T.n2,VZ _ _ _,z,pStart z b,rfl,hz,Zh hb,_,rfl,p,C,dx,_,rfl,h1,T.cl,T.n3,(by show 3<1000;decide),?_⟩
 rw[qu3,uL]
 have h2:upd H p (.ins C dx (zC z (pStart z b:Nat) (pEnd z (pStart z b):Nat))) p=some (.ins C dx (zC z (pStart z b:Nat) (pEnd z (pStart z b):Nat))):=qu
 refine⟨_,rfl,p,C,dx,_,_,rfl,h2,T.cl,T.n1,Zp _ _ _,_,rfl,p,C,dx,_,_,rfl,h2,T.cl,T.n2,VZ _ _ _,_,rfl,_,rfl,p,C,dx,_,_,rfl,h2,T.cl,T.n3,Ri _ _ _,_,rfl,z,rfl,kq,?_⟩
 rw[quS (quT (Zh hb)) (Rw (Zh hb))]
 exact k
end
section
variable {base:ll} {S:jp}
theorem qoz:qO ["self","text","at"] ["self","text","at"] (qK Va):=by symm
theorem qoj(F:qJ K "__init__" "BadText.__init__" Va dV f fd)(xs:KJ K mg S)(xc:XC K C bm)(na:jO K C "at"):∅ 1 f fd ["self","text","at"] (rH C "at"):=by
 refine F.qB qoz (by grind) ?_
 omega
 obtain⟨e,a,x,v,rfl,he,k⟩:=h
 refine⟨_,qc (zG (Di (by rfl) xs.F4 xs.ga xs.rd xs.fi (qx (pv 0) (qx (pv 1) qk)))) (qg (Dl (pv 0) (pv 2))),?_⟩
 left
 refine⟨_,rfl,_,rfl,e,C,a,none,true,bm,[.str x],rfl,he,xc,xJ,λa' ha=>⟨_,rfl,_,rfl,e,C,a',true,bm,rfl,qu,xc,na,λd hd=>F5 he k ha hd⟩⟩
end
end K27
namespace L2
open PySem
theorem qS.Rm(g:qS a H H')(hl:H l=Option.none):qS a H (upd H' l o):=
 ⟨λb p hb e=>(qm (zM e hl)).trans (g.keep b p hb e),λb e=>by
  by_cases z:b=l
  ·subst z;exact hl
  ·rw[qm z]at e;exact g.none b e⟩
theorem qS.grow(g:qS a H H1)(x:qv H1 H2):qS a H H2:=g.trans x.b
end L2
namespace K27
open PySem L2 Mth PyProof Dt
theorem z0{b:Bool}{A B:Prop}(hb:b=false)(h:B):if b=true then A else B:=by subst hb;exact qA h
theorem jG{b:Bool}{A B:Prop}(hb:b=true)(h:A):if b=true then A else B:=by subst hb;exact zY h
abbrev sO:cc:=top 136
abbrev Zr:cc:=top 137
abbrev VJ:cc:=top 138
def z5(z:Str)(b:Nat):Str:=sU z (pStart z b) (pEnd z (pStart z b))
def z9(z:Str)(b:Nat):Nat:=pEnd z (pStart z b)
def sI(f:Nat->Option (Dt×Nat)):Nat->Nat->Option (List Dt×Nat)
 |0,b=>some ([],b)
 |m+1,b=>(f b).bind λx=>(sI f m x.2).map λy=>(x.1::y.1,y.2)
abbrev sC:List (Str×V):=(["list","pair","fun"]:List Str).zip [V.int 1,.int 2,.int 2]
def kz(x:Str):Option Nat:=if x="list" then some 1 else if x="pair"\/x="fun" then some 2 else none
def bZ(z:Str):Nat->Nat->Option (Dt×Nat)
 |0,_=>none
 |n+1,b=>if z5 z b="(" then(kz (z5 z (z9 z b))).bind λm=>(sI (bZ z n) m (z9 z (z9 z b))).bind λr=>if z5 z r.2=")" then some (.tup (.str (z5 z (z9 z b))::r.1),z9 z r.2)else none
  else if z5 z b="int"\/z5 z b="bool" then some (.str (z5 z b),z9 z b)else none
inductive jT(C:jp)(H:Hp)(p:jp)(z:Str)(b:Nat):Prop
 |mk (dx:jp) (a:Int) (e:H p=some (.ins C dx (zC z a b))) (l:z.length<=2000) (h:b<=z.length)
theorem jT.mono{p:jp}{b:Nat}(h:jT C H p z b)(g:qv H H'):jT C H' p z b:=let⟨dx,a,e,l,r⟩:=h;⟨dx,a,g.same _ _ e,l,r⟩
theorem jT.jv{p:jp}{b:Nat}(h:jT C H p z b)(g:qS p H H'):jt K H H':=λb xs hb=>by
 obtain⟨dx,a,e,_⟩:=h
 rcases hb with(hb|⟨o,hb⟩)|hb
 ·exact .inl (.inl (g.keep b _ (j9 hb e (by intro z;cases z)) hb))
 ·exact .inl (.inr ⟨o,g.keep b _ (j9 hb e (by intro z;cases z)) hb⟩)
 ·exact .inr hb
theorem jT.lists{p:jp}{b:Nat}(h:jT C H p z b)(g:qS p H H')(e:H l=some (.lst xs)):H' l=some (.lst xs):=by
 obtain⟨dx,a,e',_⟩:=h
 exact g.keep l _ (j9 e e' (by intro z;cases z)) e
theorem jT.new{p:jp}{b:Nat}(h:jT C H p z b)(n:l≠p):jT C (upd H l o) p z b:=let⟨dx,a,e,l,r⟩:=h;⟨dx,a,(qm (y7 n)).trans e,l,r⟩
inductive Tkn(C:jp)(H:Hp)(p:jp)(z:Str)(b:Nat):Prop
 |mk (dx:jp) (a:Int) (e:H p=some (.ins C dx (zC z a b))) (l:z.length<=100000) (h:b<=z.length) (n:(zC z a (b:Nat)).lookup ("take":Str)=none) (g:qS p H (upd H p (.ins C dx (zC z (pStart z b:Nat) (z9 z b:Nat))))) (s:jT C (upd H p (.ins C dx (zC z (pStart z b:Nat) (z9 z b:Nat)))) p z (z9 z b))
theorem gC{p:jp}{b:Nat}(h:jT C H p z b):Tkn C H p z b:=by
 obtain⟨dx,a,e,h1,h2⟩:=h
 exact⟨dx,a,e,by lia,h2,qu1 _ _ _,(qS.refl p H).set e,dx,_,qu,h1,Rw (Zh h2)⟩
section
variable {base:ll} {fT:jp} {wk:ol}
structure Tk(P:cv)(w:fe)(K:Fg)(mg:Str->Option zt)(base:ll)(C fI fT:jp)(wk:ol):Prop where
 T:Pk K C fI fT
 GT:∅ 2 fT wk ["self"] (Rl C)
 bT:Binds K wk ["self"] []
inductive qok(C:jp)(vs:List V)(H:Hp)(Q:VK):Prop
 |mk (p:jp) (z:Str) (b:Nat) (qQ:vs=[.ref p]) (qZ:jT C H p z b) (qV:z5 z b=")") (qG:∀H',qS p H H'->jT C H' p z (z9 z b)->Q .qd H')
def sG(C:jp):Sp:=λvs H Q zh=>qok C vs H Q
theorem qov:qO ["pieces"] ["pieces"] (qK VJ):=by symm
theorem qow(F:qJ K "close_brackets" "close_brackets" VJ .none f fd)(T:Tk P w K mg base C fI fT wk):∅ 3 f fd ["pieces"] (sG C):=by
 refine F.qB qov (by grind) ?_
 omega
 obtain⟨p,z,b,rfl,hz,hc,q⟩:=h
 refine⟨_,qg (qP (qM fX (we (pv 0) T.T.cl T.T.mt T.GT hr T.bT .nil z8) qh (qR _)) wg zq),?_⟩
 left
 obtain⟨dx,a,e,h1,h2,h3,g1,z1⟩:=gC hz
 refine⟨_,rfl,p,dx,_,rfl,e,h3,p,dx,z,a,b,rfl,e,h1,h2,?_⟩
 have xq:sU z (pStart z b) (pEnd z (pStart z b))=")":=hc
 rw[xq]
 exact⟨rfl,_,rfl,qkv rfl (q _ g1 z1)⟩
structure sM(K:Fg)(mg:Str->Option zt):Prop where
 bare:∃a,mg "BARE_KINDS"=some (.ref a)/\∀H,qb K H a [.str "int",.str "bool"]
 Rf:∃a,mg "KIND_SIZES"=some (.ref a)/\kE K a sC
 qoy:∃t,mg "DEEPEST_KIND"=some (.int 8 t)
 len:mg "len"=none
 tuple:mg "tuple"=none
theorem qou{m:Nat}(h:kz x=some m):y0 x sC=true/\xl x sC=some (.int (m:Nat))/\m<=2:=by
 unfold kz at h
 split at h
 ·next e=>subst e;cases h;ext
 ·split at h
  ·next e=>cases h;rcases e with rfl|rfl<;>ext
  ·cases h
inductive qoo(K:Fg)(C:jp)(n:Nat)(vs:List V)(H:Hp)(Q:VK):Prop
 |mk (p:jp) (dp:Nat) (z:Str) (b:Nat) (d:Dt) (b':Nat) (qQ:vs=[.ref p,.int dp]) (qZ:jT C H p z b) (qV:bZ z n b=some (d,b')) (qG:dp+n<=8) (zm:∀v H',qS p H H'->qw K H' d v->jT C H' p z b'->Q v H')
def bJ(K:Fg)(C:jp)(n:Nat):Sp:=λvs H Q zh=>qoo K C n vs H Q
inductive qoi(K:Fg)(C:jp)(n:Nat)(vs:List V)(H:Hp)(Q:VK):Prop
 |mk (p:jp) (dp:Nat) (z:Str) (b:Nat) (m:Nat) (ds:List Dt) (b':Nat) (qQ:vs=[.ref p,.int dp]) (qZ:jT C H p z b) (qV:kz (z5 z b)=some m) (qG:sI (bZ z n) m (z9 z b)=some (ds,b')) (zm:z5 z b'=")") (je:dp+n<=8) (kc:∀v H',qS p H H'->qw K H' (.tup (.str (z5 z b)::ds)) v->jT C H' p z (z9 z b')->Q v H')
def Rh(K:Fg)(C:jp)(n:Nat):Sp:=λvs H Q zh=>qoi K C n vs H Q
theorem VX:qO ["pieces","depth","word","found"] ["pieces","depth"] (qK Zr):=by symm
theorem qoc(hj:3<=j)(F:qJ K "read_kind_brackets" "read_kind_brackets" Zr .none f fd)(T:Tk P w K mg base C fI fT wk)(G:sM K mg)(GC:⋯ 3 "close_brackets" ["pieces"] (sG C))(GK:⋯ j "read_kind" ["pieces","depth"] (bJ K C n)):∅ (j+1) f fd ["pieces","depth"] (Rh K C n):=by
 refine F.qB VX (by grind) ?_
 omega
 obtain⟨p,dp,z,b,m,ds,b',rfl,hz,hk,hm,iI,h9,q⟩:=h
 obtain⟨tk,mT,oJ⟩:=G.Rf
 obtain⟨t8,m8⟩:=G.qoy
 have yw:=hr.mono (show 2<=j by lia)
 have VW:=hr.mono (show 3<=j by lia)
 refine⟨_,qc (qC (i:=2) VX.nd rfl oI (we (pv 0) T.T.cl T.T.mt T.GT yw T.bT .nil z8))
  (qc (qP (PW.pt (yb (qM yf (pv 1) (zf (v:=.int 8) (by rfl) m8 ⟨t8,rfl⟩) (qR _)) (iS (qM Dp (pv 2) (zf (v:=.ref tk) (by rfl) mT rfl) rfl)))) wg zq)
  (qc (qC (i:=3) VX.nd rfl oI (zQ (qx (pv 2) qk)))
  (qc (lO i4 (qM JD (jZ wQ (by rfl) G.len xV (qx (pv 3) qk)) (qU ux (zf (v:=.ref tk) (by rfl) mT rfl) (pv 2)) (qR _))
    (qg (zG (jA jV vp vt vj (pv 3) (qx (zw GK hr (qx (pv 0) (qx (pv 1) qk))) qk)))))
  (qc (zG (zw GC VW (qx (pv 0) qk)))
  (qg (qW (wD Ql (by rfl) G.tuple lL (qx (pv 3) qk)))))))),?_⟩
 left
 obtain⟨dx,a,e,h1,h2,h3,g1,z1⟩:=gC hz
 refine⟨_,rfl,p,dx,_,rfl,e,h3,p,dx,z,a,b,rfl,e,h1,h2,?_⟩
 right
 obtain⟨y1,y2,y3⟩:=qou hk
 have iW:∃o,(upd H p (.ins C dx (zC z (pStart z b:Nat) (z9 z b:Nat)))) p=some o:=⟨_,qu⟩
 change vC _ _ _ [some (.ref p),some (.int dp),some (.str (z5 z b)),none] (upd H p (.ins C dx (zC z (pStart z b:Nat) (z9 z b:Nat))))
 generalize upd H p (.ins C dx (zC z (pStart z b:Nat) (z9 z b:Nat)))=H1 at g1 z1 iW⊢
 generalize z9 z b=b1 at hm z1
 generalize z5 z b=wd at hk q y1 y2⊢
 refine⟨_,rfl,_,_,rfl,rfl,_,rfl,z0 (xn (by lia)) ?_⟩
 refine⟨_,rfl,_,_,_,rfl,rfl,oJ,_,rfl,?_⟩
 rw[y1]
 refine qA ?_
 refine⟨_,rfl,xJ,λl hl=>?_⟩
 obtain⟨op,fY⟩:=iW
 have VY:l≠p:=λzz=>by rw[zz,fY]at hl;cases hl
 have VU:H l=none:=g1.none _ hl
 have g2:=qv.put (o:=.lst [.str wd]) hl
 have e2:=@qu H1 l (.lst [.str wd])
 have z2:=z1.mono g2
 right
 generalize upd H1 l (.lst [.str wd])=H2 at g2 e2 z2⊢
 refine⟨λi σ H3=>∃(vs:List V)(as cs:List Dt)(b2:Nat),σ=[some (.ref p),some (.int dp),some (.str wd),some (.ref l)]/\vs.length+i=m/\qS p H H3/\H3 l=some (.lst (.str wd::vs))/\qf K H3 as vs/\jT C H3 p z b2/\sI (bZ z n) i b2=some (cs,b')/\ds=as++cs,
  ⟨m,[],[],ds,b1,rfl,by simp,g1.grow g2,e2,zp,z2,hm,rfl⟩,?_⟩
 rintro i σ H3 ⟨vs,as,cs,b2,rfl,hi,g3,el,xw,vX,hmm,hap⟩
 refine⟨_,rfl,l,_,rfl,.inl (qp.of el),_,rfl,_,_,_,_,rfl,rfl,oJ,y2,_,_,rfl,rfl,_,rfl,zB (λc=>?_) (λc=>?_)⟩
 ·have c':0<i:=by
   have :=vi c
   rw[zH]at this
   lia
  obtain⟨i,rfl⟩:∃k,i=k+1:=⟨i-1,by lia⟩
  simp only[sI,jU,ve]at hmm
  obtain⟨⟨d1,b3⟩,oZ,⟨Rp,b4⟩,iE,hee⟩:=hmm
  cases hee
  refine⟨λσ' H'=>∃(vs:List V)(as:List Dt),σ'=[some (.ref p),some (.int dp),some (.str wd),some (.ref l)]/\vs.length+i=m/\qS p H H'/\H' l=some (.lst (.str wd::vs))/\qf K H' as vs/\jT C H' p z b3/\ds=as++Rp,
   λσ' H'⟨nJ,as',e1,e2,e3,e4,e5,e6,e7⟩=>⟨i,by lia,nJ,as',Rp,b3,e1,e2,e3,e4,e5,e6,iE,e7⟩,?_⟩
  refine⟨_,rfl,.inl ⟨rfl,_,qp.of el⟩,_,rfl,_,rfl,p,dp,z,b2,d1,b3,rfl,vX,oZ,h9,λv H4 g4 hv gG=>?_⟩
  have wj:=vX.lists g4 el
  have kt:=vX.jv (K:=K) g4
  refine⟨l,_,_,rfl,rfl,wj,by rw[zH,xt];lia,?_⟩
  have cR:jt K H4 (upd H4 l (.lst ((.str wd::vs)++[v]))):=qS.jv ((qS.refl l H4).set wj) wj
  exact⟨vs++[v],as++[d1],rfl,by rw[va,FK];lia,(g3.trans g4).Rm VU,qu,((xw.zb kt).zb cR).append (zx (hv.zb cR) zp),gG.new VY,by rw[hap,NA];rfl⟩
 ·have c':i=0:=by
   have :¬(((.str wd::vs:List V).length:Nat):Int)<=(m:Nat):=λzz=>c (vw zz)
   rw[zH]at this
   lia
  subst c'
  cases hmm
  rw[lr]at hap
  subst hap
  refine⟨_,rfl,p,z,b',rfl,vX,iI,λH4 g4 gG=>?_⟩
  have wj:=vX.lists g4 el
  have kt:=vX.jv (K:=K) g4
  refine⟨_,rfl,l,_,rfl,.inl ⟨qp.of wj,λt ht=>?_⟩⟩
  have g5:=qv.put (o:=.tup (.str wd::vs)) ht
  exact q _ _ ((g3.trans g4).grow g5) (cV (qb.of qu) (zx (uf _) ((xw.zb kt).mono g5.same))) (gG.mono g5)
theorem VO:qO ["pieces","depth","piece"] ["pieces","depth"] (qK sO):=by symm
theorem qog(F:qJ K "read_kind" "read_kind" sO .none f fd):∅ (2*0+3) f fd ["pieces","depth"] (bJ K C 0):=by
 refine F.qB (k:=2) VO (λvs H Q E h=>?_) (λzy A outer s H vs Q E hr h=>?_)
 ·obtain⟨p,dp,z,b,d,b',rfl,_⟩:=h
  rfl
 ·obtain⟨p,dp,z,b,d,b',rfl,_,hd,_⟩:=h
  cases hd
theorem qom(F:qJ K "read_kind" "read_kind" sO .none f fd)(T:Tk P w K mg base C fI fT wk)(G:sM K mg)(GB:⋯ (2*n+4) "read_kind_brackets" ["pieces","depth"] (Rh K C n)):∅ (2*(n+1)+3) f fd ["pieces","depth"] (bJ K C (n+1)):=by
 refine F.qB (k:=2*n+4) VO (λvs H Q E h=>?_) (λzy A outer s H vs Q E hr h=>?_)
 ·obtain⟨p,dp,z,b,d,b',rfl,_⟩:=h
  rfl
 ·obtain⟨p,dp,z,b,d,b',rfl,hz,hd,h9,q⟩:=h
  obtain⟨ba,mB,sB⟩:=G.bare
  have yw:=hr.mono (show 2<=2*n+4 by lia)
  refine⟨_,qc (qC (i:=2) VO.nd rfl oI (we (pv 0) T.T.cl T.T.mt T.GT yw T.bT .nil z8))
   (qc (qP (qM jb (pv 2) qh (qR _)) (qg (qW (zw GB hr (qx (pv 0) (qx (zV oR (pv 1) qe) qk))))) zq)
   (qc (qP (qM BW (pv 2) (zf (v:=.ref ba) (by rfl) mB rfl) rfl) wg zq)
   (qg (qW (pv 2))))),?_⟩
  left
  obtain⟨dx,a,e,h1,h2,h3,g1,z1⟩:=gC hz
  refine⟨_,rfl,p,dx,_,rfl,e,h3,p,dx,z,a,b,rfl,e,h1,h2,?_⟩
  right
  change vC _ _ _ [some (.ref p),some (.int dp),some (.str (z5 z b))] (upd H p (.ins C dx (zC z (pStart z b:Nat) (z9 z b:Nat))))
  generalize upd H p (.ins C dx (zC z (pStart z b:Nat) (z9 z b:Nat)))=H1 at g1 z1⊢
  rw[bZ]at hd
  split at hd
  ·next hb=>
   simp only[jU]at hd
   obtain⟨m,hk,⟨ds,b2⟩,hm,hd⟩:=hd
   split at hd
   ·next iI=>
    cases hd
    rw[hb]
    refine⟨_,rfl,rfl,_,rfl,jG (by ext) ?_⟩
    exact⟨_,rfl,_,rfl,_,_,rfl,rfl,p,dp+1,z,z9 z b,m,ds,b2,rfl,z1,hk,hm,iI,by lia,λv H2 g2 hv Zs=>q v H2 (g1.trans g2) hv Zs⟩
   ·cases hd
  ·next hb=>
   split at hd
   ·next hx=>
    cases hd
    have n1:decide (V.str (z5 z b)=V.str "(")=false/\(!kX (.str (z5 z b)) [.str "int",.str "bool"])=false:=by rcases hx with hx|hx<;>rw[hx]<;>ext
    refine⟨_,rfl,rfl,_,rfl,z0 n1.1 ?_⟩
    refine⟨_,rfl,ba,_,rfl,.inr (sB _),rfl,rfl,_,rfl,?_⟩
    rw[vb rfl]
    exact z0 n1.2 ⟨_,rfl,q _ _ g1 (uf _) z1⟩
   ·cases hd
end
end K27
namespace L2
open PySem PySem.Spec PyProof.Rows PyProof Dt
theorem Zt(h1:∀y∈scope.names,y.2≠ .free)(h2:∀y∈scope.names,y.2≠ .cell)(h3:scope.kind= .function)(h4:∀y∈scope.names,y.2= .local->scope.names.lookup y.1=some .local)(nd:(own++([]:List Str)).Nodup):wR X scope [] own [] []where
 X3:=closureFor_none h1
 cell:=h2
 kind:=h3
 names:=h4
 cls:=λy c h=>by cases h
 fr:=λy h=>absurd rfl (h1 _ (mem_of_lookup h))
 nd:=nd
 at_:=λj y h=>by simp at h
 len:=rfl
 out:=λy h=>by cases h
theorem qon{D:jp}{R:Hp->Prop}(Pv:Nat->List V->Hp->Prop)(h0:Pv 0 [] (upd H D (.lst [])))(hx:∀i ys H',i<=xs.length->Pv i ys H'->qb K H' a xs)(he:∀i x ys H',xs[i]? =some x->Pv i ys H'->∀Q':VK,(∀y H6,H6 D=some (.lst ys)->ys.length<sizeLine->Pv (i+1) (ys++[y]) (upd H6 D (.lst (ys++[y])))->Q' y H6)->te (jR ix [some x] σ) H' Q')(q:∀ys H',Pv xs.length ys H'->R H'):
  ∃W:Nat->Nat->List V->Hp->Prop,(∃m,W 0 m [] (upd H D (.lst [])))/\∀i m ys H2,W i m ys H2->
   ((wm K a).stop i H2/\R H2)\/((wm K a).go i H2/\∀(o:List (Option V))v H3,o.length=1->(wm K a).vZ i H2 v H3->xF 0 v (jR ix o σ) H3 λσ2 H4=>(∃o':List (Option V),σ2=jR ix o' σ/\o'.length=1)/\
    wK none σ2 H4 λb H5=>if b=true then te σ2 H5 λy H6=>H6 D=some (.lst ys)/\ys.length<sizeLine/\∃m',m'<m/\W (i+1) m' (ys++[y]) (upd H6 D (.lst (ys++[y])))else∃m',m'<m/\W (i+1) m' ys H5):=by
 refine⟨λi m ys H2=>i<=xs.length/\m=xs.length-i/\Pv i ys H2,⟨_,io _,rfl,h0⟩,?_⟩
 rintro i m ys H2 ⟨hi,rfl,p⟩
 have xh:=hx i ys H2 hi p
 by_cases hl:i<xs.length
 ·refine .inr ⟨⟨xs,xs[i],xh,jm hl⟩,λo v H3 ho hy=>?_⟩
  obtain⟨rfl,hv⟩:=hy
  have yh:=hv xs xh
  match o,ho with
  |[_],_=>
   refine⟨⟨[some v],rfl,rfl⟩,?_⟩
   dsimp only[wK]
   exact zY (he i v ys _ yh p _ λy H6 e1 e2 p'=>⟨e1,e2,xs.length-(i+1),by lia,hl,rfl,p'⟩)
 ·have e:i=xs.length:=by lia
  subst e
  exact .inl ⟨⟨xs,xh,qL _⟩,q _ _ p⟩
end L2
namespace K27
open PySem L2 PyProof Dt
noncomputable abbrev sN:cc:=top 63
structure VI(K:Fg)(mg:Str->Option zt):Prop where
 gf:mg "isinstance"=none
 str:mg "str"=none
 ts:PySem.W.kitOne K (.type "tuple") (.type "str")=some false
noncomputable def txt:Kd->Str
 | .int=>"int"
 | .bool=>"bool"
 | .list k=>"("++fw " " ["list",txt k]++")"
 | .pair k l=>"("++fw " " ["pair",txt k,txt l]++")"
 | .fn k l=>"("++fw " " ["fun",txt k,txt l]++")"
noncomputable def Kd.wd:Kd->Str
 | .list _=>"list"| .pair _ _=>"pair"|_=>"fun"
noncomputable def Kd.kids:Kd->List Kd
 | .list k=>[k]| .pair k l=>[k,l]| .fn k l=>[k,l]|_=>[]
noncomputable def Kd.leaf:Kd->Bool
 | .int=>true| .bool=>true|_=>false
theorem qob{k:Kd}(h:Kd.leaf k=false):txt k="("++fw " " (Kd.wd k::(Kd.kids k).map txt)++")":=by cases k<;>first|rfl|cases h
theorem Za(ts:List Str):(fw " " ts).length<=(ts.map (·.length)).sum+ts.length:=by
 show(qzj " " ts).length<=_
 rw[D']
 have :=qq8 " " ts
 have e:(" ":Str).length=1:=by decide
 rw[e]at this
 lia
theorem kQ:("(":Str).length=1/\(")":Str).length=1/\("list":Str).length=4/\("pair":Str).length=4/\("fun":Str).length=3/\("int":Str).length=3/\("bool":Str).length=4:=by decide
theorem bX:∀k:Kd,(txt k).length<=9*k.sz
 | .int=>by rw[txt,kQ.2.2.2.2.2.1,Kd.sz];decide
 | .bool=>by rw[txt,kQ.2.2.2.2.2.2,Kd.sz];decide
 | .list k=>by
  have h:=bX k
  have j:=Za ["list",txt k]
  simp only[wq,eJ,B2,qqo,zH,yn,kQ.2.2.1]at j
  rw[txt,vT,vT,kQ.1,kQ.2.1,Kd.sz]
  lia
 | .pair k l=>by
  have h:=bX k
  have h':=bX l
  have j:=Za ["pair",txt k,txt l]
  simp only[wq,eJ,B2,qqo,zH,yn,kQ.2.2.2.1]at j
  rw[txt,vT,vT,kQ.1,kQ.2.1,Kd.sz]
  lia
 | .fn k l=>by
  have h:=bX k
  have h':=bX l
  have j:=Za ["fun",txt k,txt l]
  simp only[wq,eJ,B2,qqo,zH,yn,kQ.2.2.2.2.1]at j
  rw[txt,vT,vT,kQ.1,kQ.2.1,Kd.sz]
  lia
theorem Rr{k:Kd}(h:Kd.leaf k=false):(Kd.kids k).length<=2/\(Kd.wd k).length<=4/\∀l∈Kd.kids k,l.qa<k.qa/\l.sz<k.sz:=by
 cases k with
 |int=>cases h
 |bool=>cases h
 |list k=>simp[Kd.kids,Kd.wd,Kd.qa,Kd.sz];decide
 |pair k l=>refine⟨by simp[Kd.kids],by simp[Kd.wd];decide,?_⟩;simp[Kd.kids,Kd.qa,Kd.sz];lia
 |fn k l=>refine⟨by simp[Kd.kids],by simp[Kd.wd];decide,?_⟩;simp[Kd.kids,Kd.qa,Kd.sz];lia
section
variable {base:ll}
theorem qod{k:Kd}(hl:Kd.leaf k=false)(h:qw K H k.dt v):∃a ws,v= .ref a/\qb K H a (.str (Kd.wd k)::ws)/\qf K H ((Kd.kids k).map Kd.dt) ws:=by
 cases k with
 |int=>cases hl
 |bool=>cases hl
 |list k=>obtain⟨a,u,rfl,h1,h2⟩:=xG h;exact⟨a,_,rfl,h1,zx h2 zp⟩
 |pair k l=>obtain⟨a,u,x,rfl,h1,h2,h3⟩:=nI h;exact⟨a,_,rfl,h1,zx h2 (zx h3 zp)⟩
 |fn k l=>obtain⟨a,u,x,rfl,h1,h2,h3⟩:=nI h;exact⟨a,_,rfl,h1,zx h2 (zx h3 zp)⟩
theorem qof{k:Kd}(hl:Kd.leaf k=true)(h:qw K H k.dt v):v= .str (txt k)/\k.dt= .str (txt k):=by
 cases k with
 |int=>exact⟨xW h,rfl⟩
 |bool=>exact⟨xW h,rfl⟩
 |_=>cases hl
theorem qoh{k:Kd}(hl:Kd.leaf k=false):X7 k.dt="tuple":=by cases k<;>first|rfl|cases hl
theorem qop(K:Fg):PySem.W.kitOne K (.type "str") (.type "str")=some true:=by
 unfold PySem.W.kitOne
 rw[vb (by decide)]
inductive qor(K:Fg)(n:Nat)(vs:List V)(H:Hp)(Q:VK):Prop
 |mk (v:V) (k:Kd) (qQ:vs=[v]) (qZ:qw K H k.dt v) (qV:k.qa<n) (qG:k.sz<=40) (zm:∀H',qv H H'->Q (.str (txt k)) H')
noncomputable def bK (K:Fg) (n:Nat):Sp:=λvs H Q zh=>qor K n vs H Q
theorem VC:qO ["kind","inside"] ["kind"] (qK sN):=by symm
theorem qos{k:Kd}{D0 t0:jp}{ws:List V}{R:Hp->Prop}(hd:k.qa<n+1)(hz:k.sz<=40)(hl:Kd.leaf k=false)(hw:qf K H1 ((Kd.kids k).map Kd.dt) ws)(hs:qb K H1 t0 ws)(kr:H1 D0=none)(q:∀H2,qv H1 H2->H2 D0=some (.lst (((Kd.kids k).map txt).map V.str))->R H2):∃W:Nat->Nat->List V->Hp->Prop,(∃m,W 0 m [] (upd H1 D0 (.lst [])))/\∀i m ys H2,W i m ys H2->
   ((wm K t0).stop i H2/\R H2)\/((wm K t0).go i H2/\∀(o:List (Option V))v H3,o.length=1->(wm K t0).vZ i H2 v H3->xF 0 v (jR [] o σ) H3 λσ2 H4=>(∃o':List (Option V),σ2=jR [] o' σ/\o'.length=1)/\
    wK none σ2 H4 λb H5=>if b=true then yR (bK K n) [] E0 (jQ (zO 0) xx) σ2 H5 λy H6=>H6 D0=some (.lst ys)/\ys.length<sizeLine/\∃m',m'<m/\W (i+1) m' (ys++[y]) (upd H6 D0 (.lst (ys++[y])))else∃m',m'<m/\W (i+1) m' ys H5):=by
 have hlen:ws.length=(Kd.kids k).length:=by rw[hw.length,za]
 obtain⟨f1,f2,f3⟩:=Rr hl
 refine qon (K:=K) (a:=t0) (xs:=ws) (λi ys H2=>qv H1 H2/\H2 D0=some (.lst ys)/\ys=(((Kd.kids k).take i).map txt).map V.str) ⟨qv.put kr,qu,rfl⟩ ?_ ?_ ?_
 ·rintro i ys H2 _ ⟨g,_⟩
  exact qb.mono g.same hs
 ·rintro i x ys H2 hx ⟨g,eD,rfl⟩ Q' hq
  have hi:i<ws.length:=by
   rcases Ha i ws.length with h|h
   ·exact h
   ·rw[la h]at hx;cases hx
  have vq:(Kd.kids k)[i]? =some ((Kd.kids k)[i]'(by lia)):=jm (by lia)
  generalize (Kd.kids k)[i]'(by lia)=l at vq
  obtain⟨x',gJ,KA⟩:=hw.get (i:=i) (d:=l.dt) (by rw[xH,vq];rfl)
  rw[hx]at gJ
  cases gJ
  obtain⟨h1,h2⟩:=f3 l (kM vq)
  refine⟨_,rfl,x,l,rfl,KA.mono g.same,by lia,by lia,λH3 g3=>?_⟩
  refine hq _ H3 (g3.same _ _ eD) ?_ ⟨(g.trans g3).set kr,qu,?_⟩
  ·rw[za,za,i3,xt];lia
  ·rw[my,vq];simp
 ·rintro ys H2 ⟨g,eD,rfl⟩
  rw[hlen,yA (qL _)]at eD
  exact q H2 g eD
theorem qot{k:Kd}(hl:Kd.leaf k=false)(hz:k.sz<=40):((Kd.wd k::(Kd.kids k).map txt).map (·.length)).sum+(Kd.wd k::(Kd.kids k).map txt).length<=1000:=by
 have b:∀l:Kd,l.sz<=40->(txt l).length<=360:=λl h=>by have :=bX l;lia
 cases k with
 |int=>cases hl
 |bool=>cases hl
 |list k=>
  have :=b k (by simp only[Kd.sz]at hz;lia)
  simp[Kd.kids,Kd.wd,kQ.2.2.1];lia
 |pair k l=>
  have :=b k (by simp only[Kd.sz]at hz;lia)
  have :=b l (by simp only[Kd.sz]at hz;lia)
  simp[Kd.kids,Kd.wd,kQ.2.2.2.1];lia
 |fn k l=>
  have :=b k (by simp only[Kd.sz]at hz;lia)
  have :=b l (by simp only[Kd.sz]at hz;lia)
  simp[Kd.kids,Kd.wd,kQ.2.2.2.2.1];lia
theorem qoa(F:qJ K "kind_text" "kind_text" sN .none f fd):∅ (0+1) f fd ["kind"] (bK K 0):=by
 refine F.qB VC (by grind) ?_
 omega
 obtain⟨v,k,rfl,_,hd,_⟩:=h
 exact absurd hd (Y1 _)
theorem qoe(F:qJ K "kind_text" "kind_text" sN .none f fd)(G:VI K mg)(GK:⋯ (n+1) "kind_text" ["kind"] (bK K n)):∅ (n+1+1) f fd ["kind"] (bK K (n+1)):=by
 refine F.qB VC (by grind) ?_
 omega
 obtain⟨v,k,rfl,hv,hd,hz,q⟩:=h
 have uh:((["inner"]:List Str)++([]:List Str)).Nodup:=by ext
 refine⟨_,qc (qP (ku (jZ QU (by rfl) G.gf fo (qx (pv 0) (qx (eO (v:=.ty "str") (by rfl) G.str L' rfl) qk)))) (qg (qW (pv 0))) zq)
  (qc (qC (i:=1) VC.nd rfl oI (jA PySem.F.plainAttrs_str PySem.F.slot_str_join PySem.F.type_str_join XX qh (qx (zV j4 (zQ (qx (qU zc (pv 0) qe) qk))
   (rN (own:=["inner"]) (rest:=[]) (ix:=[]) (Zt (by ext) (by ext) (by rfl) (by ext) (by ext)) rfl (JC (nu Xx (pv 0) (lP qe) pe)) (λC s H fp pins=>zw GK hr (qx (pv 0) qk)) (λC s H fp pins=>xU (i:=0) uh rfl oI (Or.inr (by rfl))))) qk)))
  (qg (qW (Kz (iQ qh (iQ (Kx (pv 1)) (iQ qh Kq))))))),?_⟩
 left
 by_cases hl:Kd.leaf k=true
 ·obtain⟨rfl,ed⟩:=qof hl hv
  refine⟨_,rfl,k.dt,_,"str",true,rfl,hv,by rw[ed];exact qop K,true,rfl,zY ⟨_,rfl,q H (qv.refl H)⟩⟩
 ·have vq:Kd.leaf k=false:=by simpa using hl
  refine⟨_,rfl,k.dt,_,"str",false,rfl,hv,by rw[qoh vq];exact G.ts,false,rfl,qA ?_⟩
  obtain⟨a,ws,rfl,ha,hw⟩:=qod vq hv
  refine⟨rfl,_,rfl,a,_,_,.str (Kd.wd k),rfl,rfl,ha,qY (j:=0) rfl,xJ,λl1 uV=>?_⟩
  have g1:=qv.put (o:=.lst [.str (Kd.wd k)]) uV
  have e1:=@qu H l1 (.lst [.str (Kd.wd k)])
  generalize upd H l1 (.lst [.str (Kd.wd k)])=H1 at g1 e1⊢
  refine⟨_,rfl,_,rfl,a,_,rfl,qb.mono g1.same ha,Fc _ _,λt0 gc=>?_⟩
  rw[Fi]
  have g2:=qv.put (o:=.tup ws) gc
  have e2:qb K (upd H1 t0 (.tup ws)) t0 ws:=qb.of qu
  generalize upd H1 t0 (.tup ws)=H2 at g2 e2⊢
  refine⟨t0,rfl,⟨_,e2⟩,λD0 kr=>?_⟩
  refine qos (n:=n) (R:=_) hd hz vq (hw.mono (g1.trans g2).same) e2 kr λH3 g3 e3=>?_
  have bf:=(g1.trans g2).trans g3
  refine⟨l1,D0,_,_,rfl,rfl,(g2.trans g3).same _ _ e1,e3,?_,λl4 Zo=>?_⟩
  ·have :=(Rr vq).1
   rw[xt];simp;lia
  have g4:=qv.put (o:=.lst ([.str (Kd.wd k)]++((Kd.kids k).map txt).map V.str)) Zo
  have e4:qp K (upd H3 l4 (.lst ([.str (Kd.wd k)]++((Kd.kids k).map txt).map V.str))) l4 ((Kd.wd k::(Kd.kids k).map txt).map V.str):=qp.of qu
  generalize upd H3 l4 (.lst ([.str (Kd.wd k)]++((Kd.kids k).map txt).map V.str))=H4 at g4 e4⊢
  have hj:=qot vq hz
  have Rt:=Za (Kd.wd k::(Kd.kids k).map txt)
  have lsp:(" ":Str).length<=16:=by decide
  refine⟨" ",l4,Kd.wd k::(Kd.kids k).map txt,rfl,rfl,e4,lsp,by lia,?_⟩
  right
  have he:(ci++"(":Str)="(":=by ext
  have lz:sizeLine=16777216:=xt
  refine⟨_,rfl,by rw[he,kQ.1];lia,_,rfl,_,rfl,by lia,_,rfl,?_,_,rfl,?_,?_,?_⟩
  ·rw[he,vT,kQ.1];lia
  ·rw[he,vT,vT,kQ.1,kQ.2.1];lia
  ·rw[he,vT,vT,kQ.1,kQ.2.1];lia
  ·rw[he,<-qob vq]
   exact q H4 (bf.trans g4)
theorem Ra{dK:ol}{fK:jp}(F:Df K mg "kind_text" sN ["kind"] fK dK)(G:VI K mg):∀n,⋯ (n+1) "kind_text" ["kind"] (bK K n)
 |0=>F.kn (qoa F.fn)
 |n+1=>F.kn (qoe F.fn G (Ra F G n))
end
end K27
namespace L2
open PySem PySem.Spec PyProof.Rows PyProof
theorem VL:((["sign"]:List Str)++([]:List Str)).Nodup:=by decide
theorem VG{f:Nat->V}{D:jp}{R:Hp->Prop}(hz:z.length<=sizeLine)(he:∀(c:Nat)(H':Hp)(Q':VK),c∈z.cps.toList->Q' (f c) H'->te (some (.str ⟨#[c]⟩)::ix.map λi=>σ.getD i none) H' Q')(hD:H D=none)(q:R (upd H D (.lst (z.cps.toList.map f)))):
  ∃W:Nat->Nat->List V->Hp->Prop,(∃m,W 0 m [] (upd H D (.lst [])))/\∀i m ys H2,W i m ys H2->
   ((u9 z).stop i H2/\R H2)\/((u9 z).go i H2/\∀(o:List (Option V))v H3,o.length=1->(u9 z).vZ i H2 v H3->xF 0 v (jR ix o σ) H3 λσ2 H4=>(∃o':List (Option V),σ2=jR ix o' σ/\o'.length=1)/\
    wK none σ2 H4 λb H5=>if b=true then te σ2 H5 λy H6=>H6 D=some (.lst ys)/\ys.length<sizeLine/\∃m',m'<m/\W (i+1) m' (ys++[y]) (upd H6 D (.lst (ys++[y])))else∃m',m'<m/\W (i+1) m' ys H5):=by
 obtain⟨W,h0,h⟩:=qv0 (te:=te) (ix:=ix) (σ:=σ) (R:=R) hz he hD q
 refine⟨W,h0,λi m ys H2 w=>(h i m ys H2 w).imp id λ⟨g,k⟩=>⟨g,λo v H3 ho hy=>?_⟩⟩
 match o,ho with
 |[x],_=>
  refine⟨⟨[some v],rfl,rfl⟩,?_⟩
  dsimp only[wK]
  rw[vb rfl]
  exact k v H3 hy
theorem VM:vG X (.type "int") (λxs H Q=>∃z n,xs=[.str z]/\PySem.intText? z=some n/\z.length<=640/\Q (.int n) H):=by
 intro pins s σ H xs us Q I r h
 obtain⟨z,n,rfl,hn,hl,q⟩:=h
 obtain⟨u,rfl,e⟩:=vals1 r
 obtain⟨t,rfl⟩:=e
 exact PySem.W.KIN.call_text hn hl ⟨.int n,H,I.tok _,⟨_,rfl⟩,q⟩
end L2
namespace K27
open PySem L2 Mth PyProof Dt
noncomputable abbrev VN:cc:=top 23
noncomputable abbrev VB:cc:=top 24
noncomputable abbrev sD:cc:=top 25
noncomputable abbrev yy:Str:="abcdefghijklmnopqrstuvwxyz"
noncomputable abbrev j8:Str:="0123456789"
structure Ze(K:Fg)(mg:Str->Option zt):Prop where
 tab:∃a D,mg "PART_SLOTS"=some (.ref a)/\kE K a D/\(∀wd,SL.lookup wd=none->y0 wd D=false)/\∀wd ss,SL.lookup wd=some ss->y0 wd D=true/\∃tp,xl wd D=some (.ref tp)/\∀H,qb K H tp (ss.map V.str)
noncomputable abbrev xO:List (Str×V):=(["true","false"]:List Str).zip [V.bl true,.bl false]
structure cS(K:Fg)(mg:Str->Option zt):Prop where
 all:mg "all"=none
 int:mg "int"=none
 len:mg "len"=none
 yy:∃t,mg "LETTERS"=some (.str yy t)
 j8:∃t,mg "FIGURES"=some (.str j8 t)
 qoZ:∃t,mg "LONGEST_NAME"=some (.int 8 t)
 qoJ:∃t,mg "MOST_FIGURES"=some (.int 19 t)
 least:∃t,mg "LEAST_NUMBER"=some (.int (-9223372036854775808) t)
 most:∃t,mg "GREATEST_NUMBER"=some (.int 9223372036854775807 t)
 RQ:∃a,mg "TRUTHS"=some (.ref a)/\kE K a xO
 parts:∃a,mg "BARE_PARTS"=some (.ref a)/\∀H,qb K H a [.str "num",.str "truth",.str "name"]
 qoX:∃t,mg "DEEPEST_PART"=some (.int 30 t)
noncomputable abbrev oX:List Str:=["x","y","f","n"]
noncomputable abbrev nums:List (Str×Int):=[("0",0),("1",1),("2",2),("7",7),("-2",-2)]
theorem qoK:∀x∈oX,SL.lookup x=none/\y0 x sC=false/\kX (.str x) [.str "int",.str "bool"]=false/\y0 x xO=false/\kX (.str x) [.str "num",.str "truth",.str "name"]=false:=by ext
theorem qoV:∀x∈oX,decide (V.str x=V.str "")=false/\x.length<=8/\(x.cps.toList.head?.map λc=>decide (c∈yy.cps.toList))=some true/\(x.cps.toList.all λc=>decide (c∈yy.cps.toList)||decide (c∈j8.cps.toList))=true:=by ext
noncomputable def bW (t:Str):Str:=if Txt.startswith t "-"=true then qzM t (some 1) none else t
noncomputable def wO (t:Str):Bool:=t.cps.toList.all λc=>decide (c∈j8.cps.toList)
noncomputable def ZQ (t:Str) (r:Bool):Bool:=decide (t.length<=8)&&decide ((bW t).length<=8)&&((!decide (V.str (bW t)=V.str "")&&wO (bW t))==r)&&(!r||match PySem.intText? t with |some n=>decide ((-9223372036854775808:Int)<=n)&&decide (n<=(9223372036854775807:Int))|none=>false)
section
variable {base:ll}
inductive RZ(vs:List V)(H:Hp)(Q:VK):Prop
 |mk (x:Str) (qQ:vs=[.str x]) (qZ:x∈oX) (qV:Q (.bl false) H):RZ vs H Q
noncomputable def RJ:Sp:=λvs H Q zh=>RZ vs H Q
theorem qoW:qO ["run"] ["run"] (qK VN):=by symm
theorem qoY(F:qJ K "is_word" "is_word" VN .none f fd)(G:Ze K mg)(GK:sM K mg)(GR:cS K mg):∅ 1 f fd ["run"] RJ:=by
 refine F.qB qoW (by grind) ?_
 omega
 obtain⟨x,rfl,hx,q⟩:=h
 obtain⟨t1,D1,m1,T1,no1,_⟩:=G.tab
 obtain⟨t2,m2,T2⟩:=GK.Rf
 obtain⟨t3,m3,T3⟩:=GK.bare
 obtain⟨t4,m4,T4⟩:=GR.RQ
 obtain⟨t5,m5,T5⟩:=GR.parts
 obtain⟨y1,y2,y3,y4,y5⟩:=qoK x hx
 refine⟨_,qg (qW (fj (ki u6 (pv 0) (zf (v:=.ref t1) (by rfl) m1 rfl) rfl) (fj (ki u6 (pv 0) (zf (v:=.ref t2) (by rfl) m2 rfl) rfl) (fj (ki ni (pv 0) (zf (v:=.ref t3) (by rfl) m3 rfl) rfl)
  (fj (ki u6 (pv 0) (zf (v:=.ref t4) (by rfl) m4 rfl) rfl) (eN (ki ni (pv 0) (zf (v:=.ref t5) (by rfl) m5 rfl) rfl))))))),?_⟩
 left
 refine⟨_,rfl,_,_,_,rfl,rfl,T1,_,rfl,?_⟩
 rw[no1 x y1]
 refine qA ⟨_,rfl,_,_,_,rfl,rfl,T2,_,rfl,?_⟩
 rw[y2]
 refine qA ⟨_,rfl,t3,_,rfl,.inr (T3 _),rfl,rfl,_,rfl,z0 y3 ?_⟩
 refine⟨_,rfl,_,_,_,rfl,rfl,T4,_,rfl,?_⟩
 rw[y4]
 refine qA ⟨_,rfl,t5,_,rfl,.inr (T5 _),rfl,rfl,?_⟩
 show Q (.bl (kX (.str x) [.str "num",.str "truth",.str "name"])) H
 rw[y5]
 exact q
inductive RX(vs:List V)(H:Hp)(Q:VK):Prop
 |mk (x:Str) (qQ:vs=[.str x]) (qZ:((x∈oX/\∀H',qv H H'->Q (.bl true) H')\/((x=""\/x=")")/\Q (.bl false) H))):RX vs H Q
noncomputable def ZZ:Sp:=λvs H Q zh=>RX vs H Q
theorem qoO:qO ["run"] ["run"] (qK VB):=by symm
theorem qoI(F:qJ K "is_name" "is_name" VB .none f fd)(GR:cS K mg)(GW:⋯ 1 "is_word" ["run"] RJ):∅ 2 f fd ["run"] ZZ:=by
 refine F.qB qoO (by grind) ?_
 omega
 obtain⟨x,rfl,hc⟩:=h
 obtain⟨t1,m1⟩:=GR.qoZ
 obtain⟨t2,m2⟩:=GR.yy
 obtain⟨t3,m3⟩:=GR.j8
 refine⟨_,qc (qP (PW.pt (yb (qM jb (pv 0) qh (qR _)) (yb (qM yf (jZ i7 (by rfl) GR.len xV (qx (pv 0) qk)) (zf (v:=.int 8) (by rfl) m1 ⟨t1,rfl⟩) (qR _))
  (yb (qM qk1 (qU Qc (pv 0) qe) (zf (v:=.str yy) (by rfl) m2 ⟨t2,rfl⟩) rfl) (iS (ku (zw GW hr (qx (pv 0) qk)))))))) (qg (qW lV)) zq)
  (qg (qW (jZ (XW rfl) (by rfl) GR.all IR (qx
    (rN (own:=["sign"]) (rest:=[]) (ix:=[]) (Zt (by ext) (by ext) (by rfl) (by ext) (by ext)) rfl (XY (pv 0)) (λC s H fp pins=>fj (ki nX (pv 0) (zf (v:=.str yy) (by rfl) m2 ⟨t2,rfl⟩) rfl) (eN (ki nX (pv 0) (zf (v:=.str j8) (by rfl) m3 ⟨t3,rfl⟩) rfl))) (λC s H fp pins=>xU (i:=0) VL rfl oI (Or.inr (by rfl)))) qk)))),?_⟩
 left
 refine⟨_,rfl,rfl,_,rfl,?_⟩
 rcases hc with⟨hx,q⟩|⟨rfl|rfl,q⟩
 ·obtain⟨y1,y2,y3,y4⟩:=qoV x hx
  have kq:x.length<=sizeLine:=by rw[xt];lia
  obtain⟨c,hc,iI⟩:∃c,x.cps.toList[0]? =some c/\decide (c∈yy.cps.toList)=true:=by
   cases hh:x.cps.toList with
   |nil=>rw[hh]at y3;cases y3
   |cons a r=>rw[hh]at y3;exact⟨a,rfl,by simpa using y3⟩
  refine z0 y1 ⟨_,rfl,_,rfl,kq,_,_,rfl,rfl,_,rfl,z0 (xn (by lia)) ?_⟩
  refine⟨_,rfl,_,_,c,rfl,rfl,kq,qY (j:=0) hc,_,_,rfl,rfl,_,rfl,?_⟩
  rw[iI]
  refine qA ⟨_,rfl,x,rfl,hx,_,rfl,qA ?_⟩
  refine⟨_,rfl,x,rfl,λD hD=>VG (te:=NI (vM QN (zO 0) (tC (.str yy))) (vM QN (zO 0) (tC (.str j8)))) (ix:=[]) (σ:=[some (.str x)]) (z:=x) (f:=λc=>.bl (decide (c∈yy.cps.toList)||decide (c∈j8.cps.toList))) kq (λc H' Q' _ q'=>?_) hD ?_⟩
  ·refine⟨_,rfl,_,_,rfl,rfl,_,rfl,zB (λh=>?_) (λh=>⟨_,rfl,_,_,rfl,rfl,?_⟩)⟩
   ·rw[h]at q';exact q'
   ·rw[cw.mpr h]at q';exact q'
  ·refine⟨D,x.cps.toList.map λc=>decide (c∈yy.cps.toList)||decide (c∈j8.cps.toList),rfl,qp.of ?_,?_⟩
   ·rw[qu,Jn];rfl
   ·rw[qqu]
    have :(x.cps.toList.all (id∘λc=>decide (c∈yy.cps.toList)||decide (c∈j8.cps.toList)))=true:=y4
    rw[this]
    exact q _ (qv.put hD)
 ·exact jG (by ext) (zY q)
 ·refine z0 (by ext) ⟨_,rfl,_,rfl,(by ext),_,_,rfl,rfl,_,rfl,z0 (by ext) ?_⟩
  refine⟨_,rfl,_,_,41,rfl,rfl,(by ext),(by ext),_,_,rfl,rfl,_,rfl,?_⟩
  exact jG (by ext) (zY q)
inductive RK(vs:List V)(H:Hp)(Q:VK):Prop
 |mk (t:Str) (r:Bool) (qQ:vs=[.str t]) (qZ:ZQ t r=true) (qV:∀H',qv H H'->Q (.bl r) H'):RK vs H Q
noncomputable def VD:Sp:=λvs H Q zh=>RK vs H Q
theorem RV:qO ["run","figures"] ["run"] (qK sD):=by symm
theorem qoC(F:qJ K "is_number" "is_number" sD .none f fd)(GR:cS K mg):∅ 1 f fd ["run"] VD:=by
 refine F.qB RV (by grind) ?_
 omega
 obtain⟨t,r,rfl,hb,q⟩:=h
 obtain⟨t1,m1⟩:=GR.qoJ
 obtain⟨t2,m2⟩:=GR.j8
 obtain⟨t3,m3⟩:=GR.least
 obtain⟨t4,m4⟩:=GR.most
 simp only[ZQ,o3,Y',XB]at hb
 obtain⟨⟨⟨l1,l2⟩,jS⟩,hv⟩:=hb
 obtain⟨tl,sX,uX⟩:∃tl,xm (jc (zJ P w) P w K mg base ["run","figures"] "is_number" (qK sD) f zy A outer s H E).yd ((uE sD).drop 1) tl/\∀fg:Str,fg=bW t->tl {nx:=λ_ H'=>Q .qd H',rt:=Q} [some (.str t),some (.str fg)] H:=by
  refine⟨_,qc (qP (PW.pt (yb (qM jb (pv 1) qh (qR _)) (iS (qM yf (jZ i7 (by rfl) GR.len xV (qx (pv 1) qk)) (zf (v:=.int 19) (by rfl) m1 ⟨t1,rfl⟩) (qR _))))) (qg (qW lV)) zq)
   (qc (qP (fq (ku (jZ (XW rfl) (by rfl) GR.all IR (qx
     (rN (own:=["sign"]) (rest:=[]) (ix:=[]) (Zt (by ext) (by ext) (by rfl) (by ext) (by ext)) rfl (XY (pv 1)) (λC s H fp pins=>ki nX (pv 0) (zf (v:=.str j8) (by rfl) m2 ⟨t2,rfl⟩) rfl) (λC s H fp pins=>xU (i:=0) VL rfl oI (Or.inr (by rfl)))) qk)))) (qg (qW lV)) zq)
   (qg (qW (qxj JD JD (zf (v:=.int (-9223372036854775808)) (by rfl) m3 ⟨t3,rfl⟩) (wD VM (by rfl) GR.int L9 (qx (pv 0) qk)) (zf (v:=.int 9223372036854775807) (by rfl) m4 ⟨t4,rfl⟩))))),?_⟩
  left
  intro fg hfg
  rw[<-hfg]at l2 jS
  have kq:fg.length<=sizeLine:=by rw[xt];lia
  refine⟨_,rfl,rfl,_,rfl,zB (λy1=>?_) (λy1=>?_)⟩
  ·have :r=false:=by rw[<-jS];show(!decide (V.str fg=V.str "")&&_)=false;rw[y1];rfl
   subst this;exact zY (q H (qv.refl H))
  refine⟨_,rfl,_,rfl,kq,_,_,rfl,rfl,_,rfl,z0 (xn (by lia)) ?_⟩
  refine⟨_,rfl,fg,rfl,λD hD=>VG (te:=vM QN (zO 0) (tC (.str j8))) (ix:=[]) (σ:=[some (.str t),some (.str fg)]) (z:=fg) (f:=λc=>.bl (decide (c∈j8.cps.toList))) kq (λc H' Q' _ q'=>⟨_,rfl,_,_,rfl,rfl,q'⟩) hD ?_⟩
  have ga:=qv.put (o:=.lst (fg.cps.toList.map λc=>.bl (decide (c∈j8.cps.toList)))) hD
  refine⟨D,fg.cps.toList.map λc=>decide (c∈j8.cps.toList),rfl,qp.of (by rw[qu,Jn];rfl),_,rfl,?_⟩
  have ea:((fg.cps.toList.map λc=>decide (c∈j8.cps.toList)).all id)=wO fg:=by rw[qqu];rfl
  rw[ea]
  have bY:wO fg=r:=by rw[<-jS];show _=(!decide (V.str fg=V.str "")&&_);rw[cw.mpr y1];rfl
  rw[bY]
  cases r with
  |false=>exact zY (q _ ga)
  |true=>
   cases hn:PySem.intText? t with
   |none=>rw[hn]at hv;cases hv
   |some n=>
    rw[hn]at hv
    simp only[Bool.not_true,qzc,o3]at hv
    refine qA ⟨_,rfl,t,n,rfl,hn,by lia,_,_,rfl,rfl,_,rfl,jG hv.1 ⟨_,_,rfl,rfl,?_⟩⟩
    show Q (.bl (decide (n<=(9223372036854775807:Int)))) _
    rw[hv.2]
    exact q _ ga
 refine⟨_,qc (qC (i:=1) RV.nd rfl oI (lU (ku (jA PySem.F.plainAttrs_str PySem.F.slot_str_startswith PySem.F.type_str_startswith qkE (pv 0) (qx qh qk))) (nu Dn (pv 0) (lP qe) pe) (pv 0))) sX,?_⟩
 left
 refine⟨_,rfl,rfl,t,"-",rfl,rfl,_,rfl,zB (λsw=>?_) (λsw=>?_)⟩
 ·exact⟨_,rfl,_,rfl,t,rfl,by rw[xt];lia,uX _ (by unfold bW;rw[vb sw])⟩
 ·exact⟨_,rfl,uX _ (by unfold bW;rw[ke sw])⟩
end
noncomputable abbrev VF:cc:=top 135
noncomputable abbrev ZJ:cc:=top 134
noncomputable abbrev ZX:cc:=top 133
noncomputable abbrev sH:cc:=top 132
noncomputable abbrev VH:cc:=top 131
inductive Rs(α:Type)|ok (x:α) (b:Nat)|bad (k:Nat)
noncomputable def Rs.pre (as:List Dt):Rs (List Dt)->Rs (List Dt)
 | .ok cs b=>.ok (as++cs) b
 | .bad k=>.bad k
noncomputable def slot (z:Str) (f:Nat->Option (Rs Dt)) (s:Str) (b:Nat):Option (Rs Dt):=
 if s="name" then(if z5 z b∈oX then some (.ok (.str (z5 z b)) (z9 z b))else none)else if s="kind" then(bZ z 8 b).map λr=>.ok r.1 r.2 else f b
noncomputable def sP (z:Str) (f:Nat->Option (Rs Dt)):List Str->Nat->Option (Rs (List Dt))
 |[],b=>some (.ok [] b)
 |s::ss,b=>(slot z f s b).bind λr=>match r with
  | .bad k=>some (.bad k)
  | .ok d b1=>(sP z f ss b1).map (Rs.pre [d])
noncomputable def VP (z w:Str):Rs (List Dt)->Option (Rs Dt)
 | .bad k=>some (.bad k)
 | .ok ds b2=>if z5 z b2=")" then some (.ok (.tup (.str w::ds)) (z9 z b2))else none
noncomputable def gM (z:Str):Nat->Nat->Option (Rs Dt)
 |0,_=>none
 |n+1,b=>if z5 z b="(" then(SL.lookup (z5 z (z9 z b))).bind λss=>(sP z (gM z n) ss (z9 z (z9 z b))).bind (VP z (z5 z (z9 z b)))
  else if z5 z b="true" then some (.ok (.tup [.str "truth",.bl true]) (z9 z b))
  else match nums.lookup (z5 z b)with
  |some m=>some (.ok (.tup [.str "num",.int m]) (z9 z b))
  |none=>if z5 z b∈oX then some (.ok (.tup [.str "name",.str (z5 z b)]) (z9 z b))else if z5 z b=""\/z5 z b=")" then some (.bad (pStart z b))else none
noncomputable def iG (z:Str):Option (Except Nat Dt):=(gM z 8 0).map λr=>match r with
 | .bad k=>.error k
 | .ok d b=>if z5 z b="" then .ok d else .error (pStart z b)
section
variable {base:ll} {BT fT:jp} {wk:ol} {bt:List zt}
structure EB(P:cv)(w:fe)(K:Fg)(mg:Str->Option zt)(base:ll)(BT:jp)(bt:List zt):Prop where
 x:XC K BT bt
 m:mg "BadText"=some (.ref BT)
 g:∃fN ua,∅ 1 fN ua ["self","text","at"] (rH BT "at")/\PySem.W.findIn K (.ref BT) "__init__"=some (some (.ref fN))/\PySem.W.typeIn K (.ref fN)=some (.type "function")/\Binds K ua ["self","text","at"] []
noncomputable def Rb (BT:jp) (k:Nat) (H:Hp) (E:XK):Prop:=∀e t d H',qv H H'->H' e=some (ze false BT t (some d) e)->H' d=some (.xd [("at",.int (k:Nat))])->E (.ref BT) (some e) H'
noncomputable def gF (BT p:jp) (k:Nat) (H:Hp) (E:XK):Prop:=∀e t d H',qS p H H'->H' e=some (ze false BT t (some d) e)->H' d=some (.xd [("at",.int (k:Nat))])->E (.ref BT) (some e) H'
theorem Rb.b{p:jp}{k:Nat}{E:XK}(h:gF BT p k H E)(g:qS p H H1):Rb BT k H1 E:=λe t d H' g' he hd=>h e t d H' (g.grow g') he hd
theorem gF.b{p:jp}{k:Nat}{E:XK}(h:gF BT p k H E)(g:qS p H H1):gF BT p k H1 E:=λe t d H' g' he hd=>h e t d H' (g.trans g') he hd
theorem RW{k:Nat}{p:jp}{b:Int}{E:XK}{s:Str}(T:Pk K C fI fT)(hp:H p=some (.ins C dx (zC z (k:Nat) b)))(h0:σ[i]? =some (some (.ref p)))(n0:∀b,H b=none->H0 b=none)(r:Rb BT k H E):
  XJ H0 E BT (Dy BT (rH BT "at") [] (λ_ _ _=>False) (jQ (tC (.str s)) (jQ (oS K (zO i) "place") xx))) {nx:=λ_ _=>False,rt:=λ_ _=>False} σ H:=by
 refine⟨_,h0,p,C,dx,_,_,rfl,hp,T.cl,T.n2,VZ _ _ _,jk,λa b ha hb uv=>⟨b,a,_,_,rfl,qu,λa' d H' he ht hd hk hn=>⟨rfl,b,a',some d,rfl,he,n0 _ hb,?_⟩⟩⟩
 refine r b a' d _ ⟨λc o hc=>?_,λc hc=>?_⟩ qu ?_
 ·have gb:c≠b:=zM hc hb
  rw[qm gb]
  refine hk c o ?_ gb
  rw[qm gb,qm (zM hc ha)]
  exact hc
 ·by_cases z:c=b
  ·subst z;exact hb
  ·rw[qm z]at hc
   have :=hn c hc
   rw[qm z]at this
   by_cases z2:c=a
   ·subst z2;exact ha
   ·rw[qm z2]at this;exact this
 ·have jw:d≠b:=λzz=>by subst zz;rw[he]at hd;injection hd with hd;cases hd
  rw[qm jw];exact hd
noncomputable def gP (K:Fg) (C BT p:jp) (z:Str) (H:Hp) (Q:VK) (E:XK):Rs Dt->Prop
 | .ok d b=>∀v H',qS p H H'->qw K H' d v->jT C H' p z b->Q v H'
 | .bad k=>gF BT p k H E
theorem gP.b{p:jp}{z:Str}{H H1:Hp}{Q:VK}{E:XK}{r:Rs Dt}(h:gP K C BT p z H Q E r)(g:qS p H H1):gP K C BT p z H1 Q E r:=by
 cases r with
 |ok d b=>exact λv H' g'=>h v H' (g.trans g')
 |bad k=>exact gF.b h g
inductive qoG(C:jp)(vs:List V)(H:Hp)(Q:VK):Prop
 |mk (p:jp) (z:Str) (b:Nat) (qQ:vs=[.ref p]) (qZ:z5 z b∈oX) (qV:jT C H p z b) (qG:∀H',qS p H H'->jT C H' p z (z9 z b)->Q (.str (z5 z b)) H')
noncomputable def VR (C:jp):Sp:=λvs H Q zh=>qoG C vs H Q
theorem RY:qO ["pieces","piece"] ["pieces"] (qK VF):=by symm
theorem qoM(F:qJ K "read_name" "read_name" VF .none f fd)(T:Tk P w K mg base C fI fT wk)(GN:⋯ 2 "is_name" ["run"] ZZ):∅ 3 f fd ["pieces"] (VR C):=by
 refine F.qB RY (by grind) ?_
 omega
 obtain⟨p,z,b,rfl,hx,hz,q⟩:=h
 refine⟨_,qc (qC (i:=1) RY.nd rfl oI (we (pv 0) T.T.cl T.T.mt T.GT hr T.bT .nil z8))
  (qc (qP (fq (ku (zw GN hr (qx (pv 1) qk)))) wg zq)
  (qg (qW (pv 1)))),?_⟩
 left
 obtain⟨dx,a,e,h1,h2,h3,g1,z1⟩:=gC hz
 refine⟨_,rfl,p,dx,_,rfl,e,h3,p,dx,z,a,b,rfl,e,h1,h2,?_⟩
 right
 change vC _ _ _ [some (.ref p),some (.str (z5 z b))] (upd H p (.ins C dx (zC z (pStart z b:Nat) (z9 z b:Nat))))
 generalize upd H p (.ins C dx (zC z (pStart z b:Nat) (z9 z b:Nat)))=H1 at g1 z1⊢
 exact⟨_,rfl,_,rfl,.inl ⟨hx,λH2 g2=>⟨_,rfl,qA ⟨_,rfl,q H2 (g1.grow g2) (z1.mono g2)⟩⟩⟩⟩
inductive qoN(K:Fg)(C:jp)(BT:jp)(n:Nat)(vs:List V)(H:Hp)(Q:VK)(E:XK):Prop
 |mk (p:jp) (dp:Nat) (z:Str) (b:Nat) (r:Rs Dt) (qQ:vs=[.ref p,.int dp]) (qZ:jT C H p z b) (qV:gM z n b=some r) (qG:dp+n<=30) (zm:gP K C BT p z H Q E r)
noncomputable def sR (K:Fg) (C BT:jp) (n:Nat):Sp:=λvs H Q E=>qoN K C BT n vs H Q E
inductive qoB(K:Fg)(C:jp)(BT:jp)(n:Nat)(vs:List V)(H:Hp)(Q:VK)(E:XK):Prop
 |mk (p:jp) (s:Str) (dp:Nat) (z:Str) (b:Nat) (r:Rs Dt) (qQ:vs=[.ref p,.str s,.int dp]) (qZ:jT C H p z b) (qV:slot z (gM z n) s b=some r) (qG:dp+n<=30) (zm:gP K C BT p z H Q E r)
noncomputable def RU (K:Fg) (C BT:jp) (n:Nat):Sp:=λvs H Q E=>qoB K C BT n vs H Q E
theorem qoD:qO ["pieces","slot","depth"] ["pieces","slot","depth"] (qK ZJ):=by symm
theorem qoF(hj:19<=j)(F:qJ K "read_slot" "read_slot" ZJ .none f fd)(GN:⋯ 3 "read_name" ["pieces"] (VR C))(GK:⋯ 19 "read_kind" ["pieces","depth"] (bJ K C 8))(GP:⋯ j "read_part" ["pieces","depth"] (sR K C BT n)):∅ (j+1) f fd ["pieces","slot","depth"] (RU K C BT n):=by
 refine F.jI qoD (by grind) ?_
 omega
 obtain⟨p,s,dp,z,b,r,rfl,hz,hs,gZ,q⟩:=h
 have h3:=hr.mono (show 3<=j by lia)
 have h19:=hr.mono (show 19<=j by lia)
 refine⟨_,qc (qP (qM jb (pv 1) qh (qR _)) (qg (qW (zw GN h3 (qx (pv 0) qk)))) zq)
  (qc (qP (qM jb (pv 1) qh (qR _)) (qg (qW (zw GK h19 (qx (pv 0) (qx qe qk))))) zq)
  (qg (qW (jB GP hr (qx (pv 0) (qx (pv 2) qk)))))),?_⟩
 left
 unfold slot at hs
 refine⟨_,rfl,rfl,_,rfl,?_⟩
 split at hs
 ·next e=>
  subst e
  refine jG (by ext) ?_
  split at hs
  ·next hx=>cases hs;exact⟨_,rfl,p,z,b,rfl,hx,hz,λH1 g1 z1=>q _ H1 g1 (uf _) z1⟩
  ·cases hs
 ·next e1=>
  refine z0 (xn λz=>e1 (V.str.inj z)) ⟨_,rfl,rfl,_,rfl,?_⟩
  split at hs
  ·next e=>
   subst e
   refine jG (by ext) ?_
   obtain⟨⟨d,b'⟩,hd,he⟩:=ve.mp hs
   cases he
   exact⟨_,rfl,p,0,z,b,d,b',rfl,hz,hd,by lia,q⟩
  ·next e2=>
   refine z0 (xn λz=>e2 (V.str.inj z)) ?_
   exact⟨_,rfl,_,rfl,p,dp,z,b,r,rfl,hz,hs,gZ,q⟩
inductive qoP(K:Fg)(C:jp)(BT:jp)(n:Nat)(vs:List V)(H:Hp)(Q:VK)(E:XK):Prop
 |mk (p:jp) (dp:Nat) (z:Str) (b:Nat) (ss:List Str) (r:Rs (List Dt)) (r':Rs Dt) (qQ:vs=[.ref p,.int dp]) (qZ:jT C H p z b) (qV:SL.lookup (z5 z b)=some ss) (qG:sP z (gM z n) ss (z9 z b)=some r) (zm:VP z (z5 z b) r=some r') (je:dp+n<=30) (kc:gP K C BT p z H Q E r')
noncomputable def RO (K:Fg) (C BT:jp) (n:Nat):Sp:=λvs H Q E=>qoP K C BT n vs H Q E
theorem qoR{ss:List Str}(h:SL.lookup x=some ss):ss.length<=5:=by
 have :∀q∈SL,q.2.length<=5:=by ext
 have hm:∀(l:List (Str×List Str)),l.lookup x=some ss->(x,ss)∈l:=λl=>by
  induction l with
  |nil=>intro h;cases h
  |cons q l ih=>
   obtain⟨a,c⟩:=q
   intro h
   by_cases z:x=a
   ·subst z;rw[kx,y8]at h;cases h;exact xK
   ·rw[kx,kS.mpr z]at h;exact jF _ (ih h)
 exact this _ (hm _ h)
theorem ZK:qO ["pieces","depth","word","found","slot"] ["pieces","depth"] (qK ZX):=by symm
theorem qoS(hj:3<=j)(F:qJ K "read_part_brackets" "read_part_brackets" ZX .none f fd)(T:Tk P w K mg base C fI fT wk)(G:Ze K mg)(GD:cS K mg)(zT:mg "tuple"=none)(GC:⋯ 3 "close_brackets" ["pieces"] (sG C))(GS:⋯ j "read_slot" ["pieces","slot","depth"] (RU K C BT n)):∅ (j+1) f fd ["pieces","depth"] (RO K C BT n):=by
 refine F.jI ZK (by grind) ?_
 omega
 obtain⟨p,dp,z,b,ss,r,r',rfl,hz,hk,hm,he,RI,q⟩:=h
 obtain⟨tk,D,mT,oJ,_,yT⟩:=G.tab
 obtain⟨t30,m30⟩:=GD.qoX
 have yw:=hr.mono (show 2<=j by lia)
 have VW:=hr.mono (show 3<=j by lia)
 refine⟨_,qc (qC (i:=2) ZK.nd rfl oI (we (pv 0) T.T.cl T.T.mt T.GT yw T.bT .nil z8))
  (qc (qP (PW.pt (yb (qM yf (pv 1) (zf (v:=.int 30) (by rfl) m30 ⟨t30,rfl⟩) (qR _)) (iS (qM Dp (pv 2) (zf (v:=.ref tk) (by rfl) mT rfl) rfl)))) wg zq)
  (qc (qC (i:=3) ZK.nd rfl oI (zQ (qx (pv 2) qk)))
  (qc (nj PassesOwn.leaving rfl (JC (qU ux (zf (v:=.ref tk) (by rfl) mT rfl) (pv 2))) (xU (i:=4) ZK.nd rfl oI)
    (qg (zG (jA jV vp vt vj (pv 3) (qx (jB GS hr (qx (pv 0) (qx (pv 4) (qx (pv 1) qk)))) qk)))))
  (qc (zG (zw GC VW (qx (pv 0) qk)))
  (qg (qW (wD Ql (by rfl) zT lL (qx (pv 3) qk)))))))),?_⟩
 left
 obtain⟨dx,a,e,h1,h2,h3,g1,z1⟩:=gC hz
 refine⟨_,rfl,p,dx,_,rfl,e,h3,p,dx,z,a,b,rfl,e,h1,h2,?_⟩
 right
 have iW:∃o,(upd H p (.ins C dx (zC z (pStart z b:Nat) (z9 z b:Nat)))) p=some o:=⟨_,qu⟩
 change vC _ _ _ [some (.ref p),some (.int dp),some (.str (z5 z b)),none,none] (upd H p (.ins C dx (zC z (pStart z b:Nat) (z9 z b:Nat))))
 generalize upd H p (.ins C dx (zC z (pStart z b:Nat) (z9 z b:Nat)))=H1 at g1 z1 iW⊢
 generalize z9 z b=b1 at hm z1
 generalize z5 z b=wd at hk he⊢
 obtain⟨y1,tp,y2,sT⟩:=yT _ _ hk
 refine⟨_,rfl,_,_,rfl,rfl,_,rfl,z0 (xn (by lia)) ?_⟩
 refine⟨_,rfl,_,_,_,rfl,rfl,oJ,_,rfl,?_⟩
 rw[y1]
 refine qA ?_
 refine⟨_,rfl,xJ,λl hl=>?_⟩
 obtain⟨op,fY⟩:=iW
 have VY:l≠p:=λzz=>by rw[zz,fY]at hl;cases hl
 have VU:H l=none:=g1.none _ hl
 have g2:=qv.put (o:=.lst [.str wd]) hl
 have e2:=@qu H1 l (.lst [.str wd])
 have z2:=z1.mono g2
 right
 generalize upd H1 l (.lst [.str wd])=H2 at g2 e2 z2⊢
 have h5:=qoR hk
 refine⟨_,rfl,_,_,_,_,rfl,rfl,oJ,y2,tp,rfl,⟨_,sT _⟩,?_⟩
 refine qj0 (K:=K) (a:=tp) (xs:=ss.map V.str) (λi σ H3=>∃(o4:Option V)(vs:List V)(as:List Dt)(b2:Nat)(r2:Rs (List Dt)),σ=[some (.ref p),some (.int dp),some (.str wd),some (.ref l),o4]/\qS p H H3/\H3 l=some (.lst (.str wd::vs))/\vs.length=i/\qf K H3 as vs/\jT C H3 p z b2/\sP z (gM z n) (ss.drop i) b2=some r2/\r=r2.pre as) ?_ ?_ ?_ ?_
 ·exact⟨_,[],[],b1,r,rfl,g1.grow g2,e2,rfl,zp,z2,hm,by cases r<;>rfl⟩
 ·exact λi σ H3 _ _=>sT _
 ·rintro i x σ H3 hx ⟨o4,vs,as,b2,r2,rfl,g3,el,gR,xw,vX,v9,yO⟩
  have hi:i<ss.length:=by
   have :=(km.mp hx).1
   rw[za]at this
   exact this
  have hit:ss[i]? =some (ss[i]'hi):=jm hi
  rw[IH hi]at v9
  generalize ss[i]'hi=it at hit v9
  have gJ:x= .str it:=by
   rw[xH,hit]at hx
   exact(xb hx).symm
  subst gJ
  rw[sP]at v9
  obtain⟨r3,sy,v9⟩:=jU.mp v9
  right
  refine⟨_,rfl,.inl ⟨rfl,_,qp.of el⟩,_,rfl,_,rfl,_,rfl,p,it,dp,z,b2,r3,rfl,vX,sy,RI,?_⟩
  cases r3 with
  |bad k=>
   cases v9
   subst yO
   cases he
   exact gF.b q g3
  |ok d b3=>
   obtain⟨r4,hr4,v9⟩:=ve.mp v9
   intro v H4 g4 hv gG
   have wj:=vX.lists g4 el
   have kt:=vX.jv (K:=K) g4
   refine⟨l,_,_,rfl,rfl,wj,by rw[zH,gR,xt];lia,?_⟩
   have cR:jt K H4 (upd H4 l (.lst ((.str wd::vs)++[v]))):=qS.jv ((qS.refl l H4).set wj) wj
   refine⟨_,vs++[v],as++[d],b3,r4,rfl,(g3.trans g4).Rm VU,qu,by rw[va,gR];rfl,((xw.zb kt).zb cR).append (zx (hv.zb cR) zp),gG.new VY,hr4,?_⟩
   rw[yO,<-v9]
   cases r4 with
   |ok cs b5=>show Rs.ok (as++([d]++cs)) b5=Rs.ok (as++[d]++cs) b5;rw[NA]
   |bad k=>rfl
 ·rintro σ H3 ⟨o4,vs,as,b2,r2,rfl,g3,el,gR,xw,vX,v9,yO⟩
  rw[za,List.drop_length]at v9
  cases v9
  have RC:r= .ok (as++[]) b2:=yO
  rw[lr]at RC
  subst RC
  unfold VP at he
  dsimp only at he
  split at he
  ·next iI=>
   cases he
   refine⟨_,rfl,p,z,b2,rfl,vX,iI,λH4 g4 gG=>?_⟩
   have wj:=vX.lists g4 el
   have kt:=vX.jv (K:=K) g4
   refine⟨_,rfl,l,_,rfl,.inl ⟨qp.of wj,λt ht=>?_⟩⟩
   have g5:=qv.put (o:=.tup (.str wd::vs)) ht
   exact q _ _ ((g3.trans g4).grow g5) (cV (qb.of qu) (zx (uf _) ((xw.zb kt).mono g5.same))) (gG.mono g5)
  ·cases he
end
theorem qo0:∀q∈nums,decide (V.str q.1=V.str "(")=false/\y0 q.1 xO=false/\ZQ q.1 true=true/\PySem.intText? q.1=some q.2/\q.1.length<=640:=by ext
theorem qo1:∀x∈oX++(["",")"]:List Str),decide (V.str x=V.str "(")=false/\y0 x xO=false/\ZQ x false=true:=by ext
theorem int_at(n:Int):qw K H (.int n) (.int n):=by rw[qw]
theorem qo2(n:Bool):qw K H (.bl n) (.bl n):=by rw[qw]
theorem lookup_mem{α:Type}{x:Str}{v:α}:∀{l:List (Str×α)},l.lookup x=some v->(x,v)∈l
 |[],h=>by cases h
 |(a,c)::l,h=>by
  by_cases z:x=a
  ·subst z;rw[kx,y8]at h;cases h;exact xK
  ·rw[kx,kS.mpr z]at h;exact jF _ (lookup_mem h)
section
variable {base:ll} {BT fT:jp} {wk RL:ol} {bt:List zt}
theorem VS:qO ["pieces","depth","piece"] ["pieces","depth"] (qK sH):=by symm
theorem qo3(F:qJ K "read_part" "read_part" sH .none f fd):∅ (3*0+24) f fd ["pieces","depth"] (sR K C BT 0):=by
 refine F.qB (k:=23) VS (λvs H Q E h=>?_) (λzy A outer s H vs Q E hr h=>?_)
 ·obtain⟨p,dp,z,b,r,rfl,_⟩:=h
  rfl
 ·obtain⟨p,dp,z,b,r,rfl,_,hd,_⟩:=h
  cases hd
theorem qo4(F:qJ K "read_part" "read_part" sH .none f fd)(T:Tk P w K mg base C fI fT wk)(GR:cS K mg)(U:EB P w K mg base BT bt)(GB:⋯ (3*n+26) "read_part_brackets" ["pieces","depth"] (RO K C BT n))(GU:⋯ 1 "is_number" ["run"] VD)(GN:⋯ 2 "is_name" ["run"] ZZ):∅ (3*(n+1)+24) f fd ["pieces","depth"] (sR K C BT (n+1)):=by
 refine F.jI (k:=3*n+26) VS (λvs H Q E h=>?_) (λzy A outer s H vs Q E hr h=>?_)
 ·obtain⟨p,dp,z,b,r,rfl,_⟩:=h
  rfl
 ·obtain⟨p,dp,z,b,r,rfl,hz,hd,RI,q⟩:=h
  obtain⟨ta,mT,oJ⟩:=GR.RQ
  obtain⟨fN,ua,GX,hi,wM,bN⟩:=U.g
  have iM:=hr.mono (show 1<=3*n+26 by lia)
  have yw:=hr.mono (show 2<=3*n+26 by lia)
  refine⟨_,qc (qC (i:=2) VS.nd rfl oI (we (pv 0) T.T.cl T.T.mt T.GT yw T.bT .nil z8))
   (qc (qP (qM jb (pv 2) qh (qR _)) (qg (qW (jB GB hr (qx (pv 0) (qx (zV oR (pv 1) qe) qk))))) zq)
   (qc (qP (qM u6 (pv 2) (zf (v:=.ref ta) (by rfl) mT rfl) rfl) (qg (qW (zR (qx qh (qx (qU ux (zf (v:=.ref ta) (by rfl) mT rfl) (pv 2)) qk))))) zq)
   (qc (qP (ku (zw GU iM (qx (pv 2) qk))) (qg (qW (zR (qx qh (qx (wD VM (by rfl) GR.int L9 (qx (pv 2) qk)) qk))))) zq)
   (qc (qP (ku (zw GN yw (qx (pv 2) qk))) (qg (qW (zR (qx qh (qx (pv 2) qk))))) zq)
   (qg (ir U.x (XZ U.x hi wM GX yw (by rfl) U.m bN .nil z8 (qx qh (qx (qT (pv 0) rfl) qk))))))))),?_⟩
  left
  obtain⟨dx,a,e,h1,h2,h3,g1,z1⟩:=gC hz
  refine⟨_,rfl,p,dx,_,rfl,e,h3,p,dx,z,a,b,rfl,e,h1,h2,?_⟩
  right
  have e1:=@qu H p (.ins C dx (zC z (pStart z b:Nat) (z9 z b:Nat)))
  change vC _ _ _ [some (.ref p),some (.int dp),some (.str (z5 z b))] (upd H p (.ins C dx (zC z (pStart z b:Nat) (z9 z b:Nat))))
  generalize upd H p (.ins C dx (zC z (pStart z b:Nat) (z9 z b:Nat)))=H1 at g1 z1 e1⊢
  rw[gM]at hd
  refine⟨_,rfl,rfl,_,rfl,?_⟩
  split at hd
  ·next hb=>
   obtain⟨ss,hk,hd⟩:=jU.mp hd
   obtain⟨r1,hm,he⟩:=jU.mp hd
   rw[hb]
   refine jG (by ext) ?_
   exact⟨_,rfl,_,rfl,_,_,rfl,rfl,p,dp+1,z,z9 z b,ss,r1,r,rfl,z1,hk,hm,he,by lia,gP.b q g1⟩
  split at hd
  ·next ht=>
   cases hd
   rw[ht]
   refine z0 (by ext) ⟨_,rfl,_,_,_,rfl,rfl,oJ,_,rfl,jG (by ext) ?_⟩
   refine⟨_,rfl,_,_,_,.bl true,rfl,rfl,oJ,(by ext),jk,λt' lE=>?_⟩
   have g3:=qv.put (o:=.tup [.str "truth",.bl true]) lE
   exact q _ _ (g1.grow g3) (yV (qb.of qu) (qo2 _)) (z1.mono g3)
  split at hd
  ·next m hm=>
   cases hd
   obtain⟨y1,y2,y3,y4,y5⟩:=qo0 _ (lookup_mem hm)
   refine z0 y1 ⟨_,rfl,_,_,_,rfl,rfl,oJ,_,rfl,z0 y2 ?_⟩
   refine⟨_,rfl,_,true,rfl,y3,λH2 g2=>⟨_,rfl,zY ?_⟩⟩
   refine⟨_,rfl,_,m,rfl,y4,y5,jk,λt' lE=>?_⟩
   have g3:=qv.put (o:=.tup [.str "num",.int m]) lE
   exact q _ _ ((g1.grow g2).grow g3) (yV (qb.of qu) (int_at _)) ((z1.mono g2).mono g3)
  ·have hm:z5 z b∈oX++(["",")"]:List Str):=by
    by_cases hx:z5 z b∈oX
    ·exact tj _ hx
    ·rw[ke hx]at hd
     split at hd
     ·next hx=>rcases hx with hx|hx<;>(rw[hx];exact kL _ (by simp))
     ·cases hd
   obtain⟨y1,y2,y3⟩:=qo1 _ hm
   refine z0 y1 ⟨_,rfl,_,_,_,rfl,rfl,oJ,_,rfl,z0 y2 ?_⟩
   refine⟨_,rfl,_,false,rfl,y3,λH2 g2=>⟨_,rfl,qA ?_⟩⟩
   split at hd
   ·next hx=>
    cases hd
    refine⟨_,rfl,_,rfl,.inl ⟨hx,λH3 g3=>⟨_,rfl,zY ?_⟩⟩⟩
    refine⟨_,rfl,jk,λt' lE=>?_⟩
    have g4:=qv.put (o:=.tup [.str "name",.str (z5 z b)]) lE
    exact q _ _ (((g1.grow g2).grow g3).grow g4) (yV (qb.of qu) (uf _)) (((z1.mono g2).mono g3).mono g4)
   ·split at hd
    ·next hx=>
     cases hd
     refine⟨_,rfl,_,rfl,.inr ⟨hx,_,rfl,qA ?_⟩⟩
     exact RW (i:=0) T.T (g2.same _ _ e1) rfl (λc hc=>g1.none _ (g2.none _ hc)) (Rb.b q (g1.grow g2))
    ·cases hd
def RdE(K:Fg)(BT:jp)(H:Hp)(Q:VK)(E:XK):Except Nat Dt->Prop
 | .ok d=>∀v H',qv H H'->qw K H' d v->Q v H'
 | .error k=>Rb BT k H E
inductive qo6(K:Fg)(BT:jp)(vs:List V)(H:Hp)(Q:VK)(E:XK):Prop
 |mk (z:Str) (r:Except Nat Dt) (qQ:vs=[.str z]) (qZ:z.length<=2000) (qV:iG z=some r) (qG:RdE K BT H Q E r)
def VT(K:Fg)(BT:jp):Sp:=λvs H Q E=>qo6 K BT vs H Q E
theorem VA:qO ["text","pieces","part"] ["text"] (qK VH):=by symm
theorem qo7(F:qJ K "read" "read" VH .none f fd)(T:Tk P w K mg base C fI fT wk)(U:EB P w K mg base BT bt)(zL:mg "len"=none)(mL:∃t,mg "LONGEST_TEXT"=some (.int 2000 t))(mgP:mg "Pieces"=some (.ref C))
  (GI:∅ 1 fI RL ["self","text"] (Rc C))(bI:Binds K RL ["self","text"] [])(GR:⋯ 48 "read_part" ["pieces","depth"] (sR K C BT 8)):∅ 49 f fd ["text"] (VT K BT):=by
 refine F.jI VA (by grind) ?_
 omega
 obtain⟨z,r,rfl,hz,jS,q⟩:=h
 obtain⟨t1,m1⟩:=mL
 obtain⟨fN,ua,GX,hi,wM,bN⟩:=U.g
 have h2:=hr.mono (show 2<=48 by decide)
 have kq:z.length<=sizeLine:=by rw[xt];lia
 refine⟨_,qc (qP (qM yf (jZ i7 (by rfl) zL xV (qx (pv 0) qk)) (zf (v:=.int 2000) (by rfl) m1 ⟨t1,rfl⟩) (qR _)) wg zq)
  (qc (qC (i:=1) VA.nd rfl oI (J' T.T.made GI h2 (by rfl) mgP bI .nil z8 (qx (pv 0) qk)))
  (qc (qC (i:=2) VA.nd rfl oI (jB GR hr (qx (pv 1) (qx qe qk))))
  (qc (qP (qM fX (we (pv 1) T.T.cl T.T.mt T.GT h2 T.bT .nil z8) qh (qR _)) (qg (ir U.x (XZ U.x hi wM GX h2 (by rfl) U.m bN .nil z8 (qx qh (qx (qT (pv 1) rfl) qk))))) zq)
  (qg (qW (pv 2)))))),?_⟩
 left
 refine⟨_,rfl,_,rfl,kq,_,_,rfl,rfl,_,rfl,z0 (xn (by lia)) ?_⟩
 refine⟨_,rfl,λx dx hx sS jP=>⟨x,dx,z,rfl,qu,rfl,?_⟩⟩
 rw[uL]
 right
 have g1:qv H (upd (upd H dx (.own x)) x (.ins C dx (zC z 0 0))):=(qv.put sS).trans (qv.put (by rw[qm (λzz=>jP zz.symm)];exact hx))
 have e1:(upd (upd H dx (.own x)) x (.ins C dx (zC z 0 0))) x=some (.ins C dx (zC z 0 ((0:Nat):Int))):=qu
 generalize upd (upd H dx (.own x)) x (.ins C dx (zC z 0 0))=H1 at g1 e1⊢
 have z1:jT C H1 x z 0:=⟨dx,0,e1,hz,io _⟩
 have gH:∀H3,qS x H1 H3->qv H H3:=λH3 g3=>qS.QS g1 g3 hx
 obtain⟨r1,iU,yO⟩:=ve.mp jS
 refine⟨_,rfl,x,0,z,0,r1,rfl,z1,iU,by decide,?_⟩
 cases r1 with
 |bad k=>subst yO;exact λe t d H' g' he hd=>q e t d H' (gH _ g') he hd
 |ok d b2=>
  intro v H2 g2 hv Zs
  right
  obtain⟨VE,a2,e2,l2,l3,n2,g3,z3⟩:=gC Zs
  refine⟨_,rfl,x,VE,_,rfl,e2,n2,x,VE,z,a2,b2,rfl,e2,l2,l3,?_⟩
  have kt:=Zs.jv (K:=K) g3
  have e3:=@qu H2 x (.ins C VE (zC z (pStart z b2:Nat) (z9 z b2:Nat)))
  refine⟨rfl,_,rfl,zB (λc=>?_) (λc=>?_)⟩
  ·have qo9:z5 z b2≠"":=λzz=>by
    have zz':sU z (pStart z b2) (pEnd z (pStart z b2))="":=zz
    rw[zz']at c;revert c;ext
   dsimp only at yO
   rw[ke qo9]at yO
   subst yO
   exact RW (i:=1) T.T e3 rfl (λc hc=>g1.none _ (g2.none _ (g3.none _ hc))) λe t d H' g' he hd=>q e t d H' (gH _ ((g2.trans g3).grow g')) he hd
  ·have heq:z5 z b2="":=by
    have :=cw.mpr c
    simp only[Bool.not_eq_false',Y']at this
    exact V.str.inj this
   dsimp only at yO
   rw[vb heq]at yO
   subst yO
   exact⟨_,rfl,q v _ (gH _ (g2.trans g3)) (hv.zb kt)⟩
end
end K27
namespace L2
open PySem PySem.Spec PyProof.Rows PyProof
theorem qij{k:Nat}(h:n<2^k)(hk:0<k):n.log2<k:=by
 by_cases z:n=0
 ·subst z;simpa using hk
 ·exact(Nat.log2_lt z).mpr h
end L2
namespace K27
open PySem L2 PyProof
abbrev V0:cc:=top 88
abbrev least:Int:= -9223372036854775808
inductive W7|plus|over
def W7.str:W7->Str
 | .plus=>"plus"| .over=>"over"
def ZV:W7->Bool
 | .over=>true|_=>false
section
variable {base:ll} {fB:jp} {V1:ol}
noncomputable def cQ (x:W7) (b:Int):Bool:=ZV x&&decide (b=0)
inductive RG(vs:List V)(H:Hp)(Q:VK):Prop
 |mk (x:W7) (b:Int) (qQ:vs=[.str x.str,.int b]) (qZ:∀H',qv H H'->Q (.bl (cQ x b)) H'):RG vs H Q
def RM:Sp:=λvs H Q zh=>RG vs H Q
theorem qix:qO ["word","other"] ["word","other"] (qK V0):=by symm
theorem qik(x:W7):kX (.str x.str) [.str "over",.str "rest"]=ZV x:=by cases x<;>ext
theorem qiv(F:qJ K "is_by_nought" "is_by_nought" V0 .none f fd):∅ 1 f fd ["word","other"] RM:=by
 refine F.qB qix (by grind) ?_
 omega
 obtain⟨x,b,rfl,q⟩:=h
 refine⟨_,qg (qW (NC (ki ni (pv 0) (zR (qx qh (qx qh qk))) rfl) (eN (ki jb (pv 1) qe (qR _))))),?_⟩
 left
 refine⟨_,rfl,jk,λt ht=>?_⟩
 have g:=qv.put (o:=.tup [.str "over",.str "rest"]) ht
 refine⟨t,_,rfl,.inr (qb.of qu),rfl,rfl,_,rfl,?_⟩
 have e:(if false=true then !kX (.str x.str) [.str "over",.str "rest"]else kX (.str x.str) [.str "over",.str "rest"])=ZV x:=qik x
 rw[e]
 have q':=q _ g
 unfold cQ at q'
 refine zB (λh=>?_) (λh=>?_)
 ·refine⟨_,rfl,rfl,?_⟩
  rw[h,Bool.true_and]at q'
  have e2:decide (V.int b=V.int 0)=decide (b=0):=by rw[mi];simp
  rw[e2]
  exact q'
 ·rw[cw.mpr h,Bool.false_and]at q'
  exact q'
end
end K27
namespace L2
open PySem
theorem z0{c:Bool}{A B:Prop}(e:c=false)(h:B):if c=true then A else B:=by rw[e];exact qA h
theorem jG{c:Bool}{A B:Prop}(e:c=true)(h:A):if c=true then A else B:=by rw[e];exact zY h
theorem oK{f:Str}{v:V}:∀{fs:List (Str×V)}{ks:List Str},f∉ks->fs.map (·.1)=ks->zP f v fs=fs++[(f,v)]
 |[],_,_,_=>rfl
 |(g,x)::r,_,h,rfl=>by
  have hg:¬g=f:=λz=>h (by simp[z])
  rw[xC hg,oK (fs:=r) (ks:=r.map (·.1)) (λz=>h (by simp only[wq,js];exact .inr z)) rfl]
  rfl
end L2
namespace K27
open PySem L2 PyProof Dt
abbrev V2:cc:=top 67
abbrev V3:cc:=top 68
abbrev V4:cc:=top 96
abbrev V5:cc:=top 97
abbrev V6:cc:=top 98
abbrev V7:cc:=top 99
abbrev V8:cc:=top 100
abbrev V9:cc:=top 101
abbrev Wq:cc:=top 102
abbrev Wz:cc:=top 105
abbrev Wj:cc:=top 106
abbrev Wx:cc:=top 107
abbrev Wk:cc:=top 108
abbrev Wv:cc:=top 109
abbrev Ww:cc:=top 110
abbrev Wy:cc:=top 111
abbrev Wu:cc:=top 112
abbrev Wo:cc:=top 113
abbrev Wi:cc:=top 114
abbrev Wc:cc:=top 115
abbrev Wl:cc:=top 116
abbrev Wm:cc:=top 117
abbrev Wn:cc:=top 73
abbrev Wb:cc:=top 74
abbrev Wd:cc:=top 75
abbrev Wh:cc:=top 76
abbrev Wr:cc:=inClass (top 66) 0
abbrev Ws:cc:=inClass (top 66) 1
abbrev Wt:cc:=inClass (top 66) 2
abbrev Wa:cc:=inClass (top 66) 4
abbrev We:cc:=inClass (top 66) 5
abbrev WQ:cc:=inClass (top 66) 6
abbrev WZ:cc:=inClass (top 95) 0
abbrev WJ:cc:=inClass (top 95) 1
abbrev WX:cc:=inClass (top 95) 4
abbrev WK:cc:=inClass (top 95) 5
structure Ad where
 C:jp
 CH:jp
 m:jp
 dx:jp
 hp:jp
 dh:jp
 l:jp
 pd:jp
 st:jp
 th:jp
def Ad.mv(d:Ad)(a b:jp):Ad:={d with st:=a,th:=b}
def z6(d:Ad)(m:Ms):List (Str×V):=[("code",.ref d.l),("heap",.ref d.hp),("stack",.ref d.st),("base",.int (m.base:Nat)),("place",.int (m.place:Nat)),("pending",.ref d.pd),("standing",.str m.st.str)]
def xB(d:Ad)(m:Ms):List (Str×V):=[("room",.int (m.room:Nat)),("things",.ref d.th),("made_so_far",.int (m.made:Nat))]
section
variable (d:Ad) (m:Ms)
theorem RN:(z6 d m).lookup ("code":Str)=some (.ref d.l):=yq _ _ _
theorem gS:(z6 d m).lookup ("heap":Str)=some (.ref d.hp):=by unfold z6;rw[jj (by ext),yq]
theorem yI:(z6 d m).lookup ("stack":Str)=some (.ref d.st):=by unfold z6;rw[jj (by ext),jj (by ext),yq]
theorem WV:(z6 d m).lookup ("base":Str)=some (.int (m.base:Nat)):=by unfold z6;rw[jj (by ext),jj (by ext),jj (by ext),yq]
theorem sA:(z6 d m).lookup ("place":Str)=some (.int (m.place:Nat)):=by unfold z6;rw[jj (by ext),jj (by ext),jj (by ext),jj (by ext),yq]
theorem WW:(z6 d m).lookup ("pending":Str)=some (.ref d.pd):=by unfold z6;rw[jj (by ext),jj (by ext),jj (by ext),jj (by ext),jj (by ext),yq]
theorem bO:(z6 d m).lookup ("standing":Str)=some (.str m.st.str):=by unfold z6;rw[jj (by ext),jj (by ext),jj (by ext),jj (by ext),jj (by ext),jj (by ext),yq]
theorem qpt{f:Str}(h:f∉(["code","heap","stack","base","place","pending","standing"]:List Str)):(z6 d m).lookup f=none:=by
 simp only[js,xa,ii,not_or]at h
 obtain⟨h1,h2,h3,h4,h5,h6,h7⟩:=h
 unfold z6;rw[jj h1,jj h2,jj h3,jj h4,jj h5,jj h6,jj h7];rfl
theorem qiw:(xB d m).lookup ("room":Str)=some (.int (m.room:Nat)):=yq _ _ _
theorem bC:(xB d m).lookup ("things":Str)=some (.ref d.th):=by unfold xB;rw[jj (by ext),yq]
theorem qiy:(xB d m).lookup ("made_so_far":Str)=some (.int (m.made:Nat)):=by unfold xB;rw[jj (by ext),jj (by ext),yq]
theorem oV{f:Str}(h:f∉(["room","things","made_so_far"]:List Str)):(xB d m).lookup f=none:=by
 simp only[js,xa,ii,not_or]at h
 obtain⟨h1,h2,h3⟩:=h
 unfold xB;rw[jj h1,jj h2,jj h3];rfl
theorem qiu(b:Nat):zP "base" (.int (b:Nat)) (z6 d m)=z6 d {m with base:=b}:=by unfold z6;rw[xC (by ext),xC (by ext),xC (by ext),nY]
theorem WY(p:Nat):zP "place" (.int (p:Nat)) (z6 d m)=z6 d {m with place:=p}:=by unfold z6;rw[xC (by ext),xC (by ext),xC (by ext),xC (by ext),nY]
theorem RB(x:Sd):zP "standing" (.str x.str) (z6 d m)=z6 d {m with st:=x}:=by unfold z6;rw[xC (by ext),xC (by ext),xC (by ext),xC (by ext),xC (by ext),xC (by ext),nY]
theorem qio(n:Nat):zP "made_so_far" (.int (n:Nat)) (xB d m)=xB d {m with made:=n}:=by unfold xB;rw[xC (by ext),xC (by ext),nY]
theorem bL:(z6 d m).length<1000:=by show 7<1000;decide
theorem qii:(xB d m).length<1000:=by show 3<1000;decide
end
structure MS(K:Fg)(H0:Hp)(d:Ad)(m:Ms)(H:Hp):Prop where
 g:qv H0 H
 nm:H0 d.m=none
 nh:H0 d.hp=none
 ns:H0 d.st=none
 np:H0 d.pd=none
 nt:H0 d.th=none
 mo:H d.m=some (.ins d.C d.dx (z6 d m))
 ho:H d.hp=some (.ins d.CH d.dh (xB d m))
 so:∃vs,H d.st=some (.lst vs)/\qf K H (m.qI.reverse.map AV.dt) vs
 po:∃vs,H d.pd=some (.lst vs)/\qf K H (m.pend.reverse.map Fe) vs
 lo:∃vs,H d.l=some (.lst vs)/\qf K H (m.code.map zX.dt) vs
 to:∃vs,H d.th=some (.lst vs)/\qf K H (m.things.map Th.dt) vs
 mh:d.m≠d.hp
 d1:d.l≠d.st
 d2:d.pd≠d.st
 d3:d.th≠d.st
 d4:d.l≠d.pd
 d5:d.th≠d.pd
 d6:d.l≠d.th
section
variable {d:Ad}
theorem gT{fs gs:List (Str×V)}(h:H a=some (.ins C dx fs)):jt K H (upd H a (.ins C dx gs)):=λb xs hb=>by
 rcases hb with(hb|⟨o,hb⟩)|hb
 ·exact .inl (.inl ((qm (j9 hb h (by intro z;cases z))).trans hb))
 ·exact .inl (.inr ⟨o,(qm (j9 hb h (by intro z;cases z))).trans hb⟩)
 ·exact .inr hb
theorem WU(x:jt K H H1)(y:jt K H1 H2):jt K H H2:=λa xs h=>y a xs (x a xs h)
theorem RD(g:qv H H'):jt K H H':=λa xs h=>qb.mono g.same h
theorem MS.grow(h:MS K H0 d m H)(g:qv H H'):MS K H0 d m H':=
 have f:∀{a:jp}{ds:List Dt},(∃vs,H a=some (.lst vs)/\qf K H ds vs)->∃vs,H' a=some (.lst vs)/\qf K H' ds vs:=λ⟨vs,e,q⟩=>⟨vs,g.same _ _ e,q.mono g.same⟩
 ⟨h.g.trans g,h.nm,h.nh,h.ns,h.np,h.nt,g.same _ _ h.mo,g.same _ _ h.ho,f h.so,f h.po,f h.lo,f h.to,h.mh,h.d1,h.d2,h.d3,h.d4,h.d5,h.d6⟩
theorem kj{b:jp}(kt:jt K H (upd H b o))(n:a≠b)(h:∃vs,H a=some (.lst vs)/\qf K H ds vs):∃vs,(upd H b o) a=some (.lst vs)/\qf K (upd H b o) ds vs:=
 let⟨vs,e,q⟩:=h;⟨vs,(qm n).trans e,qf.zb kt q⟩
theorem MS.cT(h:MS K H0 d m H){s:List AV}(hv:qf K H (s.reverse.map AV.dt) vs):MS K H0 d {m with qI:=s} (upd H d.st (.lst vs)):=by
 obtain⟨ws,e,_⟩:=h.so
 have kt:=vh (K:=K) (ys:=vs) e
 exact⟨h.g.set h.ns,h.nm,h.nh,h.ns,h.np,h.nt,(qm (j9 h.mo e (by intro z;cases z))).trans h.mo,(qm (j9 h.ho e (by intro z;cases z))).trans h.ho,⟨vs,qu,qf.zb kt hv⟩,
  kj kt h.d2 h.po,kj kt h.d1 h.lo,kj kt h.d3 h.to,h.mh,h.d1,h.d2,h.d3,h.d4,h.d5,h.d6⟩
theorem MS.qic(h:MS K H0 d m H){s:List (Nat×Nat)}(hv:qf K H (s.reverse.map Fe) vs):MS K H0 d {m with pend:=s} (upd H d.pd (.lst vs)):=by
 obtain⟨ws,e,_⟩:=h.po
 have kt:=vh (K:=K) (ys:=vs) e
 exact⟨h.g.set h.np,h.nm,h.nh,h.ns,h.np,h.nt,(qm (j9 h.mo e (by intro z;cases z))).trans h.mo,(qm (j9 h.ho e (by intro z;cases z))).trans h.ho,kj kt h.d2.symm h.so,⟨vs,qu,qf.zb kt hv⟩,
  kj kt h.d4 h.lo,kj kt h.d5 h.to,h.mh,h.d1,h.d2,h.d3,h.d4,h.d5,h.d6⟩
theorem MS.qil(h:MS K H0 d m H){s:List Th}(hv:qf K H (s.map Th.dt) vs):MS K H0 d {m with things:=s} (upd H d.th (.lst vs)):=by
 obtain⟨ws,e,_⟩:=h.to
 have kt:=vh (K:=K) (ys:=vs) e
 exact⟨h.g.set h.nt,h.nm,h.nh,h.ns,h.np,h.nt,(qm (j9 h.mo e (by intro z;cases z))).trans h.mo,(qm (j9 h.ho e (by intro z;cases z))).trans h.ho,kj kt h.d3.symm h.so,kj kt h.d5.symm h.po,
  kj kt h.d6 h.lo,⟨vs,qu,qf.zb kt hv⟩,h.mh,h.d1,h.d2,h.d3,h.d4,h.d5,h.d6⟩
theorem MS.setM(h:MS K H0 d m H)(b p:Nat)(x:Sd):MS K H0 d {m with base:=b,place:=p,st:=x} (upd H d.m (.ins d.C d.dx (z6 d {m with base:=b,place:=p,st:=x}))):=by
 have kt:=gT (K:=K) (gs:=z6 d {m with base:=b,place:=p,st:=x}) h.mo
 have nl:∀{a:jp}{ds:List Dt},(∃vs,H a=some (.lst vs)/\qf K H ds vs)->a≠d.m:=λ⟨vs,e,_⟩=>j9 e h.mo (by intro z;cases z)
 exact⟨h.g.set h.nm,h.nm,h.nh,h.ns,h.np,h.nt,qu,(qm h.mh.symm).trans h.ho,kj kt (nl h.so) h.so,kj kt (nl h.po) h.po,kj kt (nl h.lo) h.lo,kj kt (nl h.to) h.to,h.mh,h.d1,h.d2,h.d3,h.d4,h.d5,h.d6⟩
theorem MS.qig(h:MS K H0 d m H)(n:Nat):MS K H0 d {m with made:=n} (upd H d.hp (.ins d.CH d.dh (xB d {m with made:=n}))):=by
 have kt:=gT (K:=K) (gs:=xB d {m with made:=n}) h.ho
 have nl:∀{a:jp}{ds:List Dt},(∃vs,H a=some (.lst vs)/\qf K H ds vs)->a≠d.hp:=λ⟨vs,e,_⟩=>j9 e h.ho (by intro z;cases z)
 exact⟨h.g.set h.nh,h.nm,h.nh,h.ns,h.np,h.nt,(qm h.mh).trans h.mo,qu,kj kt (nl h.so) h.so,kj kt (nl h.po) h.po,kj kt (nl h.lo) h.lo,kj kt (nl h.to) h.to,h.mh,h.d1,h.d2,h.d3,h.d4,h.d5,h.d6⟩
theorem WO:∀{ds:List Dt}{us:List V}{e:Dt},qf K H (ds++[e]) us->∃ws x,us=ws++[x]/\qw K H e x/\qf K H ds ws
 |[],us,e,h=>by
  obtain⟨x,r,rfl,hx,hr⟩:=zA h
  cases kY hr
  exact⟨[],x,rfl,hx,zp⟩
 |d::ds,us,e,h=>by
  obtain⟨y,r,rfl,hy,hr⟩:=zA h
  obtain⟨ws,x,rfl,hx,hw⟩:=WO hr
  exact⟨y::ws,x,rfl,hx,zx hy hw⟩
theorem bG{v:AV}(h:qf K H ((v::r).reverse.map AV.dt) vs):∃ws x,vs=ws++[x]/\qw K H v.dt x/\qf K H (r.reverse.map AV.dt) ws:=by
 rw[mx,kG]at h
 exact WO h
theorem WI{v:AV}{x:V}(h:qf K H (r.reverse.map AV.dt) vs)(hx:qw K H v.dt x):qf K H ((v::r).reverse.map AV.dt) (vs++[x]):=by
 rw[mx,kG]
 exact qf.append h (zx hx zp)
theorem bB{s:List AV}(h:qf K H (s.reverse.map AV.dt) vs):vs.length=s.length:=by rw[h.length,za,ar]
end
structure Mc(K:Fg)(C:jp):Prop where
 cl:vJ K C
 n1:jO K C "code"
 n2:jO K C "heap"
 n3:jO K C "stack"
 n4:jO K C "base"
 n5:jO K C "place"
 n6:jO K C "pending"
 n7:jO K C "standing"
structure Hc(K:Fg)(C:jp):Prop where
 cl:vJ K C
 n1:jO K C "room"
 n2:jO K C "things"
 n3:jO K C "made_so_far"
section
variable {d:Ad} {R:VK}
theorem tu{f:Str}(M:Mc K d.C)(h:MS K H0 d m H)(h0:σ[0]? =some (some (.ref d.m)))(n:jO K d.C f)(l:(z6 d m).lookup f=some v)(q:R v H):oS K (zO 0) f σ H R:=
 ⟨_,h0,d.m,d.C,d.dx,_,v,rfl,h.mo,M.cl,n,l,q⟩
theorem ZW{v:AV}(M:Mc K d.C)(h:MS K H0 d m H)(h0:σ[0]? =some (some (.ref d.m)))(e:m.qI=v::r)(q:∀x H',qw K H' v.dt x->MS K H0 d {m with qI:=r} H'->R x H'):pX K "list" pY (oS K (zO 0) "stack") σ H R:=by
 obtain⟨vs,hs,hd⟩:=h.so
 rw[e]at hd
 obtain⟨ws,x,rfl,hx,hw⟩:=bG hd
 refine tu M h h0 M.n3 (yI _ _) ⟨.inl ⟨rfl,_,qp.of hs⟩,d.st,_,x,rfl,rfl,hs,by simp,?_⟩
 rw[de]
 exact q x _ (qw.zb (vh hs) hx) (h.cT hw)
theorem qim{v:AV}(M:Mc K d.C)(h:MS K H0 d m H)(h0:σ[0]? =some (some (.ref d.m)))(e:m.qI=v::r)(q:∀x H',jt K H H'->MS K H0 d {m with qI:=r} H'->R x H'):pX K "list" pY (oS K (zO 0) "stack") σ H R:=by
 obtain⟨vs,hs,hd⟩:=h.so
 rw[e]at hd
 obtain⟨ws,x,rfl,hx,hw⟩:=bG hd
 refine tu M h h0 M.n3 (yI _ _) ⟨.inl ⟨rfl,_,qp.of hs⟩,d.st,_,x,rfl,rfl,hs,by simp,?_⟩
 rw[de]
 exact q x _ (vh hs) (h.cT hw)
theorem RH{v:AV}{us:List V}(M:Mc K d.C)(h:MS K H0 d m H)(h0:σ[0]? =some (some (.ref d.m)))(e:m.qI=v::r)(ha:qb K H a us)(q:∀x H',qw K H' v.dt x->MS K H0 d {m with qI:=r} H'->qb K H' a us->R x H'):pX K "list" pY (oS K (zO 0) "stack") σ H R:=by
 obtain⟨vs,hs,hd⟩:=h.so
 rw[e]at hd
 obtain⟨ws,x,rfl,hx,hw⟩:=bG hd
 refine tu M h h0 M.n3 (yI _ _) ⟨.inl ⟨rfl,_,qp.of hs⟩,d.st,_,x,rfl,rfl,hs,by simp,?_⟩
 rw[de]
 exact q x _ (qw.zb (vh hs) hx) (h.cT hw) (vh hs a us ha)
theorem RP{v:AV}{u:AV}(M:Mc K d.C)(h:MS K H0 d m H)(h0:σ[0]? =some (some (.ref d.m)))(e:m.qI=v::r)(hy:qw K H u.dt y)(q:∀x H',qw K H' v.dt x->MS K H0 d {m with qI:=r} H'->qw K H' u.dt y->R x H'):pX K "list" pY (oS K (zO 0) "stack") σ H R:=by
 obtain⟨vs,hs,hd⟩:=h.so
 rw[e]at hd
 obtain⟨ws,x,rfl,hx,hw⟩:=bG hd
 refine tu M h h0 M.n3 (yI _ _) ⟨.inl ⟨rfl,_,qp.of hs⟩,d.st,_,x,rfl,rfl,hs,by simp,?_⟩
 rw[de]
 exact q x _ (qw.zb (vh hs) hx) (h.cT hw) (qw.zb (vh hs) hy)
theorem iN(M:Mc K d.C)(h:MS K H0 d m H)(h0:σ[0]? =some (some (.ref d.m)))(q:te σ H λy H1=>nc (.ref d.st) [y] H1 R):pK K "list" nc (oS K (zO 0) "stack") (jQ te xx) σ H R:=by
 obtain⟨vs,hs,_⟩:=h.so
 exact tu M h h0 M.n3 (yI _ _) ⟨.inl ⟨rfl,_,qp.of hs⟩,q⟩
theorem gA{v:AV}(h:MS K H0 d m H)(hy:qw K H v.dt y)(hl:m.qI.length<sizeLine)(q:∀H',MS K H0 d {m with qI:=v::m.qI} H'->R .qd H'):nc (.ref d.st) [y] H R:=by
 obtain⟨vs,hs,hd⟩:=h.so
 exact⟨d.st,vs,y,rfl,rfl,hs,by rw[bB hd];exact hl,q _ (h.cT (WI hd hy))⟩
theorem qin{v:AV}(h:MS K H0 d m H)(hy:qw K H v.dt y)(hl:m.qI.length<sizeLine)(q:∀H',jt K H H'->MS K H0 d {m with qI:=v::m.qI} H'->R .qd H'):nc (.ref d.st) [y] H R:=by
 obtain⟨vs,hs,hd⟩:=h.so
 exact⟨d.st,vs,y,rfl,rfl,hs,by rw[bB hd];exact hl,q _ (vh hs) (h.cT (WI hd hy))⟩
theorem mq{o:zX}{c:V}(h:qw K H o.dt c):∃a us,c= .ref a/\qb K H a (.str o.wd::us)/\qf K H o.args us:=by
 obtain⟨a,vs,rfl,ha,hv⟩:=cX h
 obtain⟨w,us,rfl,hw,hu⟩:=zA hv
 cases xW hw
 exact⟨a,us,rfl,ha,hu⟩
end
end K27
open PySem
def AV.ok:AV->Prop
 | .int n=>kh n
 |_=>True
namespace Ms
structure Wf(m:Ms):Prop where
 hs:m.qI.length<=yZ
 iv:∀v∈m.qI,v.ok
 it:∀t∈m.things,∀v∈t.held,v.ok
 bD:∀o∈m.code,o.ok
 cl:m.code.length<=1000000
 rm:m.room<=1000
 tr:m.things.length<=m.room
structure Wg(m:Ms):Prop where
 iv:∀v∈m.qI,v.ok
 it:∀t∈m.things,∀v∈t.held,v.ok
theorem RS{α β:Type}{f:α->Option β}:∀{l:List α}{r:List β},l.mapM f=some r->∀b∈r,∃a∈l,f a=some b
 |[],r,h,b,hb=>by
  have :r=[]:=by simpa using h.symm
  subst this;cases hb
 |a::l,r,h,b,hb=>by
  rw[qqA]at h
  obtain⟨x,hx,h⟩:=jU.mp h
  obtain⟨xs,vP,h⟩:=jU.mp h
  have :r=x::xs:=(xb h).symm
  subst this
  rcases js.mp hb with rfl|hb
  ·exact⟨a,xK,hx⟩
  ·obtain⟨a',h1,h2⟩:=RS vP b hb
   exact⟨a',jF _ h1,h2⟩
structure bP(m m':Ms):Prop where
 code:m'.code=m.code
 room:m'.room=m.room
theorem ZY(h:m.Wg)(e:m.ow=some m'):m'.Wg/\bP m m'/\m'.qI.length=m.qI.length/\m'.place=m.place:=by
 unfold ow at e
 split at e
 ·cases e
 ·cases e;exact⟨h,⟨rfl,rfl⟩,rfl,rfl⟩
theorem slot_mem{k:Nat}{v:AV}(e:m.slot k=some v):v∈m.qI:=by
 unfold slot at e
 split at e
 ·exact kM e
 ·cases e
theorem RT{s:oj}{h:List AV}(w:m.Wg)(hh:∀v∈h,v.ok):(m.add s h).Wg:=by
 refine⟨λv hv=>?_,λt ht v hv=>?_⟩
 ·rcases js.mp hv with rfl|hv
  ·trivial
  ·exact w.iv v hv
 ·rcases ip.mp ht with ht|ht
  ·exact w.it t ht v hv
  ·rw[xX.mp ht]at hv;exact hh v hv
theorem qib{l:List AV}{h:Nat}{v:AV}(e:v∈cut l h):v∈l:=List.mem_of_mem_drop e
theorem RA{k:Nat}{h:AV}(w:m.Wg)(hh:h.ok)(e:m.enter k h=some m'):m'.Wg/\bP m m':=by
 unfold enter at e
 split at e
 ·rename_i s pl rc kept ht
  split at e
  ·cases e
  cases e
  have hk:=w.it _ (kM ht)
  refine⟨⟨λv hv=>?_,w.it⟩,⟨rfl,rfl⟩⟩
  rcases js.mp hv with rfl|hv
  ·exact hh
  rcases ip.mp hv with hv|hv
  ·split at hv
   ·rw[xX.mp hv];trivial
   ·cases hv
  rcases ip.mp hv with hv|hv
  ·exact hk v (jF _ (jF _ (List.mem_reverse.mp hv)))
  ·exact w.iv v hv
 ·cases e
theorem Wg.qI{m:Ms}(w:m.Wg){s:List AV}(h:∀v∈s,v.ok):({m with qI:=s}:Ms).Wg:=⟨h,w.it⟩
theorem ue{v:AV}(h:v.ok)(hr:∀u∈r,u.ok):∀u∈v::r,u.ok:=λu hu=>by
 rcases js.mp hu with rfl|hu
 ·exact h
 ·exact hr u hu
theorem qid{o:zX}(w:m.Wg)(hp:m.place<=1000000)(ho:o.ok)(e:m.exec o=some m'):m'.Wg/\bP m m':=by
 have L:bP m m:=⟨rfl,rfl⟩
 cases o with
 |num n=>cases e;exact⟨w.qI (ue ho w.iv),⟨rfl,rfl⟩⟩
 |zI n=>cases e;exact⟨w.qI (ue trivial w.iv),⟨rfl,rfl⟩⟩
 |nil=>cases e;exact⟨w.qI (ue trivial w.iv),⟨rfl,rfl⟩⟩
 |get k=>
  obtain⟨v,hv,rfl⟩:=ve.mp e
  exact⟨w.qI (ue (w.iv v (slot_mem hv)) w.iv),⟨rfl,rfl⟩⟩
 |make s=>
  obtain⟨m1,e1,e⟩:=jU.mp e
  obtain⟨w1,l1,_,_⟩:=ZY w e1
  split at e
  ·split at e
   ·rename_i b a r hs
    cases e
    have iv:=w1.iv
    rw[hs]at iv
    have ha:=iv a (by simp)
    have hb:=iv b (by simp)
    exact⟨RT (w1.qI λv hv=>iv v (by simp[hv])) (ue ha (ue hb (by simp))),⟨l1.code,l1.room⟩⟩
   ·cases e
  ·cases e;exact⟨w1,l1⟩
 |take x i=>
  simp only[exec]at e
  split at e
  ·rename_i r hs
   cases e
   exact⟨⟨λv hv=>w.iv v (by rw[hs];exact jF _ hv),w.it⟩,⟨rfl,rfl⟩⟩
  ·cases e
 |sum s=>
  simp only[exec]at e
  split at e
  ·rename_i y x r hs
   split at e
   ·cases e;exact⟨⟨λu hu=>w.iv u (by rw[hs];simp[hu]),w.it⟩,⟨rfl,rfl⟩⟩
   ·cases e
  ·cases e
 |func rc kept len=>
  obtain⟨m1,e1,e⟩:=jU.mp e
  obtain⟨w1,l1,_,l2⟩:=ZY w e1
  split at e
  ·obtain⟨vs,hv,e⟩:=ve.mp e
   subst e
   have ZU:∀v∈vs,v.ok:=λv h=>by
    obtain⟨k,_,hk⟩:=RS hv v h
    exact w1.iv v (slot_mem hk)
   have w2:=RT (s:=.fn) w1 (ue (v:=.int m1.place) (by show kh _;unfold kh;lia) (ue (v:=.bl rc) trivial ZU))
   exact⟨⟨w2.iv,w2.it⟩,⟨l1.code,l1.room⟩⟩
  ·cases e;exact⟨w1,l1⟩
 |call=>
  simp only[exec]at e
  split at e
  ·cases e;exact⟨⟨w.iv,w.it⟩,⟨rfl,rfl⟩⟩
  ·split at e
   ·rename_i h k r hs
    have hh:h.ok:=w.iv h (by rw[hs];simp)
    obtain⟨a,b⟩:=RA (m:={m with pend:=(m.place,m.base)::m.pend,base:=m.qI.length}) ⟨w.iv,w.it⟩ hh e
    exact⟨a,⟨b.code,b.room⟩⟩
   ·cases e
 |last=>
  simp only[exec]at e
  split at e
  ·rename_i h k r hs
   have hh:h.ok:=w.iv h (by rw[hs];simp)
   obtain⟨a,b⟩:=RA (m:={m with qI:=cut r m.base}) ⟨λv hv=>w.iv v (by rw[hs];simp[qib hv]),w.it⟩ hh e
   exact⟨a,⟨b.code,b.room⟩⟩
  ·cases e
 |tell=>
  simp only[exec]at e
  split at e
  ·rename_i v r hs
   have hv:v.ok:=w.iv v (by rw[hs];simp)
   split at e
   ·cases e
   ·cases e
    exact⟨⟨ue hv (by simp),w.it⟩,⟨rfl,rfl⟩⟩
  ·cases e
theorem RE{α β:Type}{f:α->Option β}:∀{l:List α}{r:List β},l.mapM f=some r->r.length=l.length
 |[],r,h=>by
  have :r=[]:=by simpa using h.symm
  subst this;rfl
 |a::l,r,h=>by
  rw[qqA]at h
  obtain⟨x,hx,h⟩:=jU.mp h
  obtain⟨xs,vP,h⟩:=jU.mp h
  have :r=x::xs:=(xb h).symm
  subst this
  rw[zH,zH,RE vP]
theorem R0(h:m.things.length<=m.room)(e:m.ow=some m'):m'.things.length<=m'.room/\(m'.st= .running->m'.things.length<m'.room):=by
 unfold ow at e
 split at e
 ·cases e
 ·cases e;exact⟨h,λ_=>by lia⟩
theorem R1{k:Nat}{h:AV}(e:m.enter k h=some m'):m'.things=m.things/\m'.room=m.room:=by
 unfold enter at e
 split at e
 ·split at e
  ·cases e
  ·cases e;exact⟨rfl,rfl⟩
 ·cases e
theorem qif{o:zX}(h:m.things.length<=m.room)(e:m.exec o=some m'):m'.things.length<=m'.room:=by
 cases o with
 |num n=>cases e;exact h
 |zI n=>cases e;exact h
 |nil=>cases e;exact h
 |get k=>obtain⟨v,_,rfl⟩:=ve.mp e;exact h
 |make s=>
  obtain⟨m1,e1,e⟩:=jU.mp e
  obtain⟨t1,t2⟩:=R0 h e1
  split at e
  ·rename_i hs
   split at e
   ·cases e
    have :=t2 hs
    show(m1.things++[_]).length<=m1.room
    simp;lia
   ·cases e
  ·cases e;exact t1
 |take x i=>
  simp only[exec]at e
  split at e
  ·cases e;exact h
  ·cases e
 |sum s=>
  simp only[exec]at e
  split at e
  ·split at e
   ·cases e;exact h
   ·cases e
  ·cases e
 |func rc kept len=>
  obtain⟨m1,e1,e⟩:=jU.mp e
  obtain⟨t1,t2⟩:=R0 h e1
  split at e
  ·rename_i hs
   obtain⟨vs,_,e⟩:=ve.mp e
   subst e
   have :=t2 hs
   show(m1.things++[_]).length<=m1.room
   simp;lia
  ·cases e;exact t1
 |call=>
  simp only[exec]at e
  split at e
  ·cases e;exact h
  ·split at e
   ·obtain⟨a,b⟩:=R1 e
    rw[a,b];exact h
   ·cases e
 |last=>
  simp only[exec]at e
  split at e
  ·obtain⟨a,b⟩:=R1 e
   rw[a,b];exact h
  ·cases e
 |tell=>
  simp only[exec]at e
  split at e
  ·split at e
   ·cases e
   ·cases e;exact h
  ·cases e
theorem Wf.g(w:m.Wf):m.Wg:=⟨w.iv,w.it⟩
theorem Wf.exec{o:zX}(w:m.Wf)(ho:o.ok)(hp:m.place<=1000000)(e:m.exec o=some m')(hl:m'.qI.length<=yZ):m'.Wf/\bP m m':=by
 obtain⟨a,b⟩:=qid w.g hp ho e
 exact⟨⟨hl,a.iv,a.it,by rw[b.code];exact w.bD,by rw[b.code];exact w.cl,by rw[b.room];exact w.rm,qif w.tr e⟩,b⟩
theorem R3(e:m.order=some m'):∃o,m.code[m.place]? =some o/\({m with place:=m.place+1}:Ms).exec o=some m'/\m'.qI.length<=yZ:=by
 unfold order at e
 obtain⟨o,h1,e⟩:=jU.mp e
 obtain⟨m1,h2,e⟩:=jU.mp e
 split at e
 ·cases e;exact⟨o,h1,h2,by assumption⟩
 ·cases e
theorem Wf.order(w:m.Wf)(e:m.order=some m'):m'.Wf/\bP m m':=by
 obtain⟨o,h1,h2,h3⟩:=R3 e
 have hl:m.place<m.code.length:=(km.mp h1).1
 obtain⟨a,b⟩:=Wf.exec (m:={m with place:=m.place+1}) ⟨w.hs,w.iv,w.it,w.bD,w.cl,w.rm,w.tr⟩ (w.bD o (kM h1)) (by have :=w.cl;show m.place+1<=_;lia) h2 h3
 exact⟨a,⟨b.code,b.room⟩⟩
end Ms
namespace K27
open PySem L2 PyProof Dt
def w7:Sm->W7
 | .plus=>.plus| .over=>.over
theorem qih(s:Sm):s.str=(w7 s).str:=by cases s<;>rfl
theorem qip(s:Sm)(b:Int):Ms.cQ s b=cQ (w7 s) b:=by cases s<;>simp[Ms.cQ,cQ,w7,ZV]
theorem WC(v:AV):zU v.dt .qd=decide (v= .nil):=by cases v<;>simp[AV.dt,zU]
theorem WL(v:AV):dep v.dt<=1:=by cases v<;>simp[AV.dt,dep,j7]
theorem cA(w:m.Wf):m.qI.length<sizeLine:=by have :=w.hs;unfold Ms.yZ at this;rw[xt];lia
theorem qir(w:n<=Ms.yZ):n<sizeLine:=by unfold Ms.yZ at w;rw[xt];lia
section
variable {d:Ad}
theorem WG(M:Mc K d.C)(h:MS K H0 d m H)(h0:σ[0]? =some (some (.ref d.m)))(x:Sd)(q:∀H',MS K H0 d {m with st:=x} H'->D.nx σ H'):J1 K (zO 0) (tC (.str x.str)) "standing" D σ H:=
 ⟨_,h0,d.m,d.C,d.dx,_,rfl,h.mo,M.cl,M.n7,bL _ _,by rw[RB];exact q _ (h.setM m.base m.place x)⟩
theorem qis{v:AV}(M:Mc K d.C)(h:MS K H0 d m H)(h0:σ[0]? =some (some (.ref d.m)))(x:Sd)(hy:qw K H v.dt y)(q:∀H',MS K H0 d {m with st:=x} H'->qw K H' v.dt y->D.nx σ H'):J1 K (zO 0) (tC (.str x.str)) "standing" D σ H:=
 ⟨_,h0,d.m,d.C,d.dx,_,rfl,h.mo,M.cl,M.n7,bL _ _,by rw[RB];exact q _ (h.setM m.base m.place x) (qw.zb (gT h.mo) hy)⟩
theorem R4(M:Mc K d.C)(h:MS K H0 d m H)(h0:σ[0]? =some (some (.ref d.m)))(q:tv σ H λy H2=>Qw (.int (m.place:Nat)) y H2 λz H3=>∃kH wc,H3 d.m=some (.ins d.C kH wc)/\wc.length<1000/\D.nx σ (upd H3 d.m (.ins d.C kH (zP "place" z wc)))):Bl K (zO 0) tv Qw "place" D σ H:=
 ⟨_,h0,d.m,d.C,d.dx,_,_,rfl,h.mo,M.cl,M.n5,sA _ _,q⟩
theorem qit(h:MS K H0 d m H)(k:Nat)(q:∀H',MS K H0 d {m with place:=m.place+k} H'->D.nx σ H'):Qw (.int (m.place:Nat)) (.int (k:Nat)) H λz H3=>∃kH wc,H3 d.m=some (.ins d.C kH wc)/\wc.length<1000/\D.nx σ (upd H3 d.m (.ins d.C kH (zP "place" z wc))):=by
 refine⟨_,_,rfl,rfl,d.dx,_,h.mo,bL _ _,?_⟩
 rw[show((m.place:Int)+(k:Int))=((m.place+k:Nat):Int) by lia,WY]
 exact q _ (h.setM m.base (m.place+k) m.st)
end
inductive qia(K:Fg)(C:jp)(CH:jp)(B:zX->Prop)(vs:List V)(H:Hp)(Q:VK):Prop
 |mk (H0:Hp) (d:Ad) (m:Ms) (m':Ms) (o:zX) (c:V) (qQ:vs=[.ref d.m,c]) (qZ:d.C=C) (qV:d.CH=CH) (qG:MS K H0 d m H) (zm:qw K H o.dt c) (je:B o) (kc:m.Wf) (uu:m.st= .running) (Q5:m.place<=1000000) (a_9:m.exec o=some m') (qpe:m'.qI.length<=Ms.yZ) (qpQ:∀a b H',MS K H0 (d.mv a b) m' H'->Q .qd H')
def yu(K:Fg)(C CH:jp)(B:zX->Prop):Sp:=λvs H Q zh=>qia K C CH B vs H Q
section
variable {base:ll}
abbrev p2:List Str:=["machine","order"]
theorem qie:qO p2 p2 (qK V6):=by symm
theorem qiQ(F:qJ K "put" "put" V6 .none f fd)(M:Mc K C):∅ 1 f fd p2 (yu K C CH λo=>(∃n,o= .num n)\/∃b,o= .zI b):=by
 refine F.qB qie (by grind) ?_
 omega
 obtain⟨H0,d,m,m',o,c,rfl,rfl,rfl,h,hc,hB,hw,jq,hp,he,hl,q⟩:=h
 obtain⟨ca,us,rfl,yC,jh⟩:=mq hc
 refine⟨_,qg (zG (jA jV vp vt vj (qT (pv 0) rfl) (qx (qU zc (pv 1) qe) qk))),?_⟩
 left
 rcases hB with⟨n,rfl⟩|⟨b,rfl⟩
 ·cases he
  obtain⟨u,r,rfl,hu,xE⟩:=zA jh
  cases kY xE
  exact iN M h rfl ⟨_,rfl,ca,_,_,u,rfl,rfl,yC,qY (j:=1) rfl,gA (v:=.int n) h hu (cA hw) λH' h'=>q d.st d.th H' h'⟩
 ·cases he
  obtain⟨u,r,rfl,hu,xE⟩:=zA jh
  cases kY xE
  exact iN M h rfl ⟨_,rfl,ca,_,_,u,rfl,rfl,yC,qY (j:=1) rfl,gA (v:=.bl b) h hu (cA hw) λH' h'=>q d.st d.th H' h'⟩
theorem qiZ:qO p2 p2 (qK V7):=by symm
theorem qiJ(F:qJ K "put_nil" "put_nil" V7 .none f fd)(M:Mc K C)(zE:mg "EMPTY"=some .none):∅ 1 f fd p2 (yu K C CH λo=>o= .nil):=by
 refine F.qB qiZ (by grind) ?_
 omega
 obtain⟨H0,d,m,m',o,c,rfl,rfl,rfl,h,hc,rfl,hw,jq,hp,he,hl,q⟩:=h
 refine⟨_,qg (zG (jA jV vp vt vj (qT (pv 0) rfl) (qx (zf (v:=.qd) (by rfl) zE rfl) qk))),?_⟩
 left
 cases he
 exact iN M h rfl (gA (v:=.nil) h (by show qw K H .qd V.qd;rw[qw]) (cA hw) λH' h'=>q d.st d.th H' h')
theorem qiX:qO ["machine","slot"] ["machine","slot"] (qK V9):=by symm
inductive qiK(K:Fg)(C:jp)(vs:List V)(H:Hp)(Q:VK):Prop
 |mk (H0:Hp) (d:Ad) (m:Ms) (k:Nat) (v:AV) (qQ:vs=[.ref d.m,.int (k:Nat)]) (qZ:d.C=C) (qV:MS K H0 d m H) (qG:m.slot k=some v) (zm:∀x,qw K H v.dt x->Q x H)
def ZO(K:Fg)(C:jp):Sp:=λvs H Q zh=>qiK K C vs H Q
theorem qiV(F:qJ K "in_slot" "in_slot" V9 .none f fd)(M:Mc K C):∅ 1 f fd ["machine","slot"] (ZO K C):=by
 refine F.qB qiX (by grind) ?_
 omega
 obtain⟨H0,d,m,k,v,rfl,rfl,h,he,q⟩:=h
 refine⟨_,qg (qW (qU jH (qT (pv 0) rfl) (zV oR (qT (pv 0) rfl) (pv 1)))),?_⟩
 left
 obtain⟨vs,hs,hd⟩:=h.so
 unfold Ms.slot at he
 split at he
 ·rename_i jM
  obtain⟨x,ig,xh⟩:=hd.get (i:=m.base+k) (d:=v.dt) (by rw[xH,qzX jM,he];rfl)
  refine⟨_,rfl,d.m,d.C,d.dx,_,_,rfl,h.mo,M.cl,M.n3,yI _ _,_,rfl,d.m,d.C,d.dx,_,_,rfl,h.mo,M.cl,M.n4,WV _ _,_,rfl,_,_,rfl,rfl,d.st,vs,_,x,rfl,rfl,qp.of hs,?_,q x xh⟩
  rw[show((m.base:Int)+(k:Int))=((m.base+k:Nat):Int) by lia]
  exact qY ig
 ·cases he
theorem qiW:qO p2 p2 (qK V8):=by symm
theorem qiY(F:qJ K "put_slot" "put_slot" V8 .none f fd)(M:Mc K C)(GI:⋯ 1 "in_slot" ["machine","slot"] (ZO K C)):∅ 2 f fd p2 (yu K C CH λo=>∃k,o= .get k):=by
 refine F.qB qiW (by grind) ?_
 omega
 obtain⟨H0,d,m,m',o,c,rfl,rfl,rfl,h,hc,⟨k,rfl⟩,hw,jq,hp,he,hl,q⟩:=h
 obtain⟨ca,us,rfl,yC,jh⟩:=mq hc
 obtain⟨u,r,rfl,hu,xE⟩:=zA jh
 cases kY xE
 cases cK hu
 refine⟨_,qg (zG (jA jV vp vt vj (qT (pv 0) rfl) (qx (zw GI hr (qx (pv 0) (qx (qU zc (pv 1) qe) qk))) qk))),?_⟩
 left
 obtain⟨v,hv,rfl⟩:=ve.mp he
 exact iN M h rfl ⟨_,rfl,_,rfl,ca,_,_,_,rfl,rfl,yC,qY (j:=1) rfl,H0,d,m,k,v,rfl,rfl,h,hv,λx hx=>gA (v:=v) h hx (cA hw) λH' h'=>q d.st d.th H' h'⟩
end
section
variable {d:Ad} {R:VK}
theorem R5{k:Nat}{t:Th}(h:MS K H0 d m H)(e:m.things[k]? =some t):∃ts a u w,H d.th=some (.lst ts)/\ts[k]? =some (.ref a)/\qb K H a [.str t.sort.str,.ref u]/\qb K H u w/\qf K H (t.held.map AV.dt) w:=by
 obtain⟨ts,hs,hd⟩:=h.to
 obtain⟨x,ig,xh⟩:=hd.get (i:=k) (d:=t.dt) (by rw[xH,e];rfl)
 obtain⟨a,u,rfl,ha,hu⟩:=xG xh
 obtain⟨b,w,rfl,hb,hw⟩:=cX hu
 exact⟨ts,a,b,w,hs,ig,ha,hb,hw⟩
theorem R6{k:Nat}{x:V}(h:qw K H (AV.at_ k).dt x):∃a,x= .ref a/\qb K H a [.str "at",.int (k:Nat)]:=by
 obtain⟨a,u,rfl,ha,hu⟩:=xG h
 cases cK hu
 exact⟨a,rfl,ha⟩
end
section
variable {base:ll}
inductive qiU(K:Fg)(CH:jp)(vs:List V)(H:Hp)(Q:VK):Prop
 |mk (H0:Hp) (d:Ad) (m:Ms) (k:Nat) (t:Th) (x:V) (qQ:vs=[.ref d.hp,x]) (qZ:d.CH=CH) (qV:MS K H0 d m H) (qG:qw K H (AV.at_ k).dt x) (zm:m.things[k]? =some t) (je:∀u w,qb K H u w->qf K H (t.held.map AV.dt) w->Q (.ref u) H)
def ZI(K:Fg)(CH:jp):Sp:=λvs H Q zh=>qiU K CH vs H Q
theorem qiO:qO ["self","reference"] ["self","reference"] (qK WQ):=by symm
theorem qiI(F:qJ K "held_by" "Heap.held_by" WQ .none f fd)(M:Hc K CH):∅ 1 f fd ["self","reference"] (ZI K CH):=by
 refine F.qB qiO (by grind) ?_
 omega
 obtain⟨H0,d,m,k,t,x,rfl,rfl,h,hx,ht,q⟩:=h
 refine⟨_,qg (qW (qU zc (qU jH (qT (pv 0) rfl) (qU zc (pv 1) qe)) qe)),?_⟩
 left
 obtain⟨a,rfl,ha⟩:=R6 hx
 obtain⟨ts,ta,u,ws,h1,h2,h3,h4,h5⟩:=R5 h ht
 exact⟨_,rfl,d.hp,d.CH,d.dh,_,_,rfl,h.ho,M.cl,M.n2,bC _ _,⟨_,rfl,a,_,_,_,rfl,rfl,ha,qY (j:=1) rfl,d.th,ts,_,_,rfl,rfl,qp.of h1,qY h2,ta,_,_,_,rfl,rfl,h3,qY (j:=1) rfl,q u ws h4 h5⟩⟩
inductive qiC(K:Fg)(CH:jp)(vs:List V)(H:Hp)(Q:VK):Prop
 |mk (H0:Hp) (d:Ad) (m:Ms) (k:Nat) (t:Th) (x:V) (qQ:vs=[.ref d.hp,x]) (qZ:d.CH=CH) (qV:MS K H0 d m H) (qG:qw K H (AV.at_ k).dt x) (zm:m.things[k]? =some t) (je:Q (.str t.sort.str) H)
def R7(K:Fg)(CH:jp):Sp:=λvs H Q zh=>qiC K CH vs H Q
theorem qiL:qO ["self","reference"] ["self","reference"] (qK We):=by symm
theorem qiG(F:qJ K "sort_of" "Heap.sort_of" We .none f fd)(M:Hc K CH):∅ 1 f fd ["self","reference"] (R7 K CH):=by
 refine F.qB qiL (by grind) ?_
 omega
 obtain⟨H0,d,m,k,t,x,rfl,rfl,h,hx,ht,q⟩:=h
 refine⟨_,qg (qW (qU zc (qU jH (qT (pv 0) rfl) (qU zc (pv 1) qe)) qe)),?_⟩
 left
 obtain⟨a,rfl,ha⟩:=R6 hx
 obtain⟨ts,ta,u,ws,h1,h2,h3,h4,h5⟩:=R5 h ht
 exact⟨_,rfl,d.hp,d.CH,d.dh,_,_,rfl,h.ho,M.cl,M.n2,bC _ _,⟨_,rfl,a,_,_,_,rfl,rfl,ha,qY (j:=1) rfl,d.th,ts,_,_,rfl,rfl,qp.of h1,qY h2,ta,_,_,_,rfl,rfl,h3,qY (j:=0) rfl,q⟩⟩
inductive qiM(K:Fg)(CH:jp)(g:Ms->V)(vs:List V)(H:Hp)(Q:VK):Prop
 |mk (H0:Hp) (d:Ad) (m:Ms) (qQ:vs=[.ref d.hp]) (qZ:d.CH=CH) (qV:MS K H0 d m H) (qG:Q (g m) H)
def tQ(K:Fg)(CH:jp)(g:Ms->V):Sp:=λvs H Q zh=>qiM K CH g vs H Q
theorem qiN:qO ["self"] ["self"] (qK Ws):=by symm
theorem qiB(F:qJ K "is_full" "Heap.is_full" Ws .none f fd)(M:Hc K CH)(zL:mg "len"=none):∅ 1 f fd ["self"] (tQ K CH λm=>.bl (decide (m.room<=m.things.length))):=by
 refine F.qB qiN (by grind) ?_
 omega
 obtain⟨H0,d,m,rfl,rfl,h,q⟩:=h
 refine⟨_,qg (qW (ki N8 (jZ wQ (by rfl) zL xV (qx (qT (pv 0) rfl) qk)) (qT (pv 0) rfl) (qR _))),?_⟩
 left
 obtain⟨ts,hs,hd⟩:=h.to
 refine⟨_,rfl,d.hp,d.CH,d.dh,_,_,rfl,h.ho,M.cl,M.n2,bC _ _,⟨d.th,ts,rfl,.inl (qp.of hs),⟨_,rfl,d.hp,d.CH,d.dh,_,_,rfl,h.ho,M.cl,M.n1,qiw _ _,⟨_,_,rfl,rfl,?_⟩⟩⟩⟩
 have e:decide (((m.room:Nat):Int)<=((ts.length:Nat):Int))=decide (m.room<=m.things.length):=by
  have :ts.length=m.things.length:=by rw[hd.length,za]
  rw[mi];simp;lia
 show Q (V.bl (decide (((m.room:Nat):Int)<=((ts.length:Nat):Int)))) H
 rw[e]
 exact q
theorem qiD:qO ["self"] ["self"] (qK Wt):=by symm
theorem qiF(F:qJ K "used" "Heap.used" Wt .none f fd)(M:Hc K CH)(zL:mg "len"=none):∅ 1 f fd ["self"] (tQ K CH λm=>.int (m.things.length:Nat)):=by
 refine F.qB qiD (by grind) ?_
 omega
 obtain⟨H0,d,m,rfl,rfl,h,q⟩:=h
 refine⟨_,qg (qW (jZ wQ (by rfl) zL xV (qx (qT (pv 0) rfl) qk))),?_⟩
 left
 obtain⟨ts,hs,hd⟩:=h.to
 refine⟨_,rfl,d.hp,d.CH,d.dh,_,_,rfl,h.ho,M.cl,M.n2,bC _ _,⟨d.th,ts,rfl,.inl (qp.of hs),?_⟩⟩
 rw[hd.length,za]
 exact q
inductive qiH(K:Fg)(vs:List V)(H:Hp)(Q:VK):Prop
 |mk (k:Nat) (qQ:vs=[.int (k:Nat)]) (qZ:∀x H',qv H H'->qw K H' (AV.at_ k).dt x->Q x H')
def R8(K:Fg):Sp:=λvs H Q zh=>qiH K vs H Q
theorem qiP:qO ["place"] ["place"] (qK V2):=by symm
theorem qiR(F:qJ K "reference_to" "reference_to" V2 .none f fd):∅ 1 f fd ["place"] (R8 K):=by
 refine F.qB qiP (by grind) ?_
 omega
 obtain⟨k,rfl,q⟩:=h
 refine⟨_,qg (qW (zR (qx qh (qx (pv 0) qk)))),?_⟩
 left
 exact⟨_,rfl,jk,λt ht=>q _ _ (qv.put ht) (yV (qb.of qu) (by rw[qw]))⟩
inductive qiS(K:Fg)(CH:jp)(vs:List V)(H:Hp)(Q:VK):Prop
 |mk (H0:Hp) (d:Ad) (m:Ms) (s:oj) (hl:jp) (hs:List AV) (xs:List V) (qQ:vs=[.ref d.hp,.str s.str,.ref hl]) (qZ:d.CH=CH) (qV:MS K H0 d m H) (qG:H hl=some (.lst xs)) (zm:qf K H (hs.map AV.dt) xs) (je:m.things.length<m.room) (kc:m.room<=1000) (uu:∀x H',jt K H H'->MS K H0 d {m with things:=m.things++[⟨s,hs⟩],made:=m.made+1} H'->qw K H' (AV.at_ m.things.length).dt x->Q x H')
def WM(K:Fg)(CH:jp):Sp:=λvs H Q zh=>qiS K CH vs H Q
theorem qiT:qO ["self","sort","held"] ["self","sort","held"] (qK Wa):=by symm
theorem qiA{ff:jp}{R9:ol}(F:qJ K "make" "Heap.make" Wa .none f fd)(M:Hc K CH)(zL:mg "len"=none)(zT:mg "tuple"=none)(mF:Meth K CH "is_full" ff)(GF:∅ 1 ff R9 ["self"] (tQ K CH λm=>.bl (decide (m.room<=m.things.length))))(bF:Binds K R9 ["self"] [])
  (GR:⋯ 1 "reference_to" ["place"] (R8 K)):∅ 2 f fd ["self","sort","held"] (WM K CH):=by
 refine F.qB qiT (by grind) ?_
 omega
 obtain⟨H0,d,m,sr,hl,hs,xs,rfl,rfl,h,h1,h2,jM,hrm,q⟩:=h
 refine⟨_,qc (qP (ku (we (pv 0) M.cl mF GF hr bF .nil z8)) wg zq)
  (qc (zG (jA jV vp vt vj (qT (pv 0) rfl) (qx (zR (qx (pv 1) (qx (wD Ql (by rfl) zT lL (qx (pv 2) qk)) qk))) qk)))
  (qc (J6 (pv 0) qe J8)
  (qg (qW (zw GR hr (qx (zV JB (jZ wQ (by rfl) zL xV (qx (qT (pv 0) rfl) qk)) qe) qk)))))),?_⟩
 left
 refine⟨_,rfl,d.hp,d.dh,_,rfl,h.ho,oV _ _ (by ext),H0,d,m,rfl,rfl,h,_,rfl,?_⟩
 rw[xn (show¬m.room<=m.things.length by lia)]
 refine qA ?_
 obtain⟨ts,yx,ye⟩:=h.to
 refine⟨_,rfl,d.hp,d.CH,d.dh,_,_,rfl,h.ho,M.cl,M.n2,bC _ _,⟨.inl ⟨rfl,_,qp.of yx⟩,_,rfl,_,rfl,hl,xs,rfl,.inl ⟨qp.of h1,λt0 gc=>?_⟩⟩⟩
 have g1:=qv.put (o:=.tup xs) gc
 have e0:=@qu H t0 (.tup xs)
 generalize upd H t0 (.tup xs)=H1 at g1 e0⊢
 refine⟨jk,λt1 qiE=>?_⟩
 have g2:=qv.put (o:=.tup [.str sr.str,.ref t0]) qiE
 have e1:=@qu H1 t1 (.tup [.str sr.str,.ref t0])
 generalize upd H1 t1 (.tup [.str sr.str,.ref t0])=H2 at g2 e1⊢
 have zD:=g1.trans g2
 have tZ:=h.grow zD
 have hx:qw K H2 (Th.dt ⟨sr,hs⟩) (.ref t1):=yV (qb.of e1) (cV (qb.of (g2.same _ _ e0)) (h2.mono zD.same))
 have hts:=ye.mono zD.same
 have uX:ts.length=m.things.length:=by rw[ye.length,za]
 refine⟨d.th,ts,_,rfl,rfl,zD.same _ _ yx,by rw[xt];lia,?_⟩
 have tX:=tZ.qil (s:=m.things++[⟨sr,hs⟩]) (vs:=ts++[.ref t1]) (by rw[kG];exact qf.append hts (zx hx zp))
 have k3:jt K H (upd H2 d.th (.lst (ts++[.ref t1]))):=WU (RD zD) (vh (zD.same _ _ yx))
 show vC _ _ _ _ (upd H2 d.th (.lst (ts++[.ref t1])))
 generalize upd H2 d.th (.lst (ts++[.ref t1]))=H3 at tX k3⊢
 refine⟨_,rfl,d.hp,d.CH,d.dh,_,_,rfl,tX.ho,M.cl,M.n3,qiy _ _,_,_,rfl,rfl,d.dh,_,tX.ho,qii _ _,?_⟩
 rw[show((({m with things:=m.things++[⟨sr,hs⟩]}:Ms).made:Nat):Int)+1=((m.made+1:Nat):Int) by show((m.made:Nat):Int)+1=_;lia,qio]
 have ZC:=tX.qig (m.made+1)
 have k4:=WU k3 (gT (K:=K) (gs:=xB d {m with things:=m.things++[⟨sr,hs⟩],made:=m.made+1}) tX.ho)
 generalize upd H3 d.hp _=H4 at ZC k4⊢
 obtain⟨Sq,ZL,gO⟩:=ZC.to
 refine⟨_,rfl,d.hp,d.CH,d.dh,_,_,rfl,ZC.ho,M.cl,M.n2,bC _ _,d.th,Sq,rfl,.inl (qp.of ZL),_,_,rfl,rfl,m.things.length,?_,λx H5 g5 hx5=>?_⟩
 ·have :Sq.length=m.things.length+1:=by rw[gO.length,za];simp
  rw[this]
  show[V.int _]=[V.int _]
  congr 2
  lia
 ·exact q x H5 (WU k4 (RD g5)) (ZC.grow g5) hx5
end
section
variable {d:Ad} {R:VK}
theorem qi2(x y:V)(r:List V):yS (x::y::r) (some 2) none=r:=by
 have e:HT.zk (x::y::r).length 0 (some 2)=2:=by
  simp[HT.zk]
  try lia
 unfold yS
 rw[e]
 simp[HT.zk]
theorem qi3(x y:V)(r:List V):¬(HT.zk (x::y::r).length 0 (some 2)=0/\HT.zk (x::y::r).length (x::y::r).length none=(x::y::r).length):=by
 rintro⟨h,_⟩
 simp[HT.zk]at h
 try lia
theorem qi4{l:List AV}{h:Nat}(e:l.length<=h):Ms.cut l h=l:=by unfold Ms.cut;rw[show l.length-h=0 by lia];rfl
theorem qi5{v:AV}{l:List AV}{h:Nat}(e:h<=l.length):Ms.cut (v::l) h=Ms.cut l h:=by
 unfold Ms.cut
 rw[zH,show l.length+1-h=(l.length-h)+1 by lia];rfl
end
section
variable {base:ll}
inductive qi6(K:Fg)(C:jp)(CH:jp)(vs:List V)(H:Hp)(Q:VK):Prop
 |mk (H0:Hp) (d:Ad) (m:Ms) (m':Ms) (x:Str) (i:Nat) (qQ:vs=[.ref d.m,.int (i:Nat)]) (qZ:d.C=C) (qV:d.CH=CH) (qG:MS K H0 d m H) (zm:m.Wf) (je:m.exec (.take x i)=some m') (kc:∀H',MS K H0 d m' H'->Q .qd H')
def WN(K:Fg)(C CH:jp):Sp:=λvs H Q zh=>qi6 K C CH vs H Q
theorem Sz:qO ["machine","which","holder"] ["machine","which"] (qK Wx):=by symm
theorem qi7(F:qJ K "take_held" "take_held" Wx .none f fd)(M:Mc K C)(zE:mg "EMPTY"=some .none):∅ 2 f fd ["machine","which"] (WN K C CH):=by
 refine F.qB Sz (by grind) ?_
 omega
 obtain⟨H0,d,m,m',x,i,rfl,rfl,rfl,h,hw,he,q⟩:=h
 refine⟨_,qc (qC (i:=2) Sz.nd rfl oI (yE jV yG yM uq (qT (pv 0) rfl)))
  (qg (qP (qM nW (pv 2) (zf (v:=.qd) (by rfl) zE rfl) (qR _)) (qg (xj (pv 0) qh rfl))
   wg)),?_⟩
 left
 simp only[Ms.exec]at he
 split at he
 ·rename_i r hs
  cases he
  refine ZW M h rfl hs λy H1 hy h1=>?_
  right
  refine⟨_,rfl,AV.nil.dt,.qd,hy,by rw[qw],KU hr (vy (WL _) (by decide)),_,rfl,?_⟩
  rw[WC,vw rfl]
  exact zY (WG M h1 rfl .ofEmpty λH' h'=>q H' h')
 ·cases he
theorem qi8:qO p2 p2 (qK Wz):=by symm
theorem qi9:qO p2 p2 (qK Wj):=by symm
theorem qcq(F:qJ K "take_first" "take_first" Wz .none f fd)(GT:⋯ 2 "take_held" ["machine","which"] (WN K C CH)):∅ 3 f fd p2 (yu K C CH λo=>∃x,o= .take x 0):=by
 refine F.qB qi8 (by grind) ?_
 omega
 obtain⟨H0,d,m,m',o,c,rfl,rfl,rfl,h,hc,⟨x,rfl⟩,hw,jq,hp,he,hl,q⟩:=h
 refine⟨_,qg (zG (zw GT hr (qx (pv 0) (qx qe qk)))),?_⟩
 left
 exact⟨_,rfl,H0,d,m,m',x,0,rfl,rfl,rfl,h,hw,he,λH' h'=>q d.st d.th H' h'⟩
theorem qcz(F:qJ K "take_second" "take_second" Wj .none f fd)(GT:⋯ 2 "take_held" ["machine","which"] (WN K C CH)):∅ 3 f fd p2 (yu K C CH λo=>∃x,o= .take x 1):=by
 refine F.qB qi9 (by grind) ?_
 omega
 obtain⟨H0,d,m,m',o,c,rfl,rfl,rfl,h,hc,⟨x,rfl⟩,hw,jq,hp,he,hl,q⟩:=h
 refine⟨_,qg (zG (zw GT hr (qx (pv 0) (qx qe qk)))),?_⟩
 left
 exact⟨_,rfl,H0,d,m,m',x,1,rfl,rfl,rfl,h,hw,he,λH' h'=>q d.st d.th H' h'⟩
theorem WB:qO ["machine","order","other","one"] p2 (qK Wq):=by symm
theorem qcj(F:qJ K "reckon_sum" "reckon_sum" Wq .none f fd)(M:Mc K C)(GN:⋯ 1 "is_by_nought" ["word","other"] RM):∅ 4 f fd p2 (yu K C CH λo=>∃x,o= .sum x):=by
 refine F.qB WB (by grind) ?_
 omega
 obtain⟨H0,d,m,m',o,c,rfl,rfl,rfl,h,hc,⟨x,rfl⟩,hw,jq,hp,he,hl,q⟩:=h
 obtain⟨ca,us,rfl,yC,jh⟩:=mq hc
 cases kY jh
 refine⟨_,qc (qC (i:=2) WB.nd rfl oI (yE jV yG yM uq (qT (pv 0) rfl)))
  (qc (qC (i:=3) WB.nd rfl oI (yE jV yG yM uq (qT (pv 0) rfl)))
  (qg (qP (ku (zw GN (hr.mono (by lia)) (qx (qU zc (pv 1) qe) (qx (pv 2) qk))))
   (qg (xj (pv 0) qh rfl))
   wg))),?_⟩
 left
 simp only[Ms.exec]at he
 split at he
 ·rename_i b a r hs
  have uV:r.length<sizeLine:=by have :=cA hw;rw[hs]at this;exact u4 (u4 this)
  have ha:kh a:=hw.iv (.int a) (by rw[hs];simp)
  have hb:kh b:=hw.iv (.int b) (by rw[hs];simp)
  have qcx:qb K H ca [.str (w7 x).str]:=by rw[<-qih];exact yC
  obtain⟨g1,g2⟩:qv H0 H/\True:=⟨h.g,trivial⟩
  have kp:∀{H':Hp}{m1:Ms}{v:AV},MS K H0 d m1 H'->True:=λ_=>trivial
  refine RH M h rfl hs qcx λy H1 hy h1 vY=>?_
  right
  cases cK hy
  refine RH M h1 rfl rfl vY λy H2 hy h2 xQ=>?_
  right
  cases cK hy
  refine⟨_,rfl,ca,_,_,_,rfl,rfl,xQ,qY (j:=0) rfl,_,rfl,w7 x,b,rfl,λH3 g3=>⟨_,rfl,?_⟩⟩
  have h3:=h2.grow g3
  have uK:=qb.mono g3.same xQ
  rw[<-qip]
  refine zB (λz=>?_) (λz=>?_)
  ·rw[vb z]at he
   cases he
   exact WG M h3 rfl .Ku λH' h'=>q d.st d.th H' h'
  ·rw[ke z]at he
   cases he
 ·cases he
inductive qck(K:Fg)(C:jp)(vs:List V)(H:Hp)(Q:VK):Prop
 |mk (H0:Hp) (d:Ad) (m:Ms) (h:Nat) (qQ:vs=[.ref d.m,.int (h:Nat)]) (qZ:d.C=C) (qV:MS K H0 d m H) (qG:∀H',jt K H H'->MS K H0 d {m with qI:=Ms.cut m.qI h} H'->Q .qd H')
def WD(K:Fg)(C:jp):Sp:=λvs H Q zh=>qck K C vs H Q
theorem qcv:qO ["machine","height"] ["machine","height"] (qK Wm):=by symm
theorem qcw(F:qJ K "cut_stack" "cut_stack" Wm .none f fd)(M:Mc K C)(zL:mg "len"=none):∅ 1 f fd ["machine","height"] (WD K C):=by
 refine F.qB qcv (by grind) ?_
 omega
 obtain⟨H0,d,m,k,rfl,rfl,h,q⟩:=h
 refine⟨_,qg (lO i4 (qM yf (jZ wQ (by rfl) zL xV (qx (qT (pv 0) rfl) qk)) (pv 1) (qR _)) (qg (zG (yE jV yG yM uq (qT (pv 0) rfl))))),?_⟩
 left
 refine⟨λn σ H'=>σ=[some (.ref d.m),some (.int (k:Nat))]/\jt K H H'/\∃s:List AV,n=s.length/\MS K H0 d {m with qI:=s} H'/\Ms.cut s k=Ms.cut m.qI k,⟨_,rfl,λ_ _ h=>h,m.qI,rfl,h,rfl⟩,?_⟩
 rintro n σ H1 ⟨rfl,kt,s,rfl,h1,hc⟩
 obtain⟨vs,hs,hd⟩:=h1.so
 refine⟨_,rfl,d.m,d.C,d.dx,_,_,rfl,h1.mo,M.cl,M.n3,yI _ _,⟨d.st,vs,rfl,.inl (qp.of hs),_,rfl,_,_,rfl,rfl,_,rfl,?_⟩⟩
 have hlen:vs.length=s.length:=bB hd
 refine zB (λz=>?_) (λz=>?_)
 ·have z':k<s.length:=by have :=vi z;lia
  match s,z',h1,hc with
  |v::r,z',h1,hc=>
   refine⟨λσ' H'=>σ'=[some (.ref d.m),some (.int (k:Nat))]/\jt K H H'/\MS K H0 d {m with qI:=r} H'/\Ms.cut r k=Ms.cut m.qI k,λσ' H'⟨a1,a2,a3,a4⟩=>⟨r.length,by simp,a1,a2,r,rfl,a3,a4⟩,?_⟩
   refine qim M h1 rfl rfl λ_ H2 WH h2=>⟨rfl,λa xs hx=>WH a xs (kt a xs hx),h2,?_⟩
   rw[<-hc,qi5 (by simp at z';lia)]
 ·have z':¬k<s.length:=λy=>z (by rw[vw];lia)
  have e:s=Ms.cut m.qI k:=by rw[<-hc,qi4 (by lia)]
  subst e
  exact q H1 kt h1
end
theorem qcy{α:Type}(xs:List α)(u v:α):vB (xs++[u,v]) (-2)=some u:=by
 have hl:(xs++[u,v]).length=xs.length+2:=by simp
 have e:uP (xs++[u,v]).length (-2)=some xs.length:=by
  unfold uP
  rw[hl,ke (by decide),vb (by lia)]
  congr 1
  lia
 unfold vB
 rw[e]
 show(xs++[u,v])[xs.length]? =some u
 simp
section
variable {base:ll}
inductive qcu(K:Fg)(C:jp)(CH:jp)(vs:List V)(H:Hp)(Q:VK):Prop
 |mk (H0:Hp) (d:Ad) (m:Ms) (m':Ms) (k:Nat) (hv:AV) (fx:V) (hx:V) (qQ:vs=[.ref d.m,fx,hx]) (qZ:d.C=C) (qV:d.CH=CH) (qG:MS K H0 d m H) (zm:qw K H (AV.at_ k).dt fx) (je:qw K H hv.dt hx) (kc:m.enter k hv=some m') (uu:m'.qI.length<=Ms.yZ) (Q5:∀H',MS K H0 d m' H'->Q .qd H')
def WR(K:Fg)(C CH:jp):Sp:=λvs H Q zh=>qcu K C CH vs H Q
theorem Sj:qO ["machine","function","handed","held"] ["machine","function","handed"] (qK Wc):=by symm
theorem qco(F:qJ K "enter" "enter" Wc .none f fd)(M:Mc K C)(N:Hc K CH)(mH:Meth K CH "held_by" fH)(GH:∅ 1 fH iH ["self","reference"] (ZI K CH))(bH:Binds K iH ["self","reference"] []):∅ 2 f fd ["machine","function","handed"] (WR K C CH):=by
 refine F.qB Sj (by grind) ?_
 omega
 obtain⟨H0,d,m,m',k,hv,fx,hx,rfl,rfl,rfl,h,hf,hh,he,hl,q⟩:=h
 refine⟨_,qc (qC (i:=3) Sj.nd rfl oI (iA (qT (pv 0) rfl) N.cl mH GH hr bH .nil z8 (qx (pv 1) qk)))
  (qc (xj (pv 0) (qU zc (pv 3) qe) rfl)
  (qc (zG (jA jV PySem.F.slot_list_extend PySem.F.type_list_extend qwU (qT (pv 0) rfl) (qx (nu Xx (pv 3) (lP qe) pe) qk)))
  (qc (qP (ku (qU zc (pv 3) qe)) (qg (zG (jA jV vp vt vj (qT (pv 0) rfl) (qx (pv 1) qk)))) zq)
  (qg (zG (jA jV vp vt vj (qT (pv 0) rfl) (qx (pv 2) qk))))))),?_⟩
 left
 unfold Ms.enter at he
 split at he
 ·rename_i sr pl rc kept ht
  split at he
  ·cases he
  rename_i qH
  cases he
  refine⟨_,rfl,d.m,d.C,d.dx,_,_,rfl,h.mo,M.cl,M.n2,gS _ _,⟨d.hp,d.dh,_,rfl,h.ho,oV _ _ (by ext),_,rfl,H0,d,m,k,_,fx,rfl,rfl,h,hf,ht,λu us hu jh=>?_⟩⟩
  right
  obtain⟨u0,us,rfl,h0,jh⟩:=zA jh
  obtain⟨u1,ks,rfl,h1,uZ⟩:=zA jh
  cases cK h0
  cases FZ h1
  refine⟨_,rfl,u,_,_,_,rfl,rfl,hu,qY (j:=0) rfl,_,rfl,d.m,d.C,d.dx,_,rfl,h.mo,M.cl,M.n5,bL _ _,?_⟩
  rw[show pl=((pl.toNat:Nat):Int) by lia,WY]
  have kt:=gT (K:=K) (gs:=z6 d {m with place:=pl.toNat}) h.mo
  have h2:=h.setM m.base pl.toNat m.st
  have uo:=kt _ _ hu
  have Sx:=qf.zb kt uZ
  have Sk:=qw.zb kt hf
  have Sv:=qw.zb kt hh
  show vC _ _ _ _ (upd H d.m (.ins d.C d.dx (z6 d {m with place:=pl.toNat})))
  generalize upd H d.m (.ins d.C d.dx (z6 d {m with place:=pl.toNat}))=H2 at h2 uo Sx Sk Sv⊢
  obtain⟨vs,hs,hd⟩:=h2.so
  have gR:vs.length=m.qI.length:=bB hd
  have yY:ks.length=kept.length:=by rw[uZ.length,za]
  have vq:m.qI.length+kept.length+(if rc=true then 1 else 0)+1<=Ms.yZ:=by
   have e:(hv::((if rc=true then[AV.at_ k]else[])++(kept.reverse++m.qI))).length=m.qI.length+kept.length+(if rc=true then 1 else 0)+1:=by cases rc<;>simp <;>lia
   rw[<-e];exact hl
  refine⟨_,rfl,d.m,d.C,d.dx,_,_,rfl,h2.mo,M.cl,M.n3,yI _ _,⟨.inl ⟨rfl,_,qp.of hs⟩,_,rfl,_,rfl,u,_,rfl,uo,qi3 _ _ _,λt ht=>?_⟩⟩
  rw[qi2]
  have g3:=qv.put (o:=.tup ks) ht
  have e3:=@qu H2 t (.tup ks)
  have h3:=h2.grow g3
  have Sw:=qb.mono g3.same uo
  have Sy:=Sx.mono g3.same
  have Su:=Sk.mono g3.same
  have So:=Sv.mono g3.same
  have vK:=g3.same _ _ hs
  have ZG:=hd.mono g3.same
  generalize upd H2 t (.tup ks)=H3 at g3 e3 h3 Sw Sy Su So vK ZG⊢
  refine⟨d.st,t,vs,ks,rfl,rfl,vK,qb.of e3,by unfold Ms.yZ at vq;rw[xt];lia,?_⟩
  have h4:=h3.cT (s:=kept.reverse++m.qI) (vs:=vs++ks) (by rw[qzA,List.reverse_reverse,kG];exact qf.append ZG Sy)
  have WS:=vh (K:=K) (ys:=vs++ks) vK
  have Si:=WS _ _ Sw
  have Sg:=qw.zb WS Su
  have WT:=qw.zb WS So
  show vC _ _ _ _ (upd H3 d.st (.lst (vs++ks)))
  generalize upd H3 d.st (.lst (vs++ks))=H4 at h4 Si Sg WT⊢
  have fin:∀(s5:List AV)(H5:Hp),s5=(if rc=true then[AV.at_ k]else[])++(kept.reverse++m.qI)->MS K H0 d {m with place:=pl.toNat,qI:=s5} H5->qw K H5 hv.dt hx->JV (pK K "list" nc (oS K (zO 0) "stack") (jQ (zO 2) xx)) {nx:=λ_ H'=>Q .qd H',rt:=Q} [some (.ref d.m),some fx,some hx,some (.ref u)] H5:=by
   intro s5 H5 e5 h5 hh5
   refine iN M h5 rfl ⟨_,rfl,gA (v:=hv) h5 hh5 ?_ λH' h'=>q H' ?_⟩
   ·show s5.length<sizeLine
    have :s5.length+1=(hv::((if rc=true then[AV.at_ k]else[])++(kept.reverse++m.qI))).length:=by rw[e5];rfl
    exact qir (by have :=hl;simp only at *;lia)
   ·subst e5;exact h'
  refine⟨_,rfl,u,_,_,_,rfl,rfl,Si,qY (j:=1) rfl,rc,rfl,?_⟩
  cases rc with
  |true=>
   refine zY (iN M h4 rfl ⟨_,rfl,?_⟩)
   obtain⟨vs4,ZL,gO⟩:=h4.so
   refine⟨d.st,vs4,fx,rfl,rfl,ZL,by rw[bB gO];show(kept.reverse++m.qI).length<_;unfold Ms.yZ at vq;rw[xt];simp at vq⊢;lia,?_⟩
   exact fin _ _ rfl (h4.cT (WI (v:=.at_ k) gO Sg)) (qw.zb (vh ZL) WT)
  |false=>exact qA (fin _ _ rfl h4 WT)
 ·cases he
structure Sn(mg:Str->Option zt):Prop where
 len:mg "len"=none
 most:∃t,mg "MOST_PENDING"=some (.int 40 t)
theorem qcl:qO p2 p2 (qK Wo):=by symm
theorem qcg(F:qJ K "call" "call" Wo .none f fd)(M:Mc K C)(G:Sn mg)(GE:⋯ 2 "enter" ["machine","function","handed"] (WR K C CH)):∅ 3 f fd p2 (yu K C CH λo=>o= .call):=by
 refine F.qB qcl (by grind) ?_
 omega
 obtain⟨H0,d,m,m',o,c,rfl,rfl,rfl,h,hc,rfl,hw,jq,hp,he,hl,q⟩:=h
 obtain⟨tm,mM⟩:=G.most
 refine⟨_,qc (qP (qM N8 (jZ wQ (by rfl) G.len xV (qx (qT (pv 0) rfl) qk)) (zf (v:=.int 40) (by rfl) mM ⟨tm,rfl⟩) (qR _)) (qc (xj (pv 0) qh rfl) (qg qjK)) zq)
  (qc (zG (jA jV vp vt vj (qT (pv 0) rfl) (qx (zR (qx (qT (pv 0) rfl) (qx (qT (pv 0) rfl) qk))) qk)))
  (qc (xj (pv 0) (jZ wQ (by rfl) G.len xV (qx (qT (pv 0) rfl) qk)) rfl)
  (qg (zG (zw GE hr (qx (pv 0) (qx (qU jH (qT (pv 0) rfl) (e9 Qx qe)) (qx (qU jH (qT (pv 0) rfl) (e9 Qx qe)) qk)))))))),?_⟩
 left
 obtain⟨ps,wI,uW⟩:=h.po
 have qH:ps.length=m.pend.length:=by rw[uW.length,za,ar]
 refine⟨_,rfl,d.m,d.C,d.dx,_,_,rfl,h.mo,M.cl,M.n6,WW _ _,⟨d.pd,ps,rfl,.inl (qp.of wI),_,_,rfl,rfl,_,rfl,?_⟩⟩
 simp only[Ms.exec]at he
 split at he
 ·rename_i h40
  cases he
  rw[vw (by lia)]
  exact zY (WG M h rfl .Ko λH' h'=>q d.st d.th H' h')
 ·rename_i h40
  rw[xn (by lia)]
  split at he
  ·rename_i hd k r hs
   refine qA (⟨_,rfl,d.m,d.C,d.dx,_,_,rfl,h.mo,M.cl,M.n6,WW _ _,⟨.inl ⟨rfl,_,qp.of wI⟩,⟨_,rfl,d.m,d.C,d.dx,_,_,rfl,h.mo,M.cl,M.n5,sA _ _,(⟨_,rfl,d.m,d.C,d.dx,_,_,rfl,h.mo,M.cl,M.n4,WV _ _,⟨jk,λt ht=>?_⟩⟩)⟩⟩⟩)
   have g1:=qv.put (o:=.tup [.int (m.place:Nat),.int (m.base:Nat)]) ht
   have e1:=@qu H t (.tup [.int (m.place:Nat),.int (m.base:Nat)])
   have h1:=h.grow g1
   have Sb:=g1.same _ _ wI
   have Sf:=uW.mono g1.same
   generalize upd H t (.tup [.int (m.place:Nat),.int (m.base:Nat)])=H1 at g1 e1 h1 Sb Sf⊢
   refine⟨d.pd,ps,_,rfl,rfl,Sb,by rw[xt];lia,?_⟩
   have h2:=h1.qic (s:=(m.place,m.base)::m.pend) (vs:=ps++[.ref t]) (by
    rw[mx,kG]
    exact qf.append Sf (zx (cV (qb.of e1) (zx (by rw[qw]) (zx (by rw[qw]) zp))) zp))
   show vC _ _ _ _ (upd H1 d.pd (.lst (ps++[.ref t])))
   generalize upd H1 d.pd (.lst (ps++[.ref t]))=H2 at h2⊢
   obtain⟨vs,hsv,X9⟩:=h2.so
   refine⟨_,rfl,d.m,d.C,d.dx,_,_,rfl,h2.mo,M.cl,M.n3,yI _ _,⟨d.st,vs,rfl,.inl (qp.of hsv),_,rfl,d.m,d.C,d.dx,_,rfl,h2.mo,M.cl,M.n4,bL _ _,?_⟩⟩
   rw[bB X9,qiu]
   have h3:=h2.setM m.qI.length m.place m.st
   show Ends.nx _ _ (upd H2 d.m (.ins d.C d.dx (z6 d {m with pend:=(m.place,m.base)::m.pend,base:=m.qI.length})))
   generalize upd H2 d.m (.ins d.C d.dx (z6 d {m with pend:=(m.place,m.base)::m.pend,base:=m.qI.length}))=H3 at h3⊢
   obtain⟨vs3,vK,ZG⟩:=h3.so
   have Sh:=ZG
   rw[show({m with pend:=(m.place,m.base)::m.pend,base:=m.qI.length,place:=m.place,st:=m.st}:Ms).qI=hd::AV.at_ k::r from hs]at Sh
   obtain⟨ws,hx,rfl,hhx,cE⟩:=bG Sh
   obtain⟨ws2,fx,rfl,nS,b9⟩:=bG cE
   refine⟨_,rfl,⟨_,rfl,d.m,d.C,d.dx,_,_,rfl,h3.mo,M.cl,M.n3,yI _ _,⟨_,rfl,d.st,_,_,fx,rfl,rfl,qp.of vK,by rw[NA];exact qcy ws2 fx hx,⟨_,rfl,d.m,d.C,d.dx,_,_,rfl,h3.mo,M.cl,M.n3,yI _ _,⟨_,rfl,d.st,_,_,hx,rfl,rfl,qp.of vK,Qi _ hx,?_⟩⟩⟩⟩⟩
   exact⟨H0,d,_,m',k,hd,fx,hx,rfl,rfl,rfl,h3,nS,hhx,he,hl,λH' h'=>q d.st d.th H' h'⟩
  ·cases he
theorem WA:qO ["machine","order","handed","function"] p2 (qK Wi):=by symm
theorem qcf(F:qJ K "last_call" "last_call" Wi .none f fd)(M:Mc K C)(GC:⋯ 1 "cut_stack" ["machine","height"] (WD K C))(GE:⋯ 2 "enter" ["machine","function","handed"] (WR K C CH)):∅ 3 f fd p2 (yu K C CH λo=>o= .last):=by
 refine F.qB WA (by grind) ?_
 omega
 obtain⟨H0,d,m,m',o,c,rfl,rfl,rfl,h,hc,rfl,hw,jq,hp,he,hl,q⟩:=h
 refine⟨_,qc (qC (i:=2) WA.nd rfl oI (yE jV yG yM uq (qT (pv 0) rfl)))
  (qc (qC (i:=3) WA.nd rfl oI (yE jV yG yM uq (qT (pv 0) rfl)))
  (qc (zG (zw GC (hr.mono (by lia)) (qx (pv 0) (qx (qT (pv 0) rfl) qk))))
  (qg (zG (zw GE hr (qx (pv 0) (qx (pv 3) (qx (pv 2) qk)))))))),?_⟩
 left
 simp only[Ms.exec]at he
 split at he
 ·rename_i hd k r hs
  refine ZW M h rfl hs λy H1 hy h1=>?_
  right
  refine RP M h1 rfl rfl hy λz H2 hz h2 tK=>?_
  right
  refine⟨_,rfl,⟨_,rfl,d.m,d.C,d.dx,_,_,rfl,h2.mo,M.cl,M.n4,WV _ _,⟨H0,d,_,m.base,rfl,rfl,h2,λH3 Zz h3=>?_⟩⟩⟩
  exact⟨_,rfl,_,rfl,_,rfl,H0,d,_,m',k,hd,z,y,rfl,rfl,rfl,h3,qw.zb Zz hz,qw.zb Zz tK,he,hl,λH' h'=>q d.st d.th H' h'⟩
 ·cases he
theorem Ss:qO ["machine","order","value","went_on"] p2 (qK Wl):=by symm
theorem qch(F:qJ K "tell" "tell" Wl .none f fd)(M:Mc K C)(GC:⋯ 1 "cut_stack" ["machine","height"] (WD K C)):∅ 2 f fd p2 (yu K C CH λo=>o= .tell):=by
 refine F.qB Ss (by grind) ?_
 omega
 obtain⟨H0,d,m,m',o,c,rfl,rfl,rfl,h,hc,rfl,hw,jq,hp,he,hl,q⟩:=h
 refine⟨_,qc (qC (i:=2) Ss.nd rfl oI (yE jV yG yM uq (qT (pv 0) rfl)))
  (qc (qP (JH (qT (pv 0) rfl) (λ_=>rfl))
   wg
   (qc (zG (zw GC hr (qx (pv 0) (qx qe qk)))) (qg (xj (pv 0) qh rfl))))
  (qg (zG (jA jV vp vt vj (qT (pv 0) rfl) (qx (pv 2) qk))))),?_⟩
 left
 simp only[Ms.exec]at he
 split at he
 ·rename_i v r hs
  have uV:r.length<sizeLine:=by have :=cA hw;rw[hs]at this;exact u4 this
  refine ZW M h rfl hs λy H1 hy h1=>?_
  right
  obtain⟨ps,wI,uW⟩:=h1.po
  split at he
  ·cases he
  ·rename_i hpe
   cases he
   have qcr:ps=[]:=by
    have :=uW
    rw[show({m with qI:=r}:Ms).pend=[]from hpe]at this
    exact kY this
   subst qcr
   refine⟨_,rfl,d.m,d.C,d.dx,_,_,rfl,h1.mo,M.cl,M.n6,WW _ _,⟨false,.inl ⟨_,qp.of wI,rfl⟩,qA ?_⟩⟩
   refine⟨_,rfl,H0,d,_,0,rfl,rfl,h1,λH2 WH h2=>?_⟩
   have tK:=qw.zb WH hy
   refine qis M h2 rfl .done tK λH3 h3 hy3=>?_
   refine iN M h3 rfl ⟨_,rfl,gA (v:=v) h3 hy3 ?_ λH' h'=>q d.st d.th H' ?_⟩
   ·show(Ms.cut r 0).length<_
    unfold Ms.cut;rw[DD];lia
   ·have e:Ms.cut r 0=[]:=by unfold Ms.cut;simp
    rw[e]at h'
    exact h'
 ·cases he
end
theorem WE(x:Sd):decide (V.str x.str=V.str "running")=decide (x= .running):=by cases x<;>ext
theorem ww:∀x∈(["put","nil","get","cons","pair","head","tail","first","second","empty","not","plus","minus","times","over","rest","less","same","fn","rec","call","last call","unless"]:List Str),kX (.str x) [.str "tell",.str "skip",.str "slide"]=false:=by ext
theorem qct:∀x∈(["tell","skip","slide"]:List Str),kX (.str x) [.str "tell",.str "skip",.str "slide"]=true:=by ext
theorem qca{o:zX}(h:o.ok):kX (.str o.wd) [.str "tell",.str "skip",.str "slide"]=Ms.Kc o:=by
 cases o with
 |take x i=>
  have h':(x,i)∈([("head",0),("tail",1)]:List (Str×Nat)):=h
  simp only[js,xa,ii,G']at h'
  rcases h' with⟨rfl,_⟩|⟨rfl,_⟩
  ·exact ww "head" (by ext)
  ·exact ww "tail" (by ext)
 |make s=>
  cases s
  ·exact ww "cons" (by ext)
  ·exact ww "pair" (by ext)
  ·exact ww "cons" (by ext)
 |sum s=>
  cases s
  ·exact ww "plus" (by ext)
  ·exact ww "over" (by ext)
 |func rc k l=>
  cases rc
  ·exact ww "fn" (by ext)
  ·exact ww "rec" (by ext)
 |tell=>exact qct "tell" (by ext)
 |num n=>exact ww "put" (by ext)
 |zI n=>exact ww "put" (by ext)
 |nil=>exact ww "nil" (by ext)
 |get n=>exact ww "get" (by ext)
 |call=>exact ww "call" (by ext)
 |last=>exact ww "last call" (by ext)
section
variable {base:ll} {fF fC fM:jp} {Sa fdC mz:ol}
inductive qce(K:Fg)(C:jp)(CH:jp)(vs:List V)(H:Hp)(Q:VK):Prop
 |mk (H0:Hp) (d:Ad) (m:Ms) (m':Ms) (qQ:vs=[.ref d.m]) (qZ:d.C=C) (qV:d.CH=CH) (qG:MS K H0 d m H) (zm:m.Wf) (je:m.st= .running) (kc:m.ow=some m') (uu:∀a b H',jt K H H'->MS K H0 (d.mv a b) m' H'->Q (.bl (decide (m'.st= .running))) H')
def W0(K:Fg)(C CH:jp):Sp:=λvs H Q zh=>qce K C CH vs H Q
theorem qcQ:qO ["machine"] ["machine"] (qK Wk):=by symm
theorem qcZ{k:Nat}(F:qJ K "has_room" "has_room" Wk .none f fd)(M:Mc K C)(N:Hc K CH)(mF:Meth K CH "is_full" fF)(GF:∅ 1 fF Sa ["self"] (tQ K CH λm=>.bl (decide (m.room<=m.things.length))))(bF:Binds K Sa ["self"] []):∅ (k+2) f fd ["machine"] (W0 K C CH):=by
 refine F.qB qcQ (by grind) ?_
 omega
 obtain⟨H0,d,m,m',rfl,rfl,rfl,h,hw,jq,he,q⟩:=h
 have iM:=hr.mono (show 1<=k+1 by lia)
 refine⟨_,qc (qP (ku (we (qT (pv 0) rfl) N.cl mF GF iM bF .nil z8)) wg zq)
  (qc (qP (ku (we (qT (pv 0) rfl) N.cl mF GF iM bF .nil z8)) wg zq)
  (qg (qW (ki jb (qT (pv 0) rfl) qh (qR _))))),?_⟩
 left
 unfold Ms.ow at he
 by_cases z:m.room<=m.things.length
 ·rw[vb z]at he;cases he
 ·rw[ke z]at he
  cases he
  refine⟨_,rfl,d.m,d.C,d.dx,_,_,rfl,h.mo,M.cl,M.n2,gS _ _,⟨d.hp,d.dh,_,rfl,h.ho,oV _ _ (by ext),H0,d,m,rfl,rfl,h,_,rfl,?_⟩⟩
  rw[xn z]
  refine qA ⟨_,rfl,d.m,d.C,d.dx,_,_,rfl,h.mo,M.cl,M.n2,gS _ _,⟨d.hp,d.dh,_,rfl,h.ho,oV _ _ (by ext),H0,d,m,rfl,rfl,h,_,rfl,?_⟩⟩
  rw[xn z]
  refine qA ⟨_,rfl,d.m,d.C,d.dx,_,_,rfl,h.mo,M.cl,M.n7,bO _ _,⟨rfl,?_⟩⟩
  rw[WE]
  exact q d.st d.th H (λ_ _ h=>h) h
inductive qcJ(K:Fg)(C:jp)(CH:jp)(vs:List V)(H:Hp)(Q:VK):Prop
 |mk (H0:Hp) (d:Ad) (m:Ms) (m':Ms) (x:oj) (qQ:vs=[.ref d.m,.str x.str]) (qZ:d.C=C) (qV:d.CH=CH) (qG:MS K H0 d m H) (zm:m.Wf) (je:m.st= .running) (kc:m.exec (.make x)=some m') (uu:∀a b H',MS K H0 (d.mv a b) m' H'->Q .qd H')
def W2(K:Fg)(C CH:jp):Sp:=λvs H Q zh=>qcJ K C CH vs H Q
theorem Se(h:m.Wg)(e:m.ow=some m')(hs:m'.st= .running):m'.things.length<m'.room:=by
 unfold Ms.ow at e
 split at e
 ·cases e
 ·cases e;lia
theorem W3:qO ["machine","sort","second","first"] ["machine","sort"] (qK Wy):=by symm
theorem qcX{k:Nat}(F:qJ K "make_of_two" "make_of_two" Wy .none f fd)(M:Mc K C)(N:Hc K CH)(GR:⋯ (k+2) "has_room" ["machine"] (W0 K C CH))(mM:Meth K CH "make" fM)(GM:∅ 2 fM mz ["self","sort","held"] (WM K CH))(bM:Binds K mz ["self","sort","held"] []):∅ (k+3) f fd ["machine","sort"] (W2 K C CH):=by
 refine F.qB W3 (by grind) ?_
 omega
 obtain⟨H0,d,m,m',x,rfl,rfl,rfl,h,hw,jq,he,q⟩:=h
 have yw:=hr.mono (show 2<=k+2 by lia)
 refine⟨_,qg (qP (ku (zw GR hr (qx (pv 0) qk)))
  (qc (qC (i:=2) W3.nd rfl oI (yE jV yG yM uq (qT (pv 0) rfl)))
  (qc (qC (i:=3) W3.nd rfl oI (yE jV yG yM uq (qT (pv 0) rfl)))
  (qg (zG (jA jV vp vt vj (qT (pv 0) rfl) (qx (iA (qT (pv 0) rfl) N.cl mM GM yw bM .nil z8 (qx (pv 1) (qx (zQ (qx (pv 3) (qx (pv 2) qk))) qk))) qk)))))) zq),?_⟩
 left
 obtain⟨m1,e1,he⟩:=jU.mp he
 obtain⟨_,lk,uV,_⟩:=Ms.ZY hw.g e1
 refine⟨_,rfl,H0,d,m,m1,rfl,rfl,rfl,h,hw,jq,e1,λa b H1 kt h1=>⟨_,rfl,?_⟩⟩
 have M1:Mc K (d.mv a b).C:=M
 by_cases z:m1.st= .running
 ·rw[vb z]at he
  rw[vw z]
  split at he
  ·rename_i y2 y1 r hs
   cases he
   have jM:=Se hw.g e1 z
   have vo:r.length<sizeLine:=by have :=cA hw;rw[<-uV,hs]at this;exact u4 (u4 this)
   refine zY (ZW (d:=d.mv a b) M1 h1 rfl hs λu2 H2 uo h2=>?_)
   right
   refine RP (d:=d.mv a b) M1 h2 rfl rfl uo λu1 H3 wA h3 uo=>?_
   right
   refine iN (d:=d.mv a b) M1 h3 rfl (⟨_,rfl,(d.mv a b).m,(d.mv a b).C,(d.mv a b).dx,_,_,rfl,h3.mo,M.cl,M.n2,gS _ _,⟨d.hp,d.dh,_,rfl,h3.ho,oV _ _ (by ext),_,rfl,_,rfl,_,rfl,jk,λl hl=>?_⟩⟩)
   have g4:=qv.put (o:=.lst [u1,u2]) hl
   have e4:=@qu H3 l (.lst [u1,u2])
   have h4:=h3.grow g4
   have SQ:=wA.mono g4.same
   have SJ:=uo.mono g4.same
   generalize upd H3 l (.lst [u1,u2])=H4 at g4 e4 h4 SQ SJ⊢
   refine⟨H0,d.mv a b,_,x,l,[y1,y2],_,rfl,rfl,h4,e4,zx SQ (zx SJ zp),jM,by show m1.room<=1000;rw[lk.room];exact hw.rm,λu H5 _ h5 hu=>?_⟩
   exact gA (d:=d.mv a b) (v:=.at_ m1.things.length) h5 hu vo λH' h'=>q a b H' h'
  ·cases he
 ·rw[ke z]at he
  cases he
  rw[xn z]
  exact qA (q a b H1 h1)
theorem qcK:qO p2 p2 (qK Wv):=by symm
theorem qcV:qO p2 p2 (qK Ww):=by symm
theorem qcW{k:Nat}(F:qJ K "make_cell" "make_cell" Wv .none f fd)(GT:⋯ (k+3) "make_of_two" ["machine","sort"] (W2 K C CH)):∅ (k+4) f fd p2 (yu K C CH λo=>o= .make .cell):=by
 refine F.qB qcK (by grind) ?_
 omega
 obtain⟨H0,d,m,m',o,c,rfl,rfl,rfl,h,hc,rfl,hw,jq,hp,he,hl,q⟩:=h
 refine⟨_,qg (zG (zw GT hr (qx (pv 0) (qx qh qk)))),?_⟩
 left
 exact⟨_,rfl,H0,d,m,m',.cell,rfl,rfl,rfl,h,hw,jq,he,q⟩
theorem qcY{k:Nat}(F:qJ K "make_pair" "make_pair" Ww .none f fd)(GT:⋯ (k+3) "make_of_two" ["machine","sort"] (W2 K C CH)):∅ (k+4) f fd p2 (yu K C CH λo=>o= .make .pair):=by
 refine F.qB qcV (by grind) ?_
 omega
 obtain⟨H0,d,m,m',o,c,rfl,rfl,rfl,h,hc,rfl,hw,jq,hp,he,hl,q⟩:=h
 refine⟨_,qg (zG (zw GT hr (qx (pv 0) (qx qh qk)))),?_⟩
 left
 exact⟨_,rfl,H0,d,m,m',.pair,rfl,rfl,rfl,h,hw,jq,he,q⟩
end
section
variable {base:ll} {fM fO:jp} {mz fdO:ol}
theorem qcO(rc:Bool):decide (V.str (if rc then"rec" else"fn")=V.str "rec")=rc:=by cases rc<;>ext
theorem SX{α β:Type}{g:α->Option β}:∀{l:List α}{r:List β},l.mapM g=some r->∀{i:Nat}{a:α},l[i]? =some a->∃b,r[i]? =some b/\g a=some b
 |[],r,h,i,a,ha=>by simp at ha
 |x::l,r,h,i,a,ha=>by
  rw[qqA]at h
  obtain⟨y,hy,h⟩:=jU.mp h
  obtain⟨ys,hys,h⟩:=jU.mp h
  have :r=y::ys:=(xb h).symm
  subst this
  cases i with
  |zero=>
   have e:x=a:=by simpa using ha
   subst e
   exact⟨y,rfl,hy⟩
  |succ i=>simpa using SX hys (i:=i) (a:=a) (by simpa using ha)
theorem SK:qO ["machine","order","kept"] p2 (qK Wu):=by symm
theorem qcC{k:Nat}(F:qJ K "make_function" "make_function" Wu .none f fd)(M:Mc K C)(N:Hc K CH)(GR:⋯ (k+2) "has_room" ["machine"] (W0 K C CH))(GI:⋯ 1 "in_slot" ["machine","slot"] (ZO K C))(mM:Meth K CH "make" fM)(GM:∅ 2 fM mz ["self","sort","held"] (WM K CH))(bM:Binds K mz ["self","sort","held"] []):∅ (k+3) f fd p2 (yu K C CH λo=>∃rc ks n,o= .func rc ks n/\ks.length<=50000):=by
 refine F.qB SK (by grind) ?_
 omega
 obtain⟨H0,d,m,m',o,c,rfl,rfl,rfl,h,hc,⟨rc,ks,n,rfl,hsz⟩,hw,jq,hp,he,hl,q⟩:=h
 have yw:=hr.mono (show 2<=k+2 by lia)
 have uh:((["slot"]:List Str)++(["machine"]:List Str)).Nodup:=by ext
 obtain⟨ca,us,rfl,yC,jh⟩:=mq hc
 obtain⟨u0,us,rfl,vS,jh⟩:=zA jh
 obtain⟨u1,us,rfl,wA,jh⟩:=zA jh
 cases kY jh
 cases cK wA
 obtain⟨ka,kv,rfl,hka,gX⟩:=cX vS
 refine⟨_,qg (qP (ku (zw GR hr (qx (pv 0) qk)))
  (qc (qv5 (i:=2) SK.nd rfl oI (QB (own:=["slot"]) (y:="machine") (i:=0) (by rfl) (by ext) (by rfl) (by ext) (by rfl) (by ext) (by rfl) (.inl (by rfl)) (by rfl) (by ext)) rfl (JC (qU zc (pv 1) qe))
   (λC s H fp pins=>zw GI (hr.mono (by lia)) (qx (pv 1) (qx (pv 0) qk))) (λC s H fp pins=>xU (i:=0) uh rfl oI (Or.inr (by rfl))) (by rfl) oI)
  (qc (zG (jA jV vp vt vj (qT (pv 0) rfl) (qx (iA (qT (pv 0) rfl) N.cl mM GM yw bM .nil z8 (qx qh (qx (zV j4 (zQ (qx (qT (pv 0) rfl) (qx (ki jb (qU zc (pv 1) qe) qh (qR _)) qk))) (pv 2)) qk))) qk)))
  (qg (J6 (pv 0) (qU zc (pv 1) qe) J8)))) zq),?_⟩
 left
 obtain⟨m1,e1,he⟩:=jU.mp he
 obtain⟨w1,lk,uV,qH⟩:=Ms.ZY hw.g e1
 refine⟨_,rfl,H0,d,m,m1,rfl,rfl,rfl,h,hw,jq,e1,λa b H1 kt h1=>⟨_,rfl,?_⟩⟩
 have M1:Mc K (d.mv a b).C:=M
 have SV:=kt _ _ yC
 have SW:=kt _ _ hka
 by_cases z:m1.st= .running
 ·rw[vb z]at he
  rw[vw z]
  obtain⟨vs,ZU,he⟩:=ve.mp he
  subst he
  have jM:=Se hw.g e1 z
  have yY:kv.length=ks.length:=by rw[gX.length,za]
  have gR:vs.length=ks.length:=Ms.RE ZU
  have uZ:∀(i:Nat)(x:V),kv[i]? =some x->∃k,ks[i]? =some k/\x=V.int (k:Nat):=by
   intro i x hx
   have hi:i<ks.length:=by rw[<-yY];exact(km.mp hx).1
   obtain⟨y,Vh,tK⟩:=gX.get (i:=i) (d:=Dt.int (ks[i]:Nat)) (by rw[xH,jm hi];rfl)
   rw[hx]at Vh;cases Vh
   exact⟨ks[i],jm hi,cK tK⟩
  refine zY ⟨_,rfl,ca,_,_,_,rfl,rfl,SV,qY (j:=1) rfl,ka,rfl,⟨_,SW⟩,λD0 kr=>?_⟩
  have gD:=qv.put (o:=.lst []) kr
  refine qwO (K:=K) (a:=ka) (xs:=kv) (te:=yR (ZO K d.C) [] E0 (jQ (zO 1) (jQ (zO 0) xx))) (ix:=[0]) (σ:=[some (.ref d.m),some (.ref ca),none])
   (λi zs H6=>qv H1 H6/\H6 D0=some (.lst zs)/\qf K H6 ((vs.take i).map AV.dt) zs) ?_ ?_ ?_ ?_
  ·exact⟨gD,qu,zp⟩
  ·rintro i zs H6 _ ⟨g6,_⟩
   exact qb.mono g6.same SW
  ·rintro i x zs H6 hx ⟨g6,eD,wJ⟩ Q' hq
   obtain⟨k',rA,rfl⟩:=uZ i x hx
   obtain⟨v,uQ,v7⟩:=SX ZU rA
   have hi:i<vs.length:=(km.mp uQ).1
   refine⟨_,rfl,_,rfl,H0,d.mv a b,m1,k',v,rfl,rfl,h1.grow g6,v7,λy hy=>?_⟩
   have gU:zs.length=i:=by rw[wJ.length,za,i3];lia
   refine hq y H6 eD (by rw[xt];lia) ⟨g6.set kr,qu,?_⟩
   have k7:=vh (K:=K) (ys:=zs++[y]) eD
   rw[my,uQ,kG]
   exact qf.append (qf.zb k7 wJ) (zx (qw.zb k7 hy) zp)
  ·rintro zs H6 ⟨g6,eD,wJ⟩
   rw[yY,<-gR,yA (qL _)]at wJ
   right
   have h6:=h1.grow g6
   have SY:=qb.mono g6.same SV
   refine iN (d:=d.mv a b) M1 h6 rfl (⟨_,rfl,(d.mv a b).m,(d.mv a b).C,(d.mv a b).dx,_,_,rfl,h6.mo,M.cl,M.n2,gS _ _,⟨d.hp,d.dh,_,rfl,h6.ho,oV _ _ (by ext),⟨_,rfl,(d.mv a b).m,(d.mv a b).C,(d.mv a b).dx,_,_,rfl,h6.mo,M.cl,M.n5,sA _ _,⟨_,rfl,ca,_,_,_,rfl,rfl,SY,qY (j:=0) rfl,rfl,jk,λl wx=>?_⟩⟩⟩⟩)
   have erc:decide (V.str (zX.func rc ks n).wd=V.str "rec")=rc:=qcO rc
   rw[erc]
   have g7:=qv.put (o:=.lst [.int (m1.place:Nat),.bl rc]) wx
   have e7:=@qu H6 l (.lst [.int (m1.place:Nat),.bl rc])
   have SO:=g7.same _ _ eD
   have h7:=h6.grow g7
   have SI:=wJ.mono g7.same
   have SG:=qb.mono g7.same SY
   generalize upd H6 l (.lst [.int (m1.place:Nat),.bl rc])=H7 at g7 e7 SO h7 SI SG⊢
   have gU:zs.length=ks.length:=by rw[wJ.length,za,gR]
   refine⟨_,rfl,l,D0,_,_,rfl,rfl,e7,SO,by rw[xt];simp;lia,λl2 vo=>?_⟩
   have g8:=qv.put (o:=.lst ([.int (m1.place:Nat),.bl rc]++zs)) vo
   have e8:=@qu H7 l2 (.lst ([.int (m1.place:Nat),.bl rc]++zs))
   have h8:=h7.grow g8
   have SM:=SI.mono g8.same
   have SN:=qb.mono g8.same SG
   generalize upd H7 l2 (.lst ([.int (m1.place:Nat),.bl rc]++zs))=H8 at g8 e8 h8 SM SN⊢
   refine⟨H0,d.mv a b,m1,.fn,l2,.int m1.place:: .bl rc::vs,_,rfl,rfl,h8,e8,zx (by show qw K H8 (.int _) _;rw[qw]) (zx (by show qw K H8 (.bl _) _;rw[qw]) SM),jM,by rw[lk.room];exact hw.rm,λu H9 k9 h9 hu=>?_⟩
   refine qin (d:=d.mv a b) (v:=.at_ m1.things.length) h9 hu (by show m1.qI.length<_;rw[uV];exact cA hw) λcy k10 SD=>?_
   have qcN:=k10 _ _ (k9 _ _ SN)
   exact R4 (d:=d.mv a b) M1 SD rfl ⟨_,rfl,ca,_,_,_,rfl,rfl,qcN,qY (j:=2) rfl,qit (d:=d.mv a b) SD n λH' h'=>q a b H' h'⟩
 ·rw[ke z]at he
  cases he
  rw[xn z]
  exact qA (q a b H1 h1)
end
structure SH(P:cv)(w:fe)(K:Fg)(mg:Str->Option zt)(base:ll)(C CH:jp)(n:Nat):Prop where
 tab:∃a D,mg "ORDERS"=some (.ref a)/\kE K a D/\∀o:zX,o.ok->∃(f:jp)(fd:ol)(k:Nat)(B:zX->Prop),k<=n/\xl o.wd D=some (.ref f)/\B o/\∅ k f fd p2 (yu K C CH B)/\PySem.W.keepIn K (.ref f)=true/\Binds K fd p2 []
section
variable {base:ll} {fM fO:jp} {mz fdO:ol}
theorem SR:qO ["machine","order"] ["machine"] (qK V5):=by symm
inductive qcB(K:Fg)(C:jp)(CH:jp)(vs:List V)(H:Hp)(Q:VK):Prop
 |mk (H0:Hp) (d:Ad) (m:Ms) (m':Ms) (qQ:vs=[.ref d.m]) (qZ:d.C=C) (qV:d.CH=CH) (qG:MS K H0 d m H) (zm:m.Wf) (je:m.st= .running) (kc:m.order=some m') (uu:∀a b H',MS K H0 (d.mv a b) m' H'->Q .qd H')
def SS(K:Fg)(C CH:jp):Sp:=λvs H Q zh=>qcB K C CH vs H Q
theorem qcD(F:qJ K "do_order" "do_order" V5 .none f fd)(M:Mc K C)(O:SH P w K mg base C CH n):∅ (n+1) f fd ["machine"] (SS K C CH):=by
 refine F.qB SR (by grind) ?_
 omega
 obtain⟨H0,d,m,m',rfl,rfl,rfl,h,hw,jq,he,q⟩:=h
 obtain⟨ta,D,mT,T,hT⟩:=O.tab
 obtain⟨o,ho,hx,hl⟩:=Ms.R3 he
 have qt:=hw.bD o (kM ho)
 obtain⟨g,xy,k,B,hk,hD,hB,G,kp,bd⟩:=hT o qt
 refine⟨_,qc (qC (i:=1) SR.nd rfl oI (qU jH (qT (pv 0) rfl) (qT (pv 0) rfl)))
  (qc (J6 (pv 0) qe J8)
  (qg (zG (gj (CX:=zJ P w) (qU ux (zf (v:=.ref ta) (by rfl) mT rfl) (qU zc (pv 1) qe)) (qx (pv 0) (qx (pv 1) qk)))))),?_⟩
 left
 obtain⟨cs,iE,xT⟩:=h.lo
 obtain⟨c,vY,xQ⟩:=xT.get (i:=m.place) (d:=o.dt) (by rw[xH,ho];rfl)
 refine⟨_,rfl,d.m,d.C,d.dx,_,_,rfl,h.mo,M.cl,M.n1,RN _ _,(⟨_,rfl,d.m,d.C,d.dx,_,_,rfl,h.mo,M.cl,M.n5,sA _ _,⟨d.l,cs,_,c,rfl,rfl,qp.of iE,qY vY,?_⟩⟩)⟩
 right
 refine R4 M h rfl ?_
 have kt:=gT (K:=K) (gs:=z6 d {m with place:=m.place+1}) h.mo
 refine⟨_,_,rfl,rfl,d.dx,_,h.mo,bL _ _,?_⟩
 rw[show((m.place:Int)+1)=((m.place+1:Nat):Int) by lia,WY]
 have h1:=h.setM m.base (m.place+1) m.st
 have uK:=qw.zb kt xQ
 show Ends.nx _ _ (upd H d.m (.ins d.C d.dx (z6 d {m with place:=m.place+1})))
 generalize upd H d.m (.ins d.C d.dx (z6 d {m with place:=m.place+1}))=H1 at h1 uK⊢
 have hc4:=uK
 obtain⟨ca,us,rfl,yC,jh⟩:=mq uK
 refine⟨_,rfl,ca,_,_,_,rfl,rfl,yC,qY (j:=0) rfl,_,ta,D,_,rfl,rfl,T,hD,?_⟩
 refine⟨g,xy,_,_,[],[],E0,k,rfl,G,hr.mono hk,kp,bd,.nil,z8,?_⟩
 have qH:m.place<m.code.length:=(km.mp ho).1
 exact⟨_,rfl,_,rfl,H0,d,_,m',o,_,rfl,rfl,rfl,h1,hc4,hB,⟨hw.hs,hw.iv,hw.it,hw.bD,hw.cl,hw.rm,hw.tr⟩,jq,by have :=hw.cl;show m.place+1<=_;lia,hx,hl,q⟩
theorem qcH:qO ["machine"] ["machine"] (qK V4):=by symm
inductive qcP(K:Fg)(C:jp)(CH:jp)(vs:List V)(H:Hp)(Q:VK):Prop
 |mk (H0:Hp) (d:Ad) (m:Ms) (m':Ms) (zg:Nat) (qQ:vs=[.ref d.m]) (qZ:d.C=C) (qV:d.CH=CH) (qG:MS K H0 d m H) (zm:m.Wf) (je:m.st= .running) (kc:m.step zg=some m') (uu:∀a b H',MS K H0 (d.mv a b) m' H'->Q .qd H')
def SA(K:Fg)(C CH:jp):Sp:=λvs H Q zh=>qcP K C CH vs H Q
theorem qcR(F:qJ K "do_step" "do_step" V4 .none f fd)(M:Mc K C)(zE:∃a,mg "ENDING_ORDERS"=some (.ref a)/\∀H,qb K H a [.str "tell",.str "skip",.str "slide"])(GO:⋯ (n+1) "do_order" ["machine"] (SS K C CH)):∅ (n+2) f fd ["machine"] (SA K C CH):=by
 refine F.qB qcH (by grind) ?_
 omega
 obtain⟨H0,d,m,m',zg,rfl,rfl,rfl,h,hw,jq,he,q⟩:=h
 obtain⟨te,mE,sE⟩:=zE
 refine⟨_,qc (zG (zw GO hr (qx (pv 0) qk)))
  (qg (lO i4 (lY (qM jb (qT (pv 0) rfl) qh (qR _)) (lW (qM ni (qU zc (qU jH (qT (pv 0) rfl) (qT (pv 0) rfl)) qe) (zf (v:=.ref te) (by rfl) mE rfl) rfl))).pt
   (qg (zG (zw GO hr (qx (pv 0) qk)))))),?_⟩
 left
 obtain⟨m1,e1,he⟩:=jU.mp he
 obtain⟨cE,_⟩:=hw.order e1
 refine⟨_,rfl,H0,d,m,m1,rfl,rfl,rfl,h,hw,jq,e1,λa b H1 h1=>?_⟩
 refine⟨λj σ H'=>σ=[some (.ref d.m)]/\∃(a b:jp)(mc:Ms),MS K H0 (d.mv a b) mc H'/\mc.Wf/\Ms.ends j mc=some m',⟨zg,rfl,a,b,m1,h1,cE,he⟩,?_⟩
 rintro j σ H2 ⟨rfl,a,b,mc,h2,b9,yo⟩
 have M1:Mc K (d.mv a b).C:=M
 cases j with
 |zero=>cases yo
 |succ j=>
  rw[Ms.ends]at yo
  refine⟨_,rfl,(d.mv a b).m,(d.mv a b).C,(d.mv a b).dx,_,_,rfl,h2.mo,M.cl,M.n7,bO _ _,⟨rfl,_,rfl,?_⟩⟩
  rw[WE]
  by_cases z:mc.st= .running
  ·rw[vb z]at yo
   rw[vw z]
   obtain⟨o,ho,yo⟩:=jU.mp yo
   obtain⟨cs,iE,xT⟩:=h2.lo
   obtain⟨c,vY,xQ⟩:=xT.get (i:=mc.place) (d:=o.dt) (by rw[xH,ho];rfl)
   obtain⟨ca,us,rfl,yC,jh⟩:=mq xQ
   refine zY (⟨_,rfl,(d.mv a b).m,(d.mv a b).C,(d.mv a b).dx,_,_,rfl,h2.mo,M.cl,M.n1,RN _ _,(⟨_,rfl,(d.mv a b).m,(d.mv a b).C,(d.mv a b).dx,_,_,rfl,h2.mo,M.cl,M.n5,sA _ _,⟨d.l,cs,_,_,rfl,rfl,qp.of iE,qY vY,ca,_,_,_,rfl,rfl,yC,qY (j:=0) rfl,te,_,rfl,.inr (sE H2),rfl,rfl,_,rfl,?_⟩⟩)⟩)
   rw[ke (c:=false=true) (by decide),qca (b9.bD o (kM ho))]
   by_cases z2:Ms.Kc o=true
   ·rw[vb z2]at yo
    rw[z2]
    obtain⟨m3,e3,he3⟩:=jU.mp yo
    obtain⟨hw3,_⟩:=b9.order e3
    refine zY ⟨λσ' H'=>σ'=[some (.ref d.m)]/\∃(a b:jp),MS K H0 (d.mv a b) m3 H',λσ' H'⟨y1,a',b',y2⟩=>⟨j,by lia,y1,a',b',m3,y2,hw3,he3⟩,?_⟩
    exact⟨_,rfl,H0,d.mv a b,mc,m3,rfl,rfl,rfl,h2,b9,z,e3,λa' b' H' h'=>⟨rfl,a',b',h'⟩⟩
   ·rw[ke z2]at yo
    cases yo
    rw[cw.mpr z2]
    exact qA (q a b H2 h2)
  ·rw[ke z]at yo
   cases yo
   rw[xn z]
   exact qA (qA (q a b H2 h2))
theorem SE{m':Ms}:∀{zg:Nat}{m:Ms},m.Wf->Ms.ends zg m=some m'->m'.Wf
 |0,m,_,h=>by cases h
 |n+1,m,hw,h=>by
  rw[Ms.ends]at h
  split at h
  ·obtain⟨o,ho,h⟩:=jU.mp h
   split at h
   ·obtain⟨m2,e2,h⟩:=jU.mp h
    exact SE (hw.order e2).1 h
   ·cases h;exact hw
  ·cases h;exact hw
theorem qcA{zg:Nat}(hw:m.Wf)(he:m.step zg=some m'):m'.Wf:=by
 obtain⟨m1,e1,h⟩:=jU.mp he
 exact SE (hw.order e1).1 h
theorem W4:qO ["self","steps","left"] ["self","steps"] (qK WJ):=by symm
inductive qcE(K:Fg)(C:jp)(CH:jp)(vs:List V)(H:Hp)(Q:VK):Prop
 |mk (H0:Hp) (d:Ad) (m:Ms) (m':Ms) (zg:Nat) (n:Int) (qQ:vs=[.ref d.m,.int n]) (qZ:d.C=C) (qV:d.CH=CH) (qG:MS K H0 d m H) (zm:m.Wf) (je:m.run zg n.toNat=some m') (kc:∀a b H',MS K H0 (d.mv a b) m' H'->m'.Wf->Q (.str m'.st.str) H')
def W5(K:Fg)(C CH:jp):Sp:=λvs H Q zh=>qcE K C CH vs H Q
theorem qc0(F:qJ K "run" "Machine.run" WJ .none f fd)(M:Mc K C)(GS:⋯ (n+2) "do_step" ["machine"] (SA K C CH)):∅ (n+3) f fd ["self","steps"] (W5 K C CH):=by
 refine F.qB W4 (by grind) ?_
 omega
 obtain⟨H0,d,m,m',zg,n0,rfl,rfl,rfl,h,hw,he,q⟩:=h
 refine⟨_,qc (qC (i:=2) W4.nd rfl oI (pv 1))
  (qc (lO i4 (lY (qM yf (pv 2) qe (qR _)) (lW (qM jb (qT (pv 0) rfl) qh (qR _)))).pt
   (qc (zG (zw GS hr (qx (pv 0) qk))) (qg (eS (i:=2) W4.nd rfl oI qe NR))))
  (qg (qW (qT (pv 0) rfl)))),?_⟩
 left
 refine⟨_,rfl,?_⟩
 right
 refine⟨λj σ H'=>∃(z:Int)(a b:jp)(mc:Ms),σ=[some (.ref d.m),some (.int n0),some (.int z)]/\j=z.toNat/\MS K H0 (d.mv a b) mc H'/\mc.Wf/\Ms.run zg z.toNat mc=some m',⟨_,n0,d.st,d.th,m,rfl,rfl,h,hw,he⟩,?_⟩
 rintro j σ H1 ⟨z,a,b,mc,rfl,rfl,h1,cE,u5⟩
 have M1:Mc K (d.mv a b).C:=M
 refine⟨_,rfl,_,_,rfl,rfl,_,rfl,?_⟩
 by_cases hz:0<z
 ·rw[vw hz]
  obtain⟨k,hk⟩:∃k:Nat,z.toNat=k+1:=⟨z.toNat-1,by lia⟩
  rw[hk,Ms.run]at u5
  refine zY (⟨_,rfl,(d.mv a b).m,(d.mv a b).C,(d.mv a b).dx,_,_,rfl,h1.mo,M.cl,M.n7,bO _ _,⟨rfl,_,rfl,?_⟩⟩)
  rw[WE]
  by_cases hs:mc.st= .running
  ·rw[vb hs]at u5
   rw[vw hs]
   obtain⟨m2,e2,yo⟩:=jU.mp u5
   have b9:=qcA cE e2
   refine zY ⟨λσ' H'=>∃(a b:jp),σ'=[some (.ref d.m),some (.int n0),some (.int (z-1))]/\MS K H0 (d.mv a b) m2 H',λσ' H'⟨a',b',y1,y2⟩=>⟨(z-1).toNat,by lia,z-1,a',b',m2,y1,rfl,y2,b9,by rw[show(z-1).toNat=k by lia];exact yo⟩,?_⟩
   exact⟨_,rfl,H0,d.mv a b,mc,m2,zg,rfl,rfl,rfl,h1,cE,hs,e2,λa' b' H' h'=>⟨_,rfl,_,_,rfl,rfl,a',b',rfl,h'⟩⟩
  ·rw[ke hs]at u5
   cases u5
   rw[xn hs]
   exact qA (⟨_,rfl,(d.mv a b).m,(d.mv a b).C,(d.mv a b).dx,_,_,rfl,h1.mo,M.cl,M.n7,bO _ _,(q a b H1 h1 cE)⟩)
 ·rw[xn hz]
  rw[show z.toNat=0 by lia,Ms.run]at u5
  cases u5
  exact qA (qA (⟨_,rfl,(d.mv a b).m,(d.mv a b).C,(d.mv a b).dx,_,_,rfl,h1.mo,M.cl,M.n7,bO _ _,(q a b H1 h1 cE)⟩))
end
def isAt:AV->Bool
 | .at_ _=>true
 |_=>false
structure IsT(K:Fg):Prop where
 it:PySem.W.kitOne K (.type "int") (.type "tuple")=some false
 bt:PySem.W.kitOne K (.type "bool") (.type "tuple")=some false
 nt:PySem.W.kitOne K (.type "NoneType") (.type "tuple")=some false
 tt:PySem.W.kitOne K (.type "tuple") (.type "tuple")=some true
theorem IsT.at(I:IsT K)(v:AV):PySem.W.kitOne K (.type (X7 v.dt)) (.type "tuple")=some (isAt v):=by
 cases v
 ·exact I.it
 ·exact I.bt
 ·exact I.nt
 ·exact I.tt
structure S2(mg:Str->Option zt):Prop where
 gf:mg "isinstance"=none
 tuple:mg "tuple"=none
 list:mg "list"=none
 len:mg "len"=none
section
variable {base:ll} {fM fU:jp} {mz fdU:ol}
inductive qc1(K:Fg)(vs:List V)(H:Hp)(Q:VK):Prop
 |mk (v:AV) (x:V) (qQ:vs=[x]) (qZ:qw K H v.dt x) (qV:Q (.bl (isAt v)) H)
def S3(K:Fg):Sp:=λvs H Q zh=>qc1 K vs H Q
theorem qc2:qO ["value"] ["value"] (qK V3):=by symm
theorem qc3(F:qJ K "is_reference" "is_reference" V3 .none f fd)(G:S2 mg)(I:IsT K):∅ 1 f fd ["value"] (S3 K):=by
 refine F.qB qc2 (by grind) ?_
 omega
 obtain⟨v,x,rfl,hx,q⟩:=h
 refine⟨_,qg (qW (jZ QU (by rfl) G.gf fo (qx (pv 0) (qx (eO (v:=.ty "tuple") (by rfl) G.tuple lL rfl) qk)))),?_⟩
 left
 exact⟨_,rfl,v.dt,_,"tuple",isAt v,rfl,hx,I.at v,q⟩
end
structure Kp(m:jp)(H H':Hp):Prop where
 keep:∀b o,b≠m->H b=some o->H' b=some o
 none:∀b,H' b=Option.none->H b=Option.none
section
variable {m:jp}
theorem Kp.trans(x:Kp m H H1)(y:Kp m H1 H2):Kp m H H2:=⟨λb o n e=>y.keep b o n (x.keep b o n e),λb e=>x.none b (y.none b e)⟩
theorem Kp.of(g:qv H H1):Kp m H H1:=⟨λb o _ e=>g.same b o e,g.none⟩
theorem Kp.fld{gs:List (Str×V)}:Kp m H (upd H m (.ins C dx gs)):=⟨λb o n e=>(qm n).trans e,λb e=>by
 by_cases z:b=m
 ·subst z;rw[qu]at e;cases e
 ·rw[qm z]at e;exact e⟩
theorem Kp.jv{fs:List (Str×V)}(x:Kp m H H1)(hm:H m=some (.ins C dx fs)):jt K H H1:=λb xs hb=>by
 rcases hb with(hb|⟨o,hb⟩)|hb
 ·exact .inl (.inl (x.keep b _ (j9 hb hm (by intro z;cases z)) hb))
 ·exact .inl (.inr ⟨o,x.keep b _ (j9 hb hm (by intro z;cases z)) hb⟩)
 ·exact .inr hb
theorem Kp.lst{fs:List (Str×V)}(x:Kp m H H1)(hm:H m=some (.ins C dx fs))(h:H l=some (.lst xs)):H1 l=some (.lst xs):=x.keep l _ (j9 h hm (by intro z;cases z)) h
end
section
variable {base:ll}
theorem qc4:qO ["self","room"] ["self","room"] (qK Wr):=by symm
def hfs(r:V)(l:jp):List (Str×V):=[("room",r),("things",.ref l),("made_so_far",.int 0)]
inductive qc6(C:jp)(vs:List V)(H:Hp)(Q:VK):Prop
 |mk (p:jp) (dx:jp) (r:V) (qQ:vs=[.ref p,r]) (qZ:H p=some (.ins C dx [])) (qV:∀l H',Kp p H H'->H' p=some (.ins C dx (hfs r l))->H l=none->H' l=some (.lst [])->Q .qd H')
def S4(C:jp):Sp:=λvs H Q zh=>qc6 C vs H Q
theorem qc7(F:qJ K "__init__" "Heap.__init__" Wr .none f fd)(M:Hc K C):∅ 1 f fd ["self","room"] (S4 C):=by
 refine F.qB qc4 (by grind) ?_
 omega
 obtain⟨p,dx,r,rfl,hp,q⟩:=h
 refine⟨_,qc (xj (pv 0) (pv 1) rfl) (qc (xj (pv 0) (zQ qk) rfl) (qg (xj (pv 0) qe rfl))),?_⟩
 left
 refine⟨_,rfl,_,rfl,p,C,dx,[],rfl,hp,M.cl,M.n1,(by decide),?_⟩
 rw[show zP ("room":Str) r []=([("room",r)]:List (Str×V))from rfl]
 have x1:Kp p H (upd H p (.ins C dx ([("room",r)]:List (Str×V)))):=Kp.fld
 have m1:=@qu H p (.ins C dx ([("room",r)]:List (Str×V)))
 generalize upd H p (.ins C dx ([("room",r)]:List (Str×V)))=H1 at x1 m1⊢
 refine⟨oO,λl hl=>?_⟩
 have x2:Kp p H1 (upd H1 l (.lst [])):=Kp.of (qv.put hl)
 have m2:=(qv.put (o:=.lst []) hl).same _ _ m1
 have l2:=@qu H1 l (.lst [])
 generalize upd H1 l (.lst [])=H2 at x2 m2 l2⊢
 refine⟨_,rfl,p,C,dx,_,rfl,m2,M.cl,M.n2,(by show 1<1000;decide),?_⟩
 rw[oK (ks:=["room"]) (by ext) rfl]
 have x3:Kp p H2 (upd H2 p (.ins C dx (([("room",r)]:List (Str×V))++([("things",.ref l)]:List (Str×V))))):=Kp.fld
 have m3:=@qu H2 p (.ins C dx (([("room",r)]:List (Str×V))++([("things",.ref l)]:List (Str×V))))
 have l3:=x3.lst m2 l2
 generalize upd H2 p (.ins C dx (([("room",r)]:List (Str×V))++([("things",.ref l)]:List (Str×V))))=H3 at x3 m3 l3⊢
 refine⟨_,rfl,p,C,dx,_,rfl,m3,M.cl,M.n3,(by show 2<1000;decide),?_⟩
 rw[oK (ks:=["room","things"]) (by ext) rfl]
 exact q l _ (((x1.trans x2).trans x3).trans Kp.fld) qu (x1.none _ hl) (Kp.lst Kp.fld m3 l3)
structure ZM(mg:Str->Option zt):Prop where
 list:mg "list"=none
 S5:∃t,mg "LEAST_ROOM"=some (.int 8 t)
 W6:∃t,mg "GREATEST_ROOM"=some (.int 400 t)
theorem qc8:qO ["self","code","room"] ["self","code","room"] (qK WZ):=by symm
inductive qc9(K:Fg)(C:jp)(CH:jp)(vs:List V)(H:Hp)(Q:VK):Prop
 |mk (H0:Hp) (m:jp) (dx:jp) (l0:jp) (cs:List V) (code:List zX) (r:Nat) (qQ:vs=[.ref m,.ref l0,.int (r:Nat)]) (qZ:qv H0 H) (qV:H0 m=none) (qG:H m=some (.ins C dx [])) (zm:H0 l0=some (.lst cs)) (je:jK K H0 code cs) (kc:8<=r) (uu:r<=400) (Q5:∀(d:Ad)H',d.C=C->d.CH=CH->d.m=m->MS K H0 d (Ms.new code r) H'->Q .qd H')
def S6(K:Fg)(C CH:jp):Sp:=λvs H Q zh=>qc9 K C CH vs H Q
theorem qlq(F:qJ K "__init__" "Machine.__init__" WZ .none f fd)(M:Mc K C)(N:Hc K CH)(G:ZM mg)(GH:∅ 1 fH iH ["self","room"] (S4 CH))(mH:mg "Heap"=some (.ref CH))(KH:Mk K CH fH)(bH:Binds K iH ["self","room"] []):
  ∅ 3 f fd ["self","code","room"] (S6 K C CH):=by
 refine F.qB qc8 (by grind) ?_
 omega
 obtain⟨H0,m,dx,l0,cs,code,r,rfl,g0,nm,hm,dz,cD,h8,qpV,q⟩:=h
 obtain⟨t1,m1⟩:=G.S5
 obtain⟨t2,m2⟩:=G.W6
 refine⟨_,qc (qP (yb (qM nk (pv 2) (zf (v:=.int 8) (by rfl) m1 ⟨t1,rfl⟩) (qR _)) (iS (qM yf (pv 2) (zf (v:=.int 400) (by rfl) m2 ⟨t2,rfl⟩) (qR _)))).pt wg zq)
  (qc (xj (pv 0) (wD BY (by rfl) G.list aw (qx (pv 1) qk)) rfl)
  (qc (xj (pv 0) (J' KH GH hr (by rfl) mH bH .nil z8 (qx (pv 2) qk)) rfl)
  (qc (xj (pv 0) (zQ qk) rfl)
  (qc (xj (pv 0) qe rfl)
  (qc (xj (pv 0) qe rfl)
  (qc (xj (pv 0) (zQ qk) rfl)
  (qg (xj (pv 0) qh rfl)))))))),?_⟩
 left
 refine⟨_,rfl,_,_,rfl,rfl,_,rfl,?_⟩
 refine zB (λz=>absurd (vi z) (by lia)) (λ_=>?_)
 refine⟨_,rfl,_,_,rfl,rfl,_,rfl,?_⟩
 refine zB (λz=>absurd (vi z) (by lia)) (λ_=>?_)
 refine⟨_,rfl,l0,cs,rfl,.inl (qp.of (g0.same _ _ dz)),λl hl=>?_⟩
 have ml:m≠l:=zM hm hl
 have x1:Kp m H (upd H l (.lst cs)):=Kp.of (qv.put hl)
 have n1:=(qv.put (o:=.lst cs) hl).same _ _ hm
 have a1:=@qu H l (.lst cs)
 generalize upd H l (.lst cs)=H1 at x1 n1 a1⊢
 refine⟨_,rfl,m,C,dx,_,rfl,n1,M.cl,M.n1,(by show 0<1000;decide),?_⟩
 rw[show zP ("code":Str) (V.ref l) []=([("code",.ref l)]:List (Str×V))from rfl]
 have x2:Kp m H1 (upd H1 m (.ins C dx ([("code",.ref l)]:List (Str×V)))):=Kp.fld
 have n2:=@qu H1 m (.ins C dx ([("code",.ref l)]:List (Str×V)))
 have a2:=x2.lst n1 a1
 generalize upd H1 m (.ins C dx ([("code",.ref l)]:List (Str×V)))=H2 at x2 n2 a2⊢
 refine⟨_,rfl,λhp dh tV hdh nhp=>?_⟩
 have gg:qv H2 (upd (upd H2 dh (.own hp)) hp (.ins CH dh [])):=(qv.put hdh).trans (qv.put (by rw[qm nhp.symm];exact tV))
 have me:(upd (upd H2 dh (.own hp)) hp (.ins CH dh [])) hp=some (.ins CH dh []):=qu
 have tW:m≠hp:=zM n2 tV
 have lhp:l≠hp:=zM a2 tV
 have n3:=gg.same _ _ n2
 have a3:=gg.same _ _ a2
 generalize upd (upd H2 dh (.own hp)) hp (.ins CH dh [])=H3 at gg me n3 a3⊢
 refine⟨hp,dh,_,rfl,me,λth H4 y4 e4 S7 eth=>⟨rfl,?_⟩⟩
 have n4:=y4.keep _ _ tW n3
 have a4:=y4.keep _ _ lhp a3
 have x4:Kp m H2 H4:=⟨λb o hb e=>y4.keep b o (λz=>by rw[z,tV]at e;cases e) (gg.same _ _ e),λb e=>gg.none b (y4.none b e)⟩
 have lth:l≠th:=zM a3 S7
 have qlw:H2 th=none:=gg.none _ S7
 refine⟨_,rfl,m,C,dx,_,rfl,n4,M.cl,M.n2,(by show 1<1000;decide),?_⟩
 rw[oK (ks:=["code"]) (by ext) rfl]
 have x5:Kp m H4 (upd H4 m (.ins C dx (([("code",.ref l)]:List (Str×V))++([("heap",.ref hp)]:List (Str×V))))):=Kp.fld
 have n5:=@qu H4 m (.ins C dx (([("code",.ref l)]:List (Str×V))++([("heap",.ref hp)]:List (Str×V))))
 generalize upd H4 m (.ins C dx (([("code",.ref l)]:List (Str×V))++([("heap",.ref hp)]:List (Str×V))))=H5 at x5 n5⊢
 have a5:=x5.lst n4 a4
 have t5:=x5.lst n4 eth
 have h5:=x5.keep _ _ tW.symm e4
 refine⟨oO,λst jq=>?_⟩
 have qly:l≠st:=zM a5 jq
 have tst:th≠st:=zM t5 jq
 have x6:Kp m H5 (upd H5 st (.lst [])):=Kp.of (qv.put jq)
 have n6:=(qv.put (o:=.lst []) jq).same _ _ n5
 have s6:=@qu H5 st (.lst [])
 generalize upd H5 st (.lst [])=H6 at x6 n6 s6⊢
 have nst:H0 st=none:=g0.none _ (x1.none _ (x2.none _ (x4.none _ (x5.none _ jq))))
 refine⟨_,rfl,m,C,dx,_,rfl,n6,M.cl,M.n3,(by show 2<1000;decide),?_⟩
 rw[oK (ks:=["code","heap"]) (by ext) rfl]
 have x7:Kp m H6 (upd H6 m (.ins C dx ((([("code",.ref l)]:List (Str×V))++([("heap",.ref hp)]:List (Str×V)))++([("stack",.ref st)]:List (Str×V))))):=Kp.fld
 have n7:=@qu H6 m (.ins C dx ((([("code",.ref l)]:List (Str×V))++([("heap",.ref hp)]:List (Str×V)))++([("stack",.ref st)]:List (Str×V))))
 generalize upd H6 m (.ins C dx ((([("code",.ref l)]:List (Str×V))++([("heap",.ref hp)]:List (Str×V)))++([("stack",.ref st)]:List (Str×V))))=H7 at x7 n7⊢
 refine⟨_,rfl,m,C,dx,_,rfl,n7,M.cl,M.n4,(by show 3<1000;decide),?_⟩
 rw[oK (ks:=["code","heap","stack"]) (by ext) rfl]
 have x8:Kp m H7 (upd H7 m (.ins C dx (((([("code",.ref l)]:List (Str×V))++([("heap",.ref hp)]:List (Str×V)))++([("stack",.ref st)]:List (Str×V)))++([("base",.int 0)]:List (Str×V))))):=Kp.fld
 have n8:=@qu H7 m (.ins C dx (((([("code",.ref l)]:List (Str×V))++([("heap",.ref hp)]:List (Str×V)))++([("stack",.ref st)]:List (Str×V)))++([("base",.int 0)]:List (Str×V))))
 generalize upd H7 m (.ins C dx (((([("code",.ref l)]:List (Str×V))++([("heap",.ref hp)]:List (Str×V)))++([("stack",.ref st)]:List (Str×V)))++([("base",.int 0)]:List (Str×V))))=H8 at x8 n8⊢
 refine⟨_,rfl,m,C,dx,_,rfl,n8,M.cl,M.n5,(by show 4<1000;decide),?_⟩
 rw[oK (ks:=["code","heap","stack","base"]) (by ext) rfl]
 have x9:Kp m H8 (upd H8 m (.ins C dx ((((([("code",.ref l)]:List (Str×V))++([("heap",.ref hp)]:List (Str×V)))++([("stack",.ref st)]:List (Str×V)))++([("base",.int 0)]:List (Str×V)))++([("place",.int 0)]:List (Str×V))))):=Kp.fld
 have n9:=@qu H8 m (.ins C dx ((((([("code",.ref l)]:List (Str×V))++([("heap",.ref hp)]:List (Str×V)))++([("stack",.ref st)]:List (Str×V)))++([("base",.int 0)]:List (Str×V)))++([("place",.int 0)]:List (Str×V))))
 generalize upd H8 m (.ins C dx ((((([("code",.ref l)]:List (Str×V))++([("heap",.ref hp)]:List (Str×V)))++([("stack",.ref st)]:List (Str×V)))++([("base",.int 0)]:List (Str×V)))++([("place",.int 0)]:List (Str×V))))=H9 at x9 n9⊢
 have tY:=((x6.trans x7).trans x8).trans x9
 have x69:=(x7.trans x8).trans x9
 have a9:=tY.lst n5 a5
 have t9:=tY.lst n5 t5
 have h9:=tY.keep _ _ tW.symm h5
 have s9:=x69.lst n6 s6
 refine⟨oO,λpd uW=>?_⟩
 have lpd:l≠pd:=zM a9 uW
 have tpd:th≠pd:=zM t9 uW
 have spd:st≠pd:=zM s9 uW
 have S8:Kp m H9 (upd H9 pd (.lst [])):=Kp.of (qv.put uW)
 have W8:=(qv.put (o:=.lst []) uW).same _ _ n9
 have S9:=@qu H9 pd (.lst [])
 generalize upd H9 pd (.lst [])=cy at S8 W8 S9⊢
 have Tq:=(x1.trans x2).trans (x4.trans x5)
 have npd:H0 pd=none:=g0.none _ (Tq.none _ (tY.none _ uW))
 refine⟨_,rfl,m,C,dx,_,rfl,W8,M.cl,M.n6,(by show 5<1000;decide),?_⟩
 rw[oK (ks:=["code","heap","stack","base","place"]) (by ext) rfl]
 have W9:Kp m cy (upd cy m (.ins C dx (((((([("code",.ref l)]:List (Str×V))++([("heap",.ref hp)]:List (Str×V)))++([("stack",.ref st)]:List (Str×V)))++([("base",.int 0)]:List (Str×V)))++([("place",.int 0)]:List (Str×V)))++([("pending",.ref pd)]:List (Str×V))))):=Kp.fld
 have Tz:=@qu cy m (.ins C dx (((((([("code",.ref l)]:List (Str×V))++([("heap",.ref hp)]:List (Str×V)))++([("stack",.ref st)]:List (Str×V)))++([("base",.int 0)]:List (Str×V)))++([("place",.int 0)]:List (Str×V)))++([("pending",.ref pd)]:List (Str×V))))
 generalize upd cy m (.ins C dx (((((([("code",.ref l)]:List (Str×V))++([("heap",.ref hp)]:List (Str×V)))++([("stack",.ref st)]:List (Str×V)))++([("base",.int 0)]:List (Str×V)))++([("place",.int 0)]:List (Str×V)))++([("pending",.ref pd)]:List (Str×V))))=H11 at W9 Tz⊢
 refine⟨_,rfl,m,C,dx,_,rfl,Tz,M.cl,M.n7,(by show 6<1000;decide),?_⟩
 rw[oK (ks:=["code","heap","stack","base","place","pending"]) (by ext) rfl]
 have d0:∃d:Ad,d=⟨C,CH,m,dx,hp,dh,l,pd,st,th⟩:=⟨_,rfl⟩
 obtain⟨d,ed⟩:=d0
 have Yq:Kp m H11 (upd H11 m (.ins C dx (z6 ⟨C,CH,m,dx,hp,dh,l,pd,st,th⟩ (Ms.new code r)))):=Kp.fld
 have oW:=@qu H11 m (.ins C dx (z6 ⟨C,CH,m,dx,hp,dh,l,pd,st,th⟩ (Ms.new code r)))
 show Q .qd (upd H11 m (.ins C dx (z6 ⟨C,CH,m,dx,hp,dh,l,pd,st,th⟩ (Ms.new code r))))
 generalize upd H11 m (.ins C dx (z6 ⟨C,CH,m,dx,hp,dh,l,pd,st,th⟩ (Ms.new code r)))=H12 at Yq oW⊢
 have tU:=(S8.trans W9).trans Yq
 have Yz:=(Tq.trans tY).trans tU
 have Q8:jt K H H12:=Yz.jv hm
 refine q ⟨C,CH,m,dx,hp,dh,l,pd,st,th⟩ H12 rfl rfl rfl ⟨⟨λb o e=>Yz.keep b o (zM e nm) (g0.same b o e),λb e=>g0.none b (Yz.none b e)⟩,nm,g0.none _ (x1.none _ (x2.none _ tV)),nst,npd,g0.none _ (x1.none _ (x2.none _ qlw)),oW,?_,⟨[],tU.lst n9 s9,zp⟩,⟨[],(W9.trans Yq).lst W8 S9,zp⟩,⟨cs,tU.lst n9 a9,?_⟩,⟨[],tU.lst n9 t9,zp⟩,tW,qly,spd.symm,tst,lpd,tpd,lth⟩
 ·exact tU.keep _ _ tW.symm h9
 ·exact qf.zb Q8 (cD.mono g0.same)
end
end K27
namespace Ms
end Ms
open PySem
inductive Pc where
 |text (s:Str)|value (v:AV)|tail (v:AV)
namespace Ms
noncomputable def bare:AV->Str
 | .nil=>"[]"
 | .bl true=>"true"
 | .bl false=>"false"
 | .int n=>toString n
 | .at_ _=>""
noncomputable def piecesOf (things:List Th):Pc->Option (List Pc)
 | .text _=>none
 | .tail .nil=>some [.text "]"]
 | .tail (.at_ k)=>match things[k]?with
  |some ⟨_,h0::h1::_⟩=>some [.text ",",.value h0,.tail h1]
  |_=>none
 | .tail _=>none
 | .value (.at_ k)=>match things[k]?with
  |some ⟨.cell,h0::h1::_⟩=>some [.text "[",.value h0,.tail h1]
  |some ⟨.pair,h0::h1::_⟩=>some [.text "(",.value h0,.text ",",.value h1,.text ")"]
  |some ⟨.fn,_⟩=>some [.text "fn"]
  |_=>none
 | .value v=>some [.text (bare v)]
noncomputable def texts (things:List Th):Nat->List Pc->Int->List Str->Option (Option (List Str))
 |_,[],_,acc=>some (some acc)
 |0,_::_,_,_=>none
 |n+1,.text s::ws,left,acc=>if left-(s.length:Nat)<0 then some none else texts things n ws (left-(s.length:Nat)) (acc++[s])
 |n+1,p::ws,left,acc=>(piecesOf things p).bind λps=>texts things n (ps++ws) left acc
end Ms
namespace Pc
noncomputable def dt:Pc->Dt
 | .text s=>.tup [.str "text",.str s]
 | .value v=>.tup [.str "value",v.dt]
 | .tail v=>.tup [.str "tail",v.dt]
end Pc
namespace K27
open PySem L2 PyProof Dt
theorem qln{n:Int}(h:kh n):n.natAbs.log2<64:=qij (by unfold kh at h;lia) (by decide)
structure Tj(K:Fg):Prop where
 ib:PySem.W.kitOne K (.type "int") (.type "bool")=some false
 bb:PySem.W.kitOne K (.type "bool") (.type "bool")=some true
structure ZN(mg:Str->Option zt):Prop where
 gf:mg "isinstance"=none
 bool:mg "bool"=none
 str:mg "str"=none
 list:mg "list"=none
 reversed:mg "reversed"=none
 len:mg "len"=none
 empty:mg "EMPTY"=some .none
 shown:∃t,mg "LONGEST_SHOWN"=some (.int 1000 t)
abbrev iB(K:Fg)(H:Hp)(ps:List Pc)(xs:List V):Prop:=qf K H (ps.map Pc.dt) xs
theorem c7{t:jp}{s:Str}(h:H t=some (.tup [.str "text",.str s])):qw K H (Pc.text s).dt (.ref t):=yV (qb.of h) (uf s)
theorem tO{t:jp}{v:AV}{x:V}(h:H t=some (.tup [.str "value",x]))(hx:qw K H v.dt x):qw K H (Pc.value v).dt (.ref t):=yV (qb.of h) hx
theorem Tv{t:jp}{v:AV}{x:V}(h:H t=some (.tup [.str "tail",x]))(hx:qw K H v.dt x):qw K H (Pc.tail v).dt (.ref t):=yV (qb.of h) hx
section
variable {base:ll}
theorem qlb:qO ["value"] ["value"] (qK Wh):=by symm
inductive qld(K:Fg)(vs:List V)(H:Hp)(Q:VK):Prop
 |mk (v:AV) (x:V) (qQ:vs=[x]) (qZ:qw K H v.dt x) (qV:v.ok) (qG:isAt v=false) (zm:Q (.str (Ms.bare v)) H)
def Yj(K:Fg):Sp:=λvs H Q zh=>qld K vs H Q
theorem qlf(F:qJ K "bare_text" "bare_text" Wh .none f fd)(G:ZN mg)(I:Tj K):∅ 1 f fd ["value"] (Yj K):=by
 refine F.qB qlb (by grind) ?_
 omega
 obtain⟨v,x,rfl,hx,qt,ha,q⟩:=h
 refine⟨_,qc (qP (qM nW (pv 0) (zf (v:=.qd) (by rfl) G.empty rfl) (qR _)) (qg (qW qh)) zq)
  (qc (qP (ku (jZ QU (by rfl) G.gf fo (qx (pv 0) (qx (eO (v:=.ty "bool") (by rfl) G.bool PyProof.Rows.boot_bool rfl) qk)))) (qg (qW (lU (JH (pv 0) (λ_=>rfl)) qh qh))) zq)
  (qg (qW (wD Bk (by rfl) G.str L' (qx (pv 0) qk))))),?_⟩
 left
 refine⟨_,rfl,v.dt,.qd,hx,by rw[qw],KU hr (vy (WL _) (by decide)),_,rfl,?_⟩
 rw[WC]
 cases v with
 |nil=>rw[vw rfl];exact zY q
 |at_ k=>cases ha
 |int n=>
  rw[xn (by intro z;cases z)]
  cases cK hx
  exact qA ⟨_,rfl,.int n,_,"bool",false,rfl,hx,I.ib,_,rfl,qA ⟨_,rfl,n,rfl,qzL (qln qt) (by decide),q⟩⟩
 |bl b=>
  rw[xn (by intro z;cases z)]
  cases FZ hx
  refine qA ⟨_,rfl,.bl b,_,"bool",true,rfl,hx,I.bb,_,rfl,zY ⟨_,rfl,b,rfl,?_⟩⟩
  cases b
  ·exact qA q
  ·exact zY q
theorem Tw:qO ["heap","tail","held"] ["heap","tail"] (qK Wd):=by symm
inductive qlh(K:Fg)(CH:jp)(vs:List V)(H:Hp)(Q:VK):Prop
 |mk (H0:Hp) (d:Ad) (m:Ms) (v:AV) (ps:List Pc) (x:V) (qQ:vs=[.ref d.hp,x]) (qZ:qw K H v.dt x) (qV:d.CH=CH) (qG:MS K H0 d m H) (zm:Ms.piecesOf m.things (.tail v)=some ps) (je:∀l xs H',qv H H'->H l=none->H' l=some (.lst xs)->iB K H' ps xs->Q (.ref l) H')
def Tu(K:Fg)(CH:jp):Sp:=λvs H Q zh=>qlh K CH vs H Q
theorem qlp(F:qJ K "tail_pieces" "tail_pieces" Wd .none f fd)(G:ZN mg)(N:Hc K CH)(mH:Meth K CH "held_by" fH)(GH:∅ 1 fH iH ["self","reference"] (ZI K CH))(bH:Binds K iH ["self","reference"] []):∅ 2 f fd ["heap","tail"] (Tu K CH):=by
 refine F.qB Tw (by grind) ?_
 omega
 obtain⟨H0,d,m,v,ps,x,rfl,hx,rfl,h,he,q⟩:=h
 refine⟨_,qc (qP (qM nW (pv 1) (zf (v:=.qd) (by rfl) G.empty rfl) (qR _)) (qg (qW (zQ (qx (zR (qx qh (qx qh qk))) qk)))) zq)
  (qc (qC (i:=2) Tw.nd rfl oI (iA (pv 0) N.cl mH GH hr bH .nil z8 (qx (pv 1) qk)))
  (qg (qW (zQ (qx (zR (qx qh (qx qh qk))) (qx (zR (qx qh (qx (qU zc (pv 2) qe) qk))) (qx (zR (qx qh (qx (qU zc (pv 2) qe) qk))) qk))))))),?_⟩
 left
 refine⟨_,rfl,v.dt,.qd,hx,by rw[qw],KU hr (vy (WL _) (by decide)),_,rfl,?_⟩
 rw[WC]
 cases v with
 |nil=>
  rw[vw rfl]
  cases he
  refine zY ⟨jk,λt ht=>?_⟩
  have g1:qv H (upd H t (.tup [.str "text",.str "]"])):=qv.put ht
  have e1:(upd H t (.tup [.str "text",.str "]"])) t=some (.tup [.str "text",.str "]"]):=qu
  generalize upd H t (.tup [.str "text",.str "]"])=H1 at g1 e1⊢
  refine⟨xJ,λl hl=>?_⟩
  have g2:=qv.put (o:=.lst [.ref t]) hl
  exact q l _ _ (g1.trans g2) (g1.none _ hl) qu (zx (c7 (g2.same _ _ e1)) zp)
 |at_ k=>
  rw[xn (by intro z;cases z)]
  simp only[Ms.piecesOf]at he
  split at he
  ·rename_i sr h0 h1 jS ht
   cases he
   refine qA ⟨_,rfl,d.hp,d.dh,_,rfl,h.ho,oV _ _ (by ext),_,rfl,H0,d,m,k,_,x,rfl,rfl,h,hx,ht,λu us hu jh=>?_⟩
   right
   obtain⟨u0,us,rfl,vS,jh⟩:=zA jh
   obtain⟨u1,us,rfl,wA,jh⟩:=zA jh
   refine⟨jk,λt1 yx=>?_⟩
   have g1:=qv.put (o:=.tup [.str "text",.str ","]) yx
   have e1:=@qu H t1 (.tup [.str "text",.str ","])
   generalize upd H t1 (.tup [.str "text",.str ","])=H1 at g1 e1⊢
   refine⟨_,rfl,u,_,_,u0,rfl,rfl,qb.mono g1.same hu,qY (j:=0) rfl,jk,λt2 ye=>?_⟩
   have g2:=qv.put (o:=.tup [.str "value",u0]) ye
   have e2:=@qu H1 t2 (.tup [.str "value",u0])
   generalize upd H1 t2 (.tup [.str "value",u0])=H2 at g2 e2⊢
   have zD:=g1.trans g2
   refine⟨_,rfl,u,_,_,u1,rfl,rfl,qb.mono zD.same hu,qY (j:=1) rfl,jk,λt3 tL=>?_⟩
   have g3:=qv.put (o:=.tup [.str "tail",u1]) tL
   have e3:=@qu H2 t3 (.tup [.str "tail",u1])
   generalize upd H2 t3 (.tup [.str "tail",u1])=H3 at g3 e3⊢
   have kI:=zD.trans g3
   refine⟨uI,λl hl=>?_⟩
   have g4:=qv.put (o:=.lst [.ref t1,.ref t2,.ref t3]) hl
   have iD:=kI.trans g4
   exact q l _ _ iD (kI.none _ hl) qu (zx (c7 (((g2.trans g3).trans g4).same _ _ e1)) (zx (tO ((g3.trans g4).same _ _ e2) (vS.mono iD.same)) (zx (Tv (g4.same _ _ e3) (wA.mono iD.same)) zp)))
  ·cases he
 |int n=>cases he
 |bl b=>cases he
end
section
variable {base:ll}
theorem ZD:qO ["heap","piece","value","sort","held"] ["heap","piece"] (qK Wb):=by symm
inductive qlr(K:Fg)(CH:jp)(vs:List V)(H:Hp)(Q:VK):Prop
 |mk (H0:Hp) (d:Ad) (m:Ms) (pc:Pc) (ps:List Pc) (x:V) (qQ:vs=[.ref d.hp,x]) (qZ:qw K H pc.dt x) (qV:(∀v,pc= .value v->v.ok)) (qG:d.CH=CH) (zm:MS K H0 d m H) (je:Ms.piecesOf m.things pc=some ps) (kc:∀l xs H',qv H H'->H l=none->H' l=some (.lst xs)->iB K H' ps xs->Q (.ref l) H')
def Yx(K:Fg)(CH:jp):Sp:=λvs H Q zh=>qlr K CH vs H Q
theorem qls(x:oj):decide (V.str x.str=V.str "cell")=decide (x= .cell):=by cases x<;>ext
theorem To(x:oj):decide (V.str x.str=V.str "pair")=decide (x= .pair):=by cases x<;>ext
theorem qlt(F:qJ K "pieces_of" "pieces_of" Wb .none f fd)(N:Hc K CH)(GT:⋯ 2 "tail_pieces" ["heap","tail"] (Tu K CH))(GI:⋯ 1 "is_reference" ["value"] (S3 K))(GB:⋯ 1 "bare_text" ["value"] (Yj K))
  (mS:Meth K CH "sort_of" fS)(GS:∅ 1 fS eK ["self","reference"] (R7 K CH))(bS:Binds K eK ["self","reference"] [])(mH:Meth K CH "held_by" fH)(GH:∅ 1 fH iH ["self","reference"] (ZI K CH))(bH:Binds K iH ["self","reference"] []):∅ 3 f fd ["heap","piece"] (Yx K CH):=by
 refine F.qB ZD (by grind) ?_
 omega
 obtain⟨H0,d,m,pc,ps,x,rfl,hx,Yk,rfl,h,he,q⟩:=h
 have iM:=hr.mono (show 1<=2 by lia)
 refine⟨_,qc (qC (i:=2) ZD.nd rfl oI (qU zc (pv 1) qe))
  (qc (qP (qM jb (qU zc (pv 1) qe) qh (qR _)) (qg (qW (zw GT hr (qx (pv 0) (qx (pv 2) qk))))) zq)
  (qc (qP (fq (ku (zw GI iM (qx (pv 2) qk)))) (qg (qW (zQ (qx (zR (qx qh (qx (zw GB iM (qx (pv 2) qk)) qk))) qk)))) zq)
  (qc (qC (i:=3) ZD.nd rfl oI (iA (pv 0) N.cl mS GS iM bS .nil z8 (qx (pv 2) qk)))
  (qc (qC (i:=4) ZD.nd rfl oI (iA (pv 0) N.cl mH GH iM bH .nil z8 (qx (pv 2) qk)))
  (qc (qP (qM jb (pv 3) qh (qR _)) (qg (qW (zQ (qx (zR (qx qh (qx qh qk))) (qx (zR (qx qh (qx (qU zc (pv 4) qe) qk))) (qx (zR (qx qh (qx (qU zc (pv 4) qe) qk))) qk)))))) zq)
  (qc (qP (qM jb (pv 3) qh (qR _)) (qg (qW (zQ (qx (zR (qx qh (qx qh qk))) (qx (zR (qx qh (qx (qU zc (pv 4) qe) qk))) (qx (zR (qx qh (qx qh qk))) (qx (zR (qx qh (qx (qU zc (pv 4) qe) qk))) (qx (zR (qx qh (qx qh qk))) qk)))))))) zq)
  (qg (qW (zQ (qx (zR (qx qh (qx qh qk))) qk)))))))))),?_⟩
 left
 cases pc with
 |text t=>cases he
 |tail v=>
  obtain⟨a,y,rfl,ha,hy⟩:=xG hx
  refine⟨_,rfl,a,_,_,y,rfl,rfl,ha,qY (j:=1) rfl,?_⟩
  right
  refine⟨_,rfl,a,_,_,_,rfl,rfl,ha,qY (j:=0) rfl,rfl,_,rfl,zB (λ_=>?_) (λz=>absurd (by ext) z)⟩
  exact⟨_,rfl,_,rfl,H0,d,m,v,ps,y,rfl,hy,rfl,h,he,q⟩
 |value v=>
  obtain⟨a,y,rfl,ha,hy⟩:=xG hx
  refine⟨_,rfl,a,_,_,y,rfl,rfl,ha,qY (j:=1) rfl,?_⟩
  right
  refine⟨_,rfl,a,_,_,_,rfl,rfl,ha,qY (j:=0) rfl,rfl,_,rfl,zB (λz=>absurd z (by ext)) (λ_=>?_)⟩
  refine⟨_,rfl,v,y,rfl,hy,_,rfl,?_⟩
  have Yv:isAt v=false->ps=[.text (Ms.bare v)]->fk (ny (jQ (J9 (jQ (tC (.str "text")) (jQ (yR (Yj K) [] E0 (jQ (zO 2) xx)) xx))) xx)) {nx:=λ_ H'=>Q .qd H',rt:=Q} [some (.ref d.hp),some (.ref a),some y,none,none] H:=by
   intro hz wI
   subst wI
   refine⟨_,rfl,v,y,rfl,hy,Yk v rfl,hz,jk,λt ht=>?_⟩
   have g1:=qv.put (o:=.tup [.str "text",.str (Ms.bare v)]) ht
   have e1:=@qu H t (.tup [.str "text",.str (Ms.bare v)])
   generalize upd H t (.tup [.str "text",.str (Ms.bare v)])=H1 at g1 e1⊢
   refine⟨xJ,λl hl=>?_⟩
   have g2:=qv.put (o:=.lst [.ref t]) hl
   exact q l _ _ (g1.trans g2) (g1.none _ hl) qu (zx (c7 (g2.same _ _ e1)) zp)
  cases v with
  |int n=>exact zY (Yv rfl (by simpa[Ms.piecesOf]using he.symm))
  |bl n=>exact zY (Yv rfl (by simpa[Ms.piecesOf]using he.symm))
  |nil=>exact zY (Yv rfl (by simpa[Ms.piecesOf]using he.symm))
  |at_ k=>
   refine qA ?_
   obtain⟨t,ht⟩:∃t,m.things[k]? =some t:=by
    cases e:m.things[k]?with
    |some t=>exact⟨t,rfl⟩
    |none=>simp[Ms.piecesOf,e]at he
   refine⟨_,rfl,d.hp,d.dh,_,rfl,h.ho,oV _ _ (by ext),_,rfl,H0,d,m,k,t,y,rfl,rfl,h,hy,ht,?_⟩
   right
   refine⟨_,rfl,d.hp,d.dh,_,rfl,h.ho,oV _ _ (by ext),_,rfl,H0,d,m,k,t,y,rfl,rfl,h,hy,ht,λu us hu jh=>?_⟩
   right
   refine⟨_,rfl,rfl,_,rfl,?_⟩
   rw[qls]
   obtain⟨sr,held⟩:=t
   have two:∀{h0 h1:AV}{jS:List AV},held=h0::h1::jS->∃u0 u1 ur,us=u0::u1::ur/\qw K H h0.dt u0/\qw K H h1.dt u1:=by
    intro h0 h1 jS eh
    subst eh
    obtain⟨u0,Qp,rfl,vS,qla⟩:=zA jh
    obtain⟨u1,qle,rfl,wA,_⟩:=zA qla
    exact⟨u0,u1,qle,rfl,vS,wA⟩
   cases sr with
   |cell=>
    rw[vw rfl]
    simp only[Ms.piecesOf,ht]at he
    split at he
    ·rename_i sr' h0 h1 jS eh
     cases he
     have Yw:=(Th.mk.inj (xb eh)).2
     obtain⟨u0,u1,ur,rfl,vS,wA⟩:=two Yw
     refine zY ⟨jk,λt1 yx=>?_⟩
     have g1:qv H (upd H t1 (.tup [.str "text",.str "["])):=qv.put yx
     have e1:(upd H t1 (.tup [.str "text",.str "["])) t1=some (.tup [.str "text",.str "["]):=qu
     generalize upd H t1 (.tup [.str "text",.str "["])=H1 at g1 e1⊢
     refine⟨_,rfl,u,_,_,u0,rfl,rfl,qb.mono g1.same hu,qY (j:=0) rfl,jk,λt2 ye=>?_⟩
     have g2:=qv.put (o:=.tup [.str "value",u0]) ye
     have e2:=@qu H1 t2 (.tup [.str "value",u0])
     generalize upd H1 t2 (.tup [.str "value",u0])=H2 at g2 e2⊢
     have zD:=g1.trans g2
     refine⟨_,rfl,u,_,_,u1,rfl,rfl,qb.mono zD.same hu,qY (j:=1) rfl,jk,λt3 tL=>?_⟩
     have g3:=qv.put (o:=.tup [.str "tail",u1]) tL
     have e3:=@qu H2 t3 (.tup [.str "tail",u1])
     generalize upd H2 t3 (.tup [.str "tail",u1])=H3 at g3 e3⊢
     have kI:=zD.trans g3
     refine⟨uI,λl hl=>?_⟩
     have g4:=qv.put (o:=.lst [.ref t1,.ref t2,.ref t3]) hl
     have iD:=kI.trans g4
     exact q l _ _ iD (kI.none _ hl) qu (zx (c7 (((g2.trans g3).trans g4).same _ _ e1)) (zx (tO ((g3.trans g4).same _ _ e2) (vS.mono iD.same)) (zx (Tv (g4.same _ _ e3) (wA.mono iD.same)) zp)))
    all_goals first|(rename_i eh;exact absurd (Th.mk.inj (xb eh)).1 (by decide))|cases he
   |pair=>
    rw[xn (by intro z;cases z)]
    refine qA ⟨_,rfl,rfl,_,rfl,?_⟩
    rw[To,vw rfl]
    simp only[Ms.piecesOf,ht]at he
    split at he
    ·rename_i eh;exact absurd (Th.mk.inj (xb eh)).1 (by decide)
    ·rename_i sr' h0 h1 jS eh
     cases he
     have Yw:=(Th.mk.inj (xb eh)).2
     obtain⟨u0,u1,ur,rfl,vS,wA⟩:=two Yw
     refine zY ⟨jk,λt1 yx=>?_⟩
     have g1:qv H (upd H t1 (.tup [.str "text",.str "("])):=qv.put yx
     have e1:(upd H t1 (.tup [.str "text",.str "("])) t1=some (.tup [.str "text",.str "("]):=qu
     generalize upd H t1 (.tup [.str "text",.str "("])=H1 at g1 e1⊢
     refine⟨_,rfl,u,_,_,u0,rfl,rfl,qb.mono g1.same hu,qY (j:=0) rfl,jk,λt2 ye=>?_⟩
     have g2:=qv.put (o:=.tup [.str "value",u0]) ye
     have e2:=@qu H1 t2 (.tup [.str "value",u0])
     generalize upd H1 t2 (.tup [.str "value",u0])=H2 at g2 e2⊢
     have zD:=g1.trans g2
     refine⟨jk,λt3 tL=>?_⟩
     have g3:=qv.put (o:=.tup [.str "text",.str ","]) tL
     have e3:=@qu H2 t3 (.tup [.str "text",.str ","])
     generalize upd H2 t3 (.tup [.str "text",.str ","])=H3 at g3 e3⊢
     have kI:=zD.trans g3
     refine⟨_,rfl,u,_,_,u1,rfl,rfl,qb.mono kI.same hu,qY (j:=1) rfl,jk,λt4 ht4=>?_⟩
     have g4:=qv.put (o:=.tup [.str "value",u1]) ht4
     have e4:=@qu H3 t4 (.tup [.str "value",u1])
     generalize upd H3 t4 (.tup [.str "value",u1])=H4 at g4 e4⊢
     have iD:=kI.trans g4
     refine⟨jk,λt5 ht5=>?_⟩
     have g5:qv H4 (upd H4 t5 (.tup [.str "text",.str ")"])):=qv.put ht5
     have e5:(upd H4 t5 (.tup [.str "text",.str ")"])) t5=some (.tup [.str "text",.str ")"]):=qu
     generalize upd H4 t5 (.tup [.str "text",.str ")"])=H5 at g5 e5⊢
     have Ti:=iD.trans g5
     refine⟨(by show 5<=sizeLine;decide),λl hl=>?_⟩
     have g6:=qv.put (o:=.lst [.ref t1,.ref t2,.ref t3,.ref t4,.ref t5]) hl
     have Yy:=Ti.trans g6
     have Tc:=g5.trans g6
     have Tg:=g4.trans Tc
     have Tn:=g3.trans Tg
     exact q l _ _ Yy (Ti.none _ hl) qu (zx (c7 ((g2.trans Tn).same _ _ e1)) (zx (tO (Tn.same _ _ e2) (vS.mono Yy.same)) (zx (c7 (Tg.same _ _ e3)) (zx (tO (Tc.same _ _ e4) (wA.mono Yy.same)) (zx (c7 (g6.same _ _ e5)) zp)))))
    all_goals first|(rename_i eh;exact absurd (Th.mk.inj (xb eh)).1 (by decide))|cases he
   |fn=>
    rw[xn (by intro z;cases z)]
    refine qA ⟨_,rfl,rfl,_,rfl,?_⟩
    rw[To,xn (by intro z;cases z)]
    simp only[Ms.piecesOf,ht]at he
    cases he
    refine qA ⟨jk,λt1 yx=>?_⟩
    have g1:=qv.put (o:=.tup [.str "text",.str "fn"]) yx
    have e1:=@qu H t1 (.tup [.str "text",.str "fn"])
    generalize upd H t1 (.tup [.str "text",.str "fn"])=H1 at g1 e1⊢
    refine⟨xJ,λl hl=>?_⟩
    have g2:=qv.put (o:=.lst [.ref t1]) hl
    exact q l _ _ (g1.trans g2) (g1.none _ hl) qu (zx (c7 (g2.same _ _ e1)) zp)
end
end K27
open PySem
namespace Ms
theorem qlX{things:List Th}{pc:Pc}{ps:List Pc}(ht:∀t∈things,∀v∈t.held,v.ok)(e:piecesOf things pc=some ps):∀v,Pc.value v∈ps->v.ok:=by
 intro v hv
 cases pc with
 |text s=>cases e
 |tail u=>
  cases u with
  |nil=>cases e;simp at hv
  |at_ k=>
   simp only[piecesOf]at e
   split at e
   ·rename_i hk
    cases e
    have hh:=ht _ (kM hk)
    simp at hv
    subst hv
    exact hh _ (by simp)
   ·cases e
  |int n=>cases e
  |bl n=>cases e
 |value u=>
  cases u with
  |nil=>simp[piecesOf]at e;subst e;simp at hv
  |int n=>simp[piecesOf]at e;subst e;simp at hv
  |bl n=>simp[piecesOf]at e;subst e;simp at hv
  |at_ k=>
   simp only[piecesOf]at e
   split at e
   ·rename_i hk
    cases e
    have hh:=ht _ (kM hk)
    simp at hv
    subst hv
    exact hh _ (by simp)
   ·rename_i hk
    cases e
    have hh:=ht _ (kM hk)
    simp at hv
    rcases hv with rfl|rfl
    ·exact hh _ (by simp)
    ·exact hh _ (by simp)
   ·cases e;simp at hv
   ·cases e
theorem tG{things:List Th}:∀{n:Nat}{ws:List Pc}{lf:Int}{acc ts:List Str},texts things n ws lf acc=some (some ts)->ws.length<=n
 |n,[],_,_,_,_=>by simp
 |0,_::_,_,_,_,e=>by simp[texts]at e
 |n+1,.text s::ws,lf,acc,ts,e=>by
  simp only[texts]at e
  split at e
  ·cases e
  ·have :=tG e;simp;lia
 |n+1,.value v::ws,lf,acc,ts,e=>by
  simp only[texts]at e
  obtain⟨ps,_,e⟩:=jU.mp e
  have :=tG e
  simp at this⊢;lia
 |n+1,.tail v::ws,lf,acc,ts,e=>by
  simp only[texts]at e
  obtain⟨ps,_,e⟩:=jU.mp e
  have :=tG e
  simp at this⊢;lia
end Ms
namespace K27
open PySem L2 PyProof Dt
theorem qlK{p:Pc}{r:List Pc}(h:iB K H (p::r).reverse vs):∃ws x,vs=ws++[x]/\qw K H p.dt x/\iB K H r.reverse ws:=by
 unfold iB at h
 rw[mx,kG]at h
 exact WO h
theorem Td{K:Fg}{H:Hp}:∀{ds:List Dt}{vs:List V},qf K H ds vs->qf K H ds.reverse vs.reverse
 |[],vs,h=>by cases kY h;exact zp
 |d::ds,vs,h=>by
  obtain⟨v,r,rfl,hv,hr⟩:=zA h
  rw[mx,mx]
  exact qf.append (Td hr) (zx hv zp)
section
variable {base:ll}
theorem dj:qO ["heap","value","texts","left","waiting","piece"] ["heap","value"] (qK Wn):=by symm
inductive qlV(K:Fg)(CH:jp)(vs:List V)(H:Hp)(Q:VK):Prop
 |mk (H0:Hp) (d:Ad) (m:Ms) (v:AV) (x:V) (zg:Nat) (ts:List Str) (qQ:vs=[.ref d.hp,x]) (qZ:qw K H v.dt x) (qV:v.ok) (qG:d.CH=CH) (zm:MS K H0 d m H) (je:m.Wf) (kc:zg<=100000) (uu:Ms.texts m.things zg [.value v] 1000 []=some (some ts)) (Q5:∀H',qv H H'->Q (.str (fw (uk "") ts)) H')
def Tf(K:Fg)(CH:jp):Sp:=λvs H Q zh=>qlV K CH vs H Q
theorem qlW(F:qJ K "value_text" "value_text" Wn .none f fd)(G:ZN mg)(GP:⋯ 3 "pieces_of" ["heap","piece"] (Yx K CH)):∅ 4 f fd ["heap","value"] (Tf K CH):=by
 refine F.qB dj (by grind) ?_
 omega
 obtain⟨H0,d,m,v,x,zg,ts,rfl,hx,Yk,rfl,h,hw,Tp,he,q⟩:=h
 obtain⟨t1,m1⟩:=G.shown
 refine⟨_,qc (qC (i:=2) dj.nd rfl oI (zQ qk))
  (qc (qC (i:=3) dj.nd rfl oI (zf (v:=.int 1000) (by rfl) m1 ⟨t1,rfl⟩))
  (qc (qC (i:=4) dj.nd rfl oI (zQ (qx (zR (qx qh (qx (pv 1) qk))) qk)))
  (qc (lO i4 (JH (pv 4) (λ_=>rfl))
   (qc (qC (i:=5) dj.nd rfl oI (yE jV yG yM uq (pv 4)))
   (qg (qP (qM jb (qU zc (pv 5) qe) qh (qR _))
    (qc (zG (jA jV vp vt vj (pv 2) (qx (qU zc (pv 5) qe) qk)))
    (qc (eS (i:=3) dj.nd rfl oI (jZ i7 (by rfl) G.len xV (qx (qU zc (pv 5) qe) qk)) NR)
    (qg (qP (qM nk (pv 3) qe (qR _)) wg zq))))
    (qg (zG (jA jV PySem.F.slot_list_extend PySem.F.type_list_extend BG (pv 4) (qx (qvA rfl (by rfl) G.list (by rfl) G.reversed (qx (zw GP hr (qx (pv 0) (qx (pv 5) qk))) qk)) qk))))))))
  (qg (qW (jA PySem.F.plainAttrs_str PySem.F.slot_str_join PySem.F.type_str_join XX qh (qx (pv 2) qk))))))),?_⟩
 left
 refine⟨oO,λtx Tr=>?_⟩
 right
 have g1:=qv.put (o:=.lst []) Tr
 have e1:=@qu H tx (.lst [])
 generalize upd H tx (.lst [])=H1 at g1 e1⊢
 show vC _ _ _ _ H1
 refine⟨_,rfl,jk,λp X4=>?_⟩
 have g2:=qv.put (o:=.tup [.str "value",x]) X4
 have e2:=@qu H1 p (.tup [.str "value",x])
 generalize upd H1 p (.tup [.str "value",x])=H2 at g2 e2⊢
 refine⟨xJ,λwt Yu=>?_⟩
 right
 have g3:=qv.put (o:=.lst [.ref p]) Yu
 have e3:=@qu H2 wt (.lst [.ref p])
 have nw:H wt=none:=(g1.trans g2).none _ Yu
 have Yo:tx≠wt:=zM (g2.same _ _ e1) Yu
 have Tt:qw K (upd H2 wt (.lst [.ref p])) (Pc.value v).dt (.ref p):=tO (g3.same _ _ e2) (hx.mono ((g1.trans g2).trans g3).same)
 generalize upd H2 wt (.lst [.ref p])=H3 at g3 e3 Tt⊢
 have bf:=(g1.trans g2).trans g3
 refine⟨λn σ H'=>∃(o5:Option V)(lf:Int)(acc:List Str)(ws:List Pc)(wv:List V),σ=[some (.ref d.hp),some x,some (.ref tx),some (.int lf),some (.ref wt),o5]/\qv H H'/\H' tx=some (.lst (acc.map V.str))/\H' wt=some (.lst wv)/\iB K H' ws.reverse wv/\Ms.texts m.things n ws lf acc=some (some ts)/\n<=zg/\acc.length+n<=zg/\(((acc.map λt=>t.length).sum:Nat):Int)+lf=1000/\0<=lf/\∀u,Pc.value u∈ws->u.ok,
  ⟨zg,_,_,[],[.value v],[.ref p],rfl,bf,(g2.trans g3).same _ _ e1,e3,zx Tt zp,he,qL _,by simp,by simp,by decide,λu hu=>by simp at hu;subst hu;exact Yk⟩,?_⟩
 rintro n σ H4 ⟨o5,lf,acc,ws,wv,rfl,g4,e4,e5,gY,htx',hn,hac,hsum,hlf,hoks⟩
 have i8:wv.length=ws.length:=by rw[gY.length,za,ar]
 have xB:=Ms.tG htx'
 match ws,gY,htx',i8,xB,hoks with
 |[],gY,htx',i8,xB,hoks=>
  have :wv=[]:=by cases wv with |nil=>rfl|cons _ _=>simp at i8
  subst this
  refine⟨_,rfl,false,.inl ⟨_,qp.of e5,rfl⟩,qA ?_⟩
  have :ts=acc:=by cases n<;>(simp[Ms.texts]at htx';exact htx'.symm)
  subst this
  refine⟨rfl,_,rfl,_,tx,ts,rfl,rfl,qp.of e4,(by ext),?_,q H4 g4⟩
  lia
 |pc::ws,gY,htx',i8,xB,hoks=>
  obtain⟨n',rfl⟩:∃n',n=n'+1:=⟨n-1,by simp at xB;lia⟩
  obtain⟨us,y,rfl,hy,jh⟩:=qlK gY
  refine⟨_,rfl,true,.inl ⟨_,qp.of e5,by simp⟩,zY ?_⟩
  refine⟨λσ' H'=>∃(o5:Option V)(lf:Int)(acc:List Str)(ws:List Pc)(wv:List V),σ'=[some (.ref d.hp),some x,some (.ref tx),some (.int lf),some (.ref wt),o5]/\qv H H'/\H' tx=some (.lst (acc.map V.str))/\H' wt=some (.lst wv)/\iB K H' ws.reverse wv/\Ms.texts m.things n' ws lf acc=some (some ts)/\n'<=zg/\acc.length+n'<=zg/\(((acc.map λt=>t.length).sum:Nat):Int)+lf=1000/\0<=lf/\∀u,Pc.value u∈ws->u.ok,
   λσ' H' hh=>⟨n',by lia,hh⟩,?_⟩
  refine⟨_,rfl,.inl ⟨rfl,_,qp.of e5⟩,wt,_,y,rfl,rfl,e5,by simp,?_⟩
  rw[de]
  right
  have cR:=vh (K:=K) (ys:=us) e5
  have g5:=g4.set (o:=.lst us) nw
  have a1:(upd H4 wt (.lst us)) tx=some (.lst (acc.map V.str)):=(qm Yo).trans e4
  have a2:=@qu H4 wt (.lst us)
  have a3:=qw.zb cR hy
  have a4:=qf.zb cR jh
  show NF _ _ _ _ _ (upd H4 wt (.lst us))
  generalize upd H4 wt (.lst us)=H5 at g5 a1 a2 a3 a4⊢
  have more:∀(wd:Str)(a:jp)(z:V)(ps:List Pc),y= .ref a->qb K H5 a [.str wd,z]->¬V.str wd=V.str "text"->(∀u,pc= .value u->u.ok)->Ms.piecesOf m.things pc=some ps->Ms.texts m.things n' (ps++ws) lf acc=some (some ts)->
    JV (pK K "list" BL (zO 4) (jQ (Fw K (jQ (yR (Yx K d.CH) [] E0 (jQ (zO 0) (jQ (zO 5) xx))) xx)) xx))
     {nx:=λσ' H'=>∃(o5:Option V)(lf:Int)(acc:List Str)(ws:List Pc)(wv:List V),σ'=[some (.ref d.hp),some x,some (.ref tx),some (.int lf),some (.ref wt),o5]/\qv H H'/\H' tx=some (.lst (acc.map V.str))/\H' wt=some (.lst wv)/\iB K H' ws.reverse wv/\Ms.texts m.things n' ws lf acc=some (some ts)/\n'<=zg/\acc.length+n'<=zg/\(((acc.map λt=>t.length).sum:Nat):Int)+lf=1000/\0<=lf/\∀u,Pc.value u∈ws->u.ok,rt:=Q} [some (.ref d.hp),some x,some (.ref tx),some (.int lf),some (.ref wt),some y] H5:=by
   intro wd a z ps ey ha qpW Xl wI yt
   refine⟨_,rfl,.inl ⟨rfl,_,qp.of a2⟩,_,rfl,_,rfl,H0,d,m,pc,ps,y,rfl,a3,Xl,rfl,h.grow g5,wI,λl xs H6 g6 n6 b1 b2=>?_⟩
   refine⟨l,_,rfl,qp.of b1,λl2 vo=>?_⟩
   have g7:=qv.put (o:=.lst xs.reverse) vo
   have b3:=@qu H6 l2 (.lst xs.reverse)
   have tM:=g6.trans g7
   have b5:=tM.same _ _ a2
   have b6:=tM.same _ _ a1
   have b7:=b2.mono g7.same
   have b8:=a4.mono tM.same
   have g8:=g5.trans tM
   generalize upd H6 l2 (.lst xs.reverse)=H7 at g7 b3 b5 b6 b7 b8 tM g8⊢
   have nA:=Ms.tG yt
   have se:xs.length=ps.length:=by rw[b2.length,za]
   have hul:us.length=ws.length:=by rw[jh.length,za,ar]
   refine⟨wt,l2,us,xs.reverse,rfl,rfl,b5,b3,by rw[xt,ar];simp at nA;lia,?_⟩
   have kt8:=vh (K:=K) (ys:=us++xs.reverse) b5
   refine⟨_,lf,acc,ps++ws,us++xs.reverse,rfl,g8.set nw,(qm Yo).trans b6,qu,?_,yt,by lia,by lia,hsum,hlf,λu hu=>?_⟩
   ·unfold iB
    rw[qzA,kG]
    exact qf.zb kt8 (qf.append b8 (by rw[List.map_reverse];exact Td b7))
   ·rcases ip.mp hu with hu|hu
    ·exact Ms.qlX hw.it wI u hu
    ·exact hoks u (jF _ hu)
  cases pc with
  |text t=>
   obtain⟨a,z,rfl,ha,hz⟩:=xG a3
   cases xW hz
   simp only[Ms.texts]at htx'
   split at htx'
   ·cases htx'
   ·rename_i Dw
    refine⟨_,rfl,a,_,_,_,rfl,rfl,ha,qY (j:=0) rfl,rfl,_,rfl,zB (λ_=>?_) (λz=>absurd (by ext) z)⟩
    refine⟨_,rfl,.inl ⟨rfl,_,qp.of a1⟩,_,rfl,a,_,_,.str t,rfl,rfl,ha,qY (j:=1) rfl,tx,acc.map V.str,_,rfl,rfl,a1,by rw[xt,za];lia,?_⟩
    have Te:=vh (K:=K) (ys:=acc.map V.str++[.str t]) a1
    have g6:=g5.set (o:=.lst (acc.map V.str++[.str t])) Tr
    have b1:=@qu H5 tx (.lst (acc.map V.str++[.str t]))
    have b2:(upd H5 tx (.lst (acc.map V.str++[.str t]))) wt=some (.lst us):=(qm Yo.symm).trans a2
    have b3:=Te _ _ ha
    have b4:=qf.zb Te a4
    generalize upd H5 tx (.lst (acc.map V.str++[.str t]))=H6 at g6 b1 b2 b3 b4⊢
    refine⟨_,rfl,_,rfl,a,_,_,.str t,rfl,rfl,b3,qY (j:=1) rfl,_,rfl,(by rw[xt];lia),_,_,rfl,rfl,?_⟩
    right
    refine⟨_,rfl,_,_,rfl,rfl,_,rfl,?_⟩
    refine zB (λz=>absurd (vi z) (by lia)) (λ_=>?_)
    refine⟨_,lf-(t.length:Nat),acc++[t],ws,us,rfl,g6,by rw[kG];exact b1,b2,b4,htx',by lia,by simp;lia,?_,by lia,λu hu=>hoks u (jF _ hu)⟩
    simp only[kG,List.sum_append,wq,eJ,B2,qqo]
    lia
  |value u=>
   obtain⟨a,z,rfl,ha,hz⟩:=xG a3
   simp only[Ms.texts]at htx'
   obtain⟨ps,wI,yt⟩:=jU.mp htx'
   refine⟨_,rfl,a,_,_,_,rfl,rfl,ha,qY (j:=0) rfl,rfl,_,rfl,zB (λz=>absurd z (by ext)) (λ_=>?_)⟩
   exact more "value" a z ps rfl ha (by ext) (λv' e'=>by cases e';exact hoks u xK) wI yt
  |tail u=>
   obtain⟨a,z,rfl,ha,hz⟩:=xG a3
   simp only[Ms.texts]at htx'
   obtain⟨ps,wI,yt⟩:=jU.mp htx'
   refine⟨_,rfl,a,_,_,_,rfl,rfl,ha,qY (j:=0) rfl,rfl,_,rfl,zB (λz=>absurd z (by ext)) (λ_=>?_)⟩
   exact more "tail" a z ps rfl ha (by ext) (λv' e'=>by cases e') wI yt
theorem qlU:qO ["self"] ["self"] (qK WK):=by symm
inductive qlO(K:Fg)(C:jp)(CH:jp)(ND:jp)(vs:List V)(H:Hp)(Q:VK)(E:XK):Prop
 |mk (H0:Hp) (d:Ad) (m:Ms) (qQ:vs=[.ref d.m]) (qZ:d.C=C) (qV:d.CH=CH) (qG:MS K H0 d m H) (zm:m.Wf) (je:(m.st≠ .done->Rz ND H E)) (kc:(m.st= .done->∃(v:AV)(zg:Nat)(ts:List Str),m.qI=[v]/\zg<=100000/\Ms.texts m.things zg [.value v] 1000 []=some (some ts)/\∀H',qv H H'->Q (.str (fw (uk "") ts)) H'))
def Yi(K:Fg)(C CH ND:jp):Sp:=λvs H Q E=>qlO K C CH ND vs H Q E
theorem qlI(F:qJ K "shown" "Machine.shown" WK .none f fd)(M:Mc K C)(GT:⋯ 4 "value_text" ["heap","value"] (Tf K CH)){ND:jp}(ZF:XC K ND bm)(tF:PySem.W.findIn K (.ref ND) "__init__"=some (some (.builtin "ValueError.__init__")))(ZH:mg "NotDone"=some (.ref ND)):∅ 5 f fd ["self"] (Yi K C CH ND):=by
 refine F.jI qlU (by grind) ?_
 omega
 obtain⟨H0,d,m,rfl,rfl,rfl,h,hw,qN,qD⟩:=h
 refine⟨_,qc (qP (qM fX (qT (pv 0) rfl) qh (qR _)) (qg (ir ZF (nZ ZF tF (by rfl) ZH (qx qh qk)))) zq)
  (qg (qW (zw GT hr (qx (qT (pv 0) rfl) (qx (qU jH (qT (pv 0) rfl) qe) qk))))),?_⟩
 left
 refine⟨_,rfl,d.m,d.C,d.dx,_,_,rfl,h.mo,M.cl,M.n7,bO _ _,rfl,_,rfl,?_⟩
 have hd:∀x:Sd,(!decide (V.str x.str=V.str "done"))= !decide (x= .done):=by intro x;cases x<;>ext
 rw[hd]
 by_cases jq:m.st= .done
 rotate_left
 ·exact jG (by rw[xn jq];rfl) (yW (qN jq) (qv.refl H))
 obtain⟨v,zg,ts,TQ,Tp,he,q⟩:=qD jq
 refine z0 (by rw[vw jq];rfl) ?_
 obtain⟨vs,hs,hd⟩:=h.so
 rw[TQ]at hd
 obtain⟨x,r,rfl,hx,xE⟩:=zA hd
 cases kY xE
 exact⟨_,rfl,d.m,d.C,d.dx,_,_,rfl,h.mo,M.cl,M.n2,gS _ _,_,rfl,d.m,d.C,d.dx,_,_,rfl,h.mo,M.cl,M.n3,yI _ _,d.st,_,_,x,rfl,rfl,qp.of hs,qY (j:=0) rfl,H0,d,m,v,x,zg,ts,rfl,hx,hw.iv v (by rw[TQ];simp),rfl,h,hw,Tp,he,q⟩
end
end K27
namespace L2
open PySem PySem.Spec PyProof.Rows PyProof Builtin Builtin.Str
theorem TZ(y:Str)(hy:0<y.length):∀ts:List Str,ts.length<=(hW y ts).length+1/\∀t∈ts,t.length<=(hW y ts).length
 |[]=>⟨by simp,λt h=>by cases h⟩
 |[x]=>⟨by simp,λt h=>by rw[xX.mp h];exact qL _⟩
 |x::z::r=>by
  obtain⟨h1,h2⟩:=TZ y hy (z::r)
  have e:(hW y (x::z::r)).length=x.length+y.length+(hW y (z::r)).length:=by
   show(x++y++hW y (z::r)).length=_
   rw[vT,vT]
  refine⟨by rw[e,zH];lia,λt h=>?_⟩
  rw[e]
  rcases js.mp h with rfl|h
  ·lia
  ·have :=h2 t h;lia
theorem TX{y:Str}(hy:0<y.length):(sk x y).length<=x.length+1/\∀t∈sk x y,t.length<=x.length:=by
 have h:=TZ y hy (sk x y)
 rw[qzV]at h
 exact h
theorem qlC{y:Str}:sk x y≠[]:=by
 unfold sk
 split
 ·simp
 ·split
  ·simp
  ·intro h
   have :=ag R' h
   rw[length_partsBetween]at this
   simp at this
theorem TV:∀l:List (Str×Tok),Vals ((l.map (·.1)).map V.str) (strValues l)
 |[]=>.nil
 |p::l=>.cons ⟨p.2,rfl⟩ (TV l)
theorem qlL:i6 X "str.split" (λx xs H Q=>∃(z y:Str),x= .str z/\xs=[.str y]/\0<y.length/\z.length<=100000/\∀l,H l=none->Q (.ref l) (upd H l (.lst ((sk z y).map V.str)))):=by
 intro pins s σ H x xs v us Q I rx rs h
 obtain⟨z,y,rfl,rfl,hy,hz,q⟩:=h
 obtain⟨t,rfl⟩:=rx
 obtain⟨u,rfl,t',rfl⟩:=vals1 rs
 obtain⟨b1,b2⟩:=TX (x:=z) hy
 have lz:sizeLine=16777216:=xt
 have yp:(y.length==0)=false:=by rw[kS];lia
 have fin:∀(l:List (Str×Tok))(k:Nat),l.map (·.1)=sk z y->EP X pins σ Q (.ref (~~~s)) {s with heap:=s.heap.push {cls:=.type "list",data:=.seq (strValues l).toArray},toks:=k}:=λl k hl=>by
  refine⟨.ref (~~~s),upd H (~~~s) (.lst ((sk z y).map V.str)),I.laid (t':=k) (λb u e=>qF _ e) (qL _) ?_,rfl,q _ (I.qt.fresh (qL _))⟩
  refine⟨by rw[za];lia,strValues l,0,?_,jg _ rfl⟩
  rw[<-hl]
  exact TV l
 cases h1:(decide (z.length<y.length)||decide (strKind z<strKind y))
 ·cases hf:(occurrences z y 0 z.length (z.length+1)).isEmpty
  ·have e:sk z y=partsBetween z (occurrences z y 0 z.length (z.length+1)) y.length:=(ke (qzz h1)).trans (ke (qzz hf))
   refine Kj F.slot_str_split (Kk _ _ _) F.entry_str_split (F.args_str_split_2 _ _) (meets_str_split_sep z y t t' h1 yp hf (by lia) (by rw[<-e];lia)) ?_
   show wants (EP X pins σ Q) _ _ {s with toks:=_,heap:=s.heap.push {cls:=.type "list",data:=.seq (strsFrom s.toks (partsBetween z (occurrences z y 0 z.length (z.length+1)) y.length)).toArray}}
   rw[strsFrom_eq]
   exact fin (numbered s.toks _) _ ((numbered_texts _ _).trans e.symm)
  ·exact Kj F.slot_str_split (Kk _ _ _) F.entry_str_split (F.args_str_split_2 _ _) (meets_str_split_not_found z y t t' h1 yp hf)
    (fin [(z,t)] _ ((ke (qzz h1)).trans (vb hf)).symm)
 ·exact Kj F.slot_str_split (Kk _ _ _) F.entry_str_split (F.args_str_split_2 _ _) (meets_str_split_cannot_occur z y t t' h1)
   (fin [(z,t)] _ (vb h1).symm)
def yi(z y:Str):Str:=if stripSame y.cps.contains true true z=true then z else stripped y.cps.contains true true z
def TY(x:V)(xs:List V)(H:Hp)(Q:VK):Prop:=∃(z y:Str),x= .str z/\xs=[.str y]/\(yi z y).length<=sizeLine/\Q (.str (yi z y)) H
theorem qlG:i6 X "str.strip" TY:=by
 intro pins s σ H x xs v us Q I rx rs h
 obtain⟨z,y,rfl,rfl,hz,q⟩:=h
 obtain⟨t,rfl⟩:=rx
 obtain⟨u,rfl,t',rfl⟩:=vals1 rs
 refine call_gives F.slot_str_strip (Kk _ _ _) F.entry_str_strip (F.args_str_strip_2 _ _) (gives_str_strip_chars z y t t') ?_
 unfold yi at hz q
 split
 ·next h=>rw[vb h]at q;exact⟨.str z,H,I,⟨_,rfl⟩,q⟩
 ·next h=>rw[ke h]at q hz;exact⟨hz,⟨.str _,H,I.tok _,⟨_,rfl⟩,q⟩⟩
theorem qlM:i6 X "str.partition" (λx xs H Q=>∃(z y:Str),x= .str z/\xs=[.str y]/\0<y.length/\z.length<=100000/\∀l,H l=none->Q (.ref l) (upd H l (.tup [.str (bp z y).1,.str (bp z y).2.1,.str (bp z y).2.2]))):=by
 intro pins s σ H x xs v us Q I rx rs h
 obtain⟨z,y,rfl,rfl,hy,hz,q⟩:=h
 obtain⟨t,rfl⟩:=rx
 obtain⟨u,rfl,t',rfl⟩:=vals1 rs
 have yp:(y.length==0)=false:=by rw[kS];lia
 refine Kj F.slot_str_partition (Kk _ _ _) F.entry_str_partition (F.args_str_partition_2 _ _) (meets_str_partition z y t t' yp (by rw[xt];lia)) ?_
 have fin:∀(a b c:Str)(t1 t2 t3:Tok)(k:Nat),bp z y=(a,b,c)->EP X pins σ Q (.ref (~~~s)) {s with heap:=s.heap.push {cls:=.type "tuple",data:=.seq #[.str a t1,.str b t2,.str c t3]},toks:=k}:=λa b c t1 t2 t3 k e=>by
  rw[e]at q
  refine⟨.ref (~~~s),upd H (~~~s) (.tup [.str a,.str b,.str c]),I.laid (t':=k) (λb u e=>qF _ e) (qL _) ?_,rfl,q _ (I.qt.fresh (qL _))⟩
  exact⟨uI,[.str a t1,.str b t2,.str c t3],.cons ⟨_,rfl⟩ (.cons ⟨_,rfl⟩ (.cons ⟨_,rfl⟩ .nil)),IsTup.new _ _⟩
 unfold bp at fin
 cases ho:Ya z y 0 z.length 1 with
 |nil=>rw[ho]at fin;exact fin _ _ _ _ _ _ _ rfl
 |cons i r=>rw[ho]at fin;exact fin _ _ _ _ _ _ _ rfl
inductive ZP(e:jp)(l:List zt)(i:Nat)(D:Ends)(σ:St)(H:Hp):List (jp×Bool×(jp->TS))->Prop
 |here {C:jp} {nd:Bool} {ts:jp->TS} {r9} (c:l.contains (.ref C)=true) (q:ts e {nx:=λ_ _=>False,rt:=D.rt} (bif nd then σ.set i (some (.ref e))else σ) H):ZP e l i D σ H ((C,nd,ts)::r9)
 |next {C:jp} {nd:Bool} {ts:jp->TS} {r9} (c:l.contains (.ref C)=false) (q:ZP e l i D σ H r9):ZP e l i D σ H ((C,nd,ts)::r9)
inductive TU(K:Fg)(ks:List (jp×Bool×(jp->TS)))(i:Nat)(D:Ends)(σ:St)(cls:zt)(oe:Option jp)(H:Hp):Prop
 |mk (e C:jp) (bm:List zt) (h1:cls= .ref C) (h2:oe=some e) (xc:XC K C bm) (q:ZP e (.ref C::bm) i D σ H ks)
def qlN(K:Fg)(tb:XO)(ks:List (jp×Bool×(jp->TS)))(i:Nat):TS:=λD σ H=>tb D (TU K ks i D σ) σ H
inductive dw(X:Cx)(i:Nat):List Hb->List (jp×Bool×(jp->TS))->Prop
 |nil:dw X i [] []
 |as {c n:Str} {C:jp} {bm:List zt} {b:cc} {su:List cc} {ts:jp->TS} {p hp:Pos} {r9 k9} (hg:Gl X c) (hm:X.mg c=some (.ref C)) (xd:XC X.K C bm) (hi:X.N[i]? =some n) (hl:X.env.scope.names.lookup n=some .local) (hs:∀e,xm (X.kR e) (b::su) (ts e)) (t:dw X i r9 k9) (jw:(c==("__debug__":Str))=false:=by decide):dw X i (.ExceptHandler (some (.Name c p)) (some n) (b::su) hp::r9) ((C,true,ts)::k9)
 |no {c:Str} {C:jp} {bm:List zt} {b:cc} {su:List cc} {ts:jp->TS} {p hp:Pos} {r9 k9} (hg:Gl X c) (hm:X.mg c=some (.ref C)) (xd:XC X.K C bm) (hs:∀e,xm (X.kR e) (b::su) (ts e)) (t:dw X i r9 k9) (jw:(c==("__debug__":Str))=false:=by decide):dw X i (.ExceptHandler (some (.Name c p)) none (b::su) hp::r9) ((C,false,ts)::k9)
theorem qlB{E:zt->zr->Prop}{s:zr}{e:jp}{t:hU}{b₀:cc}{kR:List cc}{rest:List Hb}{Q:Flow->zr->Prop}(h:xI (vk prog w) (A.mark (some (.ref e))) (eval t env) (λc s₁=>xI (vk prog w) (A.mark (some (.ref e))) (qqD (.ref e) c) (λb i9=>b=true/\
   xI (vk prog w) (A.mark (some (.ref e))) (M2 (.ref e) none) (λ_ s₂=>xI (vk prog w) (A.mark (some (.ref e))) (execs (b₀::kR) env) Q (λ_ _=>False) s₂) (λ_ _=>False) i9) (λ_ _=>False) s₁) (λ_ _=>False) s):
  xI (vk prog w) A (handleBy (.ref e) env (.ExceptHandler (some t) none (b₀::kR) pos::rest)) Q E s:=by
 refine qqi (SF (wb h (λc s₁ h₁=>wb h₁ (λb i9 h₂=>?_) λ_ _ x=>x.elim) λ_ _ x=>x.elim)) (by intro q;cases q)
 obtain⟨rfl,h₂⟩:=h₂
 exact codeAny_handlers_suite (wb h₂ (λ_ s₂ h₃=>wb h₃ (λf s₄ h₅=>h₅) λ_ _ x=>x.elim) λ_ _ x=>x.elim)
theorem qlD{tb:XO}{hs:List Hb}{ks:List (jp×Bool×(jp->TS))}(Qa:X.stack=X.env::X.outer)(ya:X.env.frame=some X.env.locals)(hN:X.N.Nodup)(hb:DK X st tb)(hh:dw X i hs ks)(jP:hs≠[]:=by intro z;cases z):
  PS X (.Try [st] hs [] [] pos) (qlN X.K tb ks i):=by
 intro pins s σ H D I h
 obtain⟨nG,cg,rfl⟩:∃h0 cg,hs=h0::cg:=by cases hs with |nil=>exact absurd rfl jP|cons a b=>exact⟨a,b,rfl⟩
 refine wpAny_Try_except (wb (Q:=SP X pins D) (E:=XP X pins σ (TU X.K ks i D σ)) ?_ (λf s1 q=>?_) λx s1 hx=>?_)
 rotate_left
 ·cases f with
  |next=>exact Q1 q
  |ret u=>exact q
  |brk=>exact q
  |cont=>exact q
 rotate_right
 ·refine qzy (qX (hb pins s σ H D _ I h) λf s1 q=>?_)
  cases f with
  |next=>exact Q1 q
  |ret u=>exact q
  |brk=>exact q
  |cont=>exact q
 ·obtain⟨e,C,t,T,d,H1,rfl,I1,he,hT,fx,_,e',C',bm,e1,e2,xc,q⟩:=hx
  cases e1
  cases e2
  refine qX (I1.qvz Qa ya he hT fx (Q:=λ_ s2=>_) λs2 T2 I2 di TM=>?_) λ_ _ z=>z
  have J2:Inv (X.kR e) pins σ H1 s2:=I2.re (λh=>by cases h) rfl
  obtain⟨nm,qq,N',bs,sn,sub,ab,col,dd,k0,k1,k2,k3,k5,lC⟩:=xc.obj
  obtain⟨nJ,sl,ho,wJ,h0,h1⟩:=pS (I2.qt e _ he)
  have KX:=I2.zZ
  obtain⟨hh',g,dr,tk,os⟩:=s2
  clear jP h
  generalize nG::cg=hs at hh⊢
  induction hh with
  |nil=>cases q
  | @as c n Cd bmD b su ts p hp r k hg hm xd hi hl hs _ jw ih=>
   cases q with
   |next lH q=>
    refine XA.B9 (wl (X:=X.kR e) J2 hg hm ?_ jw)
    obtain⟨pN,Yc,Yl,pB,pD,pF,pH,pP,vH,j0,j1,j2,j3,j5,lD⟩:=xd.obj
    exact XA.Qh (KX _ _ lC) (KX _ _ lD) ho rfl xd.ab.base lH ⟨rfl,ih q⟩
   |here hcon q=>
    refine XA.qkh (wl (X:=X.kR e) J2 hg hm ?_ jw)
    obtain⟨pN,Yc,Yl,pB,pD,pF,pH,pP,vH,j0,j1,j2,j3,j5,lD⟩:=xd.obj
    refine XA.Qh (KX _ _ lC) (KX _ _ lD) ho rfl xd.ab.base hcon ⟨rfl,?_⟩
    refine XA.pG TM λh3 f3 Yg k4=>?_
    obtain⟨t0,t1,t2,t3,t4,t5⟩:=di
    have J3:Inv (X.kR e) pins σ H1 ⟨h3,g,dr,tk,os⟩:=J2.turned (t':=tk) (λb o hb q=>Yg b o hb q) t0 t1 t3 t4 t5
    refine eU (X:=X.kR e) J3 hN hi (.inl hl) (v:=.ref e) rfl (λs4 J4=>?_) (.inr hl)
    refine wb (hs e pins s4 _ H1 _ J4 q) (λf s5 r5=>?_) λ_ _ z=>z
    cases f with
    |next=>obtain⟨_,_,_,z⟩:=r5;exact z.elim
    |brk=>obtain⟨_,_,_,z⟩:=r5;exact z.elim
    |cont=>obtain⟨_,_,_,z⟩:=r5;exact z.elim
    |ret u=>
     obtain⟨v,σ5,H5,J5,rv,q5⟩:=r5
     obtain⟨m,hn,_⟩:=J5.loc
     have dP:(X.env.scope.kind== .class||(X.env.scope.kind== .module&&X.env.locals !=X.env.globals))=false:=by rw[I.ok.kind];rfl
     have K5:Inv X pins σ5 H5 s5:=J5.re (X:=X.kR e) (A':=X.A) (cm:=X.calm) (E':=X.xe) I.ok.hd rfl
     exact wpAny_nameGoes hl hn dP λh6 m6 hn6 hs6=>⟨v,_,H5,K5.qvj hn6 hs6,rv,q5⟩
  | @no c Cd bmD b su ts p hp r k hg hm xd hs _ jw ih=>
   cases q with
   |next lH q=>
    refine XA.B9 (wl (X:=X.kR e) J2 hg hm ?_ jw)
    obtain⟨pN,Yc,Yl,pB,pD,pF,pH,pP,vH,j0,j1,j2,j3,j5,lD⟩:=xd.obj
    exact XA.Qh (KX _ _ lC) (KX _ _ lD) ho rfl xd.ab.base lH ⟨rfl,ih q⟩
   |here hcon q=>
    refine qlB (wl (X:=X.kR e) J2 hg hm ?_ jw)
    obtain⟨pN,Yc,Yl,pB,pD,pF,pH,pP,vH,j0,j1,j2,j3,j5,lD⟩:=xd.obj
    refine XA.Qh (KX _ _ lC) (KX _ _ lD) ho rfl xd.ab.base hcon ⟨rfl,?_⟩
    refine XA.pG TM λh3 f3 Yg k4=>?_
    obtain⟨t0,t1,t2,t3,t4,t5⟩:=di
    have J3:Inv (X.kR e) pins σ H1 ⟨h3,g,dr,tk,os⟩:=J2.turned (t':=tk) (λb o hb q=>Yg b o hb q) t0 t1 t3 t4 t5
    refine wb (hs e pins _ _ H1 _ J3 q) (λf s5 r5=>?_) λ_ _ z=>z
    cases f with
    |next=>obtain⟨_,_,_,z⟩:=r5;exact z.elim
    |brk=>obtain⟨_,_,_,z⟩:=r5;exact z.elim
    |cont=>obtain⟨_,_,_,z⟩:=r5;exact z.elim
    |ret u=>
     obtain⟨v,σ5,H5,J5,rv,q5⟩:=r5
     exact⟨v,σ5,H5,J5.re (X:=X.kR e) (A':=X.A) (cm:=X.calm) (E':=X.xe) I.ok.hd rfl,rv,q5⟩
end L2
namespace K27
open PySem L2 PyProof Dt
abbrev Ym:cc:=inClass (top 142) 0
abbrev Yn:cc:=top 160
abbrev Yb:cc:=top 148
abbrev Yd:cc:=top 147
abbrev Yh:cc:=top 155
abbrev Yp:cc:=top 157
def xo(v:V):List (Str×V):=[("room",.int 400),("machine",v)]
inductive Dm(K:Fg)(C CH:jp)(B:Hp):Option Ms->V->Hp->Prop
 |no {H:Hp}:Dm K C CH B none .qd H
 |ma {H:Hp} {d:Ad} {m:Ms} (dC:d.C=C) (dH:d.CH=CH) (ms:MS K B d m H) (wf:m.Wf) (cn:m.code≠[]):Dm K C CH B (some m) (.ref d.m) H
inductive Dk(K:Fg)(C CH CD:jp)(B:Hp)(a:jp)(S:Option Ms)(H:Hp):Prop
 |mk (dx:jp) (v:V) (g:qv B H) (n:B a=none) (e:H a=some (.ins CD dx (xo v))) (o:Dm K C CH B S v H)
section
variable {B B0:Hp}
theorem MS.base{d:Ad}(h:MS K B d m H)(g:qv B0 B):MS K B0 d m H:=
 ⟨g.trans h.g,g.none _ h.nm,g.none _ h.nh,g.none _ h.ns,g.none _ h.np,g.none _ h.nt,h.mo,h.ho,h.so,h.po,h.lo,h.to,h.mh,h.d1,h.d2,h.d3,h.d4,h.d5,h.d6⟩
theorem Dk.grow(h:Dk K C CH CD B a S H)(g:qv H H'):Dk K C CH CD B a S H':=by
 obtain⟨dx,v,g0,n,e,o⟩:=h
 refine⟨dx,v,g0.trans g,n,g.same _ _ e,?_⟩
 cases o with
 |no=>exact .no
 |ma dC dH ms wf cn=>exact .ma dC dH (ms.grow g) wf cn
theorem MS.TN{d:Ad}(h:MS K B d m H)(kt:jt K H (upd H a o))(g:qv B0 (upd H a o))(gn:∀b,B b=none->b≠a->B0 b=none)(e1:d.m≠a)(e2:d.hp≠a)(e3:d.st≠a)(e4:d.pd≠a)(e5:d.th≠a)(e6:d.l≠a):MS K B0 d m (upd H a o):=
 ⟨g,gn _ h.nm e1,gn _ h.nh e2,gn _ h.ns e3,gn _ h.np e4,gn _ h.nt e5,(qm e1).trans h.mo,(qm e2).trans h.ho,kj kt e3 h.so,kj kt e4 h.po,kj kt e6 h.lo,kj kt e5 h.to,h.mh,h.d1,h.d2,h.d3,h.d4,h.d5,h.d6⟩
theorem TF{d:Ad}(h:MS K B d m H)(e:H a=some (.ins CD dx (xo v))):d.m≠a/\d.hp≠a/\d.st≠a/\d.pd≠a/\d.th≠a/\d.l≠a:=by
 have nl:∀{b:jp}{ds:List Dt},(∃vs,H b=some (.lst vs)/\qf K H ds vs)->b≠a:=λ⟨vs,x,_⟩=>j9 x e (by intro z;cases z)
 refine⟨j9 h.mo e ?_,j9 h.ho e ?_,nl h.so,nl h.po,nl h.to,nl h.lo⟩
 ·intro z
  injection z with _ _ z
  have :=ag R' z
  simp[z6,xo]at this
 ·intro z
  injection z with _ _ z
  have :=ag R' z
  simp[xB,xo]at this
theorem qlP(e:H a=some o):upd H a o=H:=by
 funext b
 by_cases z:b=a
 ·subst z;rw[qu,e]
 ·exact qm z
theorem MS.qlR{d:Ad}(h:MS K B d m H)(e:H a=some (.ins CD dx (xo v))):MS K (upd B a (.ins CD dx (xo v))) d m H:=by
 obtain⟨e1,e2,e3,e4,e5,e6⟩:=TF h e
 refine⟨⟨λb o hb=>?_,λb hb=>?_⟩,(qm e1).trans h.nm,(qm e2).trans h.nh,(qm e3).trans h.ns,(qm e4).trans h.np,(qm e5).trans h.nt,h.mo,h.ho,h.so,h.po,h.lo,h.to,h.mh,h.d1,h.d2,h.d3,h.d4,h.d5,h.d6⟩
 ·by_cases z:b=a
  ·subst z;rw[qu]at hb;cases hb;exact e
  ·rw[qm z]at hb;exact h.g.same _ _ hb
 ·have z:b≠a:=λz=>by subst z;rw[e]at hb;cases hb
  rw[qm z];exact h.g.none _ hb
theorem TH(n:B a=none):qv B (upd B a o):=qv.put n
theorem Dk.list{D:jp}{zs:List V}(h:Dk K C CH CD B a S H)(hD:B D=some (.lst (ys)))(hs:∀y∈ys,∃t,y=V.str t):Dk K C CH CD (upd B D (.lst zs)) a S (upd H D (.lst zs)):=by
 obtain⟨dx,v,g,n,e,o⟩:=h
 have eD:=g.same _ _ hD
 have TR:a≠D:=λz=>by subst z;rw[n]at hD;cases hD
 have gg:qv (upd B D (.lst zs)) (upd H D (.lst zs)):=⟨λb o hb=>by
  by_cases z:b=D
  ·subst z;rw[qu]at hb⊢;exact hb
  ·rw[qm z]at hb⊢;exact g.same _ _ hb,λb hb=>by
  by_cases z:b=D
  ·subst z;rw[qu]at hb;cases hb
  ·rw[qm z]at hb⊢;exact g.none _ hb⟩
 refine⟨dx,v,gg,(qm TR).trans n,(qm TR).trans e,?_⟩
 cases o with
 |no=>exact .no
 | @ma _ d m dC dH ms wf cn=>
  have kt:jt K H (upd H D (.lst zs)):=qS.jv ((qS.refl D H).set eD) eD
  have nb:∀{b:jp},B b=none->b≠D:=λhb z=>by subst z;rw[hD]at hb;cases hb
  refine .ma dC dH (ms.TN kt gg (λb hb z=>(qm z).trans hb) (nb ms.nm) (nb ms.nh) (nb ms.ns) (nb ms.np) (nb ms.nt) λz=>?_) wf cn
  obtain⟨vs,hl,hv⟩:=ms.lo
  rw[z,eD]at hl
  cases hl
  cases hc:m.code with
  |nil=>exact cn hc
  |cons o r=>
   rw[hc]at hv
   obtain⟨x,r',rfl,hx,_⟩:=zA hv
   obtain⟨t,rfl⟩:=hs x xK
   obtain⟨ca,us,z2,_⟩:=mq hx
   cases z2
end
structure Dc(K:Fg)(CD:jp):Prop where
 cl:vJ K CD
 n1:jO K CD "room"
 n2:jO K CD "machine"
theorem T6(v:V):(xo v).lookup ("machine":Str)=some v:=by
 unfold xo
 rw[kx,show(("machine":Str)=="room")=false by ext,kx,y8]
theorem qlS(v:V):(xo v).lookup ("room":Str)=some (.int 400):=by
 unfold xo
 rw[kx,y8]
section
variable {base:ll} {fR fU:jp} {dR dS dU:ol} {NM BR ND:jp}
inductive qlT(CD:jp)(vs:List V)(H:Hp)(Q:VK):Prop
 |mk (p:jp) (dx:jp) (qQ:vs=[.ref p]) (qZ:H p=some (.ins CD dx [])) (qV:Q .qd (upd H p (.ins CD dx (xo .qd))))
def T7(CD:jp):Sp:=λvs H Q zh=>qlT CD vs H Q
theorem qlA:qO ["self"] ["self"] (qK Ym):=by symm
theorem qlE(F:qJ K "__init__" "Desk.__init__" Ym .none f fd)(M:Dc K CD)(G:ZM mg):∅ 1 f fd ["self"] (T7 CD):=by
 refine F.qB qlA (by grind) ?_
 omega
 obtain⟨p,dx,rfl,hp,q⟩:=h
 obtain⟨t4,m4⟩:=G.W6
 refine⟨_,qc (xj (pv 0) (zf (v:=.int 400) (by rfl) m4 ⟨t4,rfl⟩) rfl) (qg (xj (pv 0) d9 rfl)),?_⟩
 left
 refine⟨_,rfl,p,CD,dx,[],rfl,hp,M.cl,M.n1,(by decide),?_⟩
 rw[show zP ("room":Str) (.int 400) []=([("room",.int 400)]:List (Str×V))from rfl]
 refine⟨_,rfl,p,CD,dx,_,rfl,qu,M.cl,M.n2,(by show 1<1000;decide),?_⟩
 rw[oK (ks:=["room"]) (by ext) rfl,uL]
 exact q
structure EM(K:Fg)(mg:Str->Option zt)(c:Str)(NM:jp)(bm:List zt):Prop where
 x:XC K NM bm
 i:PySem.W.findIn K (.ref NM) "__init__"=some (some (.builtin "ValueError.__init__"))
 m:mg c=some (.ref NM)
inductive ql0(K:Fg)(C:jp)(CH:jp)(CD:jp)(NM:jp)(vs:List V)(H:Hp)(Q:VK)(E:XK):Prop
 |mk (B:Hp) (a:jp) (S:Option Ms) (qQ:vs=[.ref a]) (qZ:Dk K C CH CD B a S H) (qV:(S=none->Rz NM H E)) (qG:∀dx v,H a=some (.ins CD dx (xo v))->S≠none->Dm K C CH B S v H->Q v H)
def ZR(K:Fg)(C CH CD NM:jp):Sp:=λvs H Q E=>ql0 K C CH CD NM vs H Q E
theorem ql1:qO ["desk"] ["desk"] (qK Yn):=by symm
theorem ql2(F:qJ K "standing_machine" "standing_machine" Yn .none f fd)(M:Dc K CD)(U:EM K mg "NoMachine" NM bm):∅ 1 f fd ["desk"] (ZR K C CH CD NM):=by
 refine F.jI ql1 (by grind) ?_
 omega
 obtain⟨B,a,S,rfl,hk,qn,q⟩:=h
 refine⟨_,qc (qP (eL (JX (qT (pv 0) rfl))) (qg (ir U.x (nZ U.x U.i (by rfl) U.m (qx qh qk)))) zq) (qg (qW (qT (pv 0) rfl))),?_⟩
 left
 obtain⟨dx,v,g,n,e,o⟩:=hk
 refine⟨_,rfl,a,CD,dx,_,_,rfl,e,M.cl,M.n2,T6 _,?_⟩
 refine⟨_,rfl,?_⟩
 cases o with
 |no=>exact jG (by ext) (yW (qn rfl) (qv.refl H))
 |ma dC dH ms wf cn=>exact z0 (xn (by intro z;cases z)) ⟨_,rfl,a,CD,dx,_,_,rfl,e,M.cl,M.n2,T6 _,q dx _ e (by intro z;cases z) (.ma dC dH ms wf cn)⟩
inductive ql3(K:Fg)(C:jp)(CH:jp)(CD:jp)(NM:jp)(vs:List V)(H:Hp)(Q:VK)(E:XK):Prop
 |mk (B:Hp) (a:jp) (S:Option Ms) (n:Nat) (qQ:vs=[.ref a,.int (n:Nat)]) (qZ:Dk K C CH CD B a S H) (qV:(S=none->Rz NM H E)) (qG:∀m,S=some m->∃zg m',m.run zg n=some m'/\m'.code≠[]/\∀H',Dk K C CH CD B a (some m') H'->Q (.str m'.st.str) H')
def T8(K:Fg)(C CH CD NM:jp):Sp:=λvs H Q E=>ql3 K C CH CD NM vs H Q E
theorem ql4:qO ["desk","count"] ["desk","count"] (qK Yb):=by symm
theorem ql5(F:qJ K "go_on" "go_on" Yb .none f fd)(M:Mc K C)(GS:⋯ 1 "standing_machine" ["desk"] (ZR K C CH CD NM))(mR:Meth K C "run" fR)(GR:∅ j fR dR ["self","steps"] (W5 K C CH))(bR:Binds K dR ["self","steps"] [])(hj:1<=j):∅ (j+1) f fd ["desk","count"] (T8 K C CH CD NM):=by
 refine F.jI ql4 (by grind) ?_
 omega
 obtain⟨B,a,S,n,rfl,hk,qn,q⟩:=h
 refine⟨_,qg (qW (iA (jB GS (hr.mono hj) (qx (pv 0) qk)) M.cl mR GR hr bR .nil z8 (qx (pv 1) qk))),?_⟩
 left
 refine⟨_,rfl,B,a,S,rfl,hk,qn,λdx v e hS o=>?_⟩
 cases o with
 |no=>exact absurd rfl hS
 | @ma _ d m dC dH ms wf cn=>
  subst dC dH
  obtain⟨zg,m',Yr,cn',q⟩:=q m rfl
  obtain⟨_,_,_,nB,_,_⟩:=hk
  refine⟨d.m,d.dx,_,rfl,ms.mo,rfl,_,rfl,_,d,m,m',zg,(n:Nat),rfl,rfl,rfl,ms.qlR e,wf,Yr,λx y H1 h1 w1=>?_⟩
  exact q H1 ⟨dx,_,(TH nB).trans h1.g,nB,h1.g.same _ _ qu,.ma (d:=d.mv x y) rfl rfl (h1.base (TH nB)) w1 cn'⟩
inductive ql7(K:Fg)(C:jp)(CH:jp)(CD:jp)(NM:jp)(ND:jp)(vs:List V)(H:Hp)(Q:VK)(E:XK):Prop
 |mk (B:Hp) (a:jp) (S:Option Ms) (qQ:vs=[.ref a]) (qZ:Dk K C CH CD B a S H) (qV:(S=none->Rz NM H E)) (qG:∀m,S=some m->(m.st≠ .done->Rz ND H E)/\(m.st= .done->∃(v:AV)(zg:Nat)(ts:List Str),m.qI=[v]/\zg<=100000/\Ms.texts m.things zg [.value v] 1000 []=some (some ts)/\∀H',qv H H'->Q (.str (fw (uk "") ts)) H'))
def T9(K:Fg)(C CH CD NM ND:jp):Sp:=λvs H Q E=>ql7 K C CH CD NM ND vs H Q E
theorem ql8:qO ["desk"] ["desk"] (qK Yh):=by symm
theorem ql9(F:qJ K "show" "show" Yh .none f fd)(M:Mc K C)(GS:⋯ 1 "standing_machine" ["desk"] (ZR K C CH CD NM))(mS:Meth K C "shown" fS)(dc:∅ 5 fS dS ["self"] (Yi K C CH ND))(bS:Binds K dS ["self"] []):∅ 6 f fd ["desk"] (T9 K C CH CD NM ND):=by
 refine F.jI ql8 (by grind) ?_
 omega
 obtain⟨B,a,S,rfl,hk,qn,q⟩:=h
 refine⟨_,qg (qW (we (jB GS (hr.mono (by decide)) (qx (pv 0) qk)) M.cl mS dc hr bS .nil wZ)),?_⟩
 left
 refine⟨_,rfl,B,a,S,rfl,hk,qn,λdx v e hS o=>?_⟩
 cases o with
 |no=>exact absurd rfl hS
 | @ma _ d m dC dH ms wf cn=>exact⟨d.m,d.dx,_,rfl,dC▸ms.mo,rfl,B,d,m,rfl,dC,dH,ms,wf,(q m rfl).1,(q m rfl).2⟩
inductive qgq(K:Fg)(C:jp)(CH:jp)(g:Ms->V)(vs:List V)(H:Hp)(Q:VK):Prop
 |mk (H0:Hp) (d:Ad) (m:Ms) (qQ:vs=[.ref d.m]) (qZ:d.C=C) (qV:d.CH=CH) (qG:MS K H0 d m H) (zm:Q (g m) H)
def Aq(K:Fg)(C CH:jp)(g:Ms->V):Sp:=λvs H Q zh=>qgq K C CH g vs H Q
theorem qgz:qO ["self"] ["self"] (qK WX):=by symm
theorem qgj(F:qJ K "used" "Machine.used" WX .none f fd)(M:Mc K C)(N:Hc K CH)(mU:Meth K CH "used" fU)(GU:∅ 1 fU dU ["self"] (tQ K CH λm=>.int (m.things.length:Nat)))(bU:Binds K dU ["self"] []):
  ∅ 2 f fd ["self"] (Aq K C CH λm=>.int (m.things.length:Nat)):=by
 refine F.qB qgz (by grind) ?_
 omega
 obtain⟨H0,d,m,rfl,rfl,rfl,h,q⟩:=h
 refine⟨_,qg (qW (we (qT (pv 0) rfl) N.cl mU GU hr bU .nil z8)),?_⟩
 left
 exact⟨_,rfl,d.m,d.C,d.dx,_,_,rfl,h.mo,M.cl,M.n2,gS _ _,d.hp,d.dh,_,rfl,h.ho,oV _ _ (by ext),H0,d,m,rfl,rfl,h,q⟩
inductive qgx(K:Fg)(C:jp)(CH:jp)(CD:jp)(NM:jp)(vs:List V)(H:Hp)(Q:VK)(E:XK):Prop
 |mk (B:Hp) (a:jp) (S:Option Ms) (qQ:vs=[.ref a]) (qZ:Dk K C CH CD B a S H) (qV:(S=none->Rz NM H E)) (qG:∀m,S=some m->m.things.length<=1000/\Q (.str (toString m.things.length)) H)
def Az(K:Fg)(C CH CD NM:jp):Sp:=λvs H Q E=>qgx K C CH CD NM vs H Q E
theorem qgk:qO ["desk"] ["desk"] (qK Yp):=by symm
theorem qgv(F:qJ K "tell_used" "tell_used" Yp .none f fd)(M:Mc K C)(zS:mg "str"=none)(GS:⋯ 1 "standing_machine" ["desk"] (ZR K C CH CD NM))(mU:Meth K C "used" fU)(GU:∅ 2 fU dU ["self"] (Aq K C CH λm=>.int (m.things.length:Nat)))(bU:Binds K dU ["self"] []):∅ 3 f fd ["desk"] (Az K C CH CD NM):=by
 refine F.jI qgk (by grind) ?_
 omega
 obtain⟨B,a,S,rfl,hk,qn,q⟩:=h
 refine⟨_,qg (qW (wD Bk (by rfl) zS L' (qx (we (jB GS (hr.mono (by decide)) (qx (pv 0) qk)) M.cl mU GU hr bU .nil z8) qk))),?_⟩
 left
 refine⟨_,rfl,B,a,S,rfl,hk,qn,λdx v e hS o=>?_⟩
 cases o with
 |no=>exact absurd rfl hS
 | @ma _ d m dC dH ms wf cn=>
  obtain⟨l1,q⟩:=q m rfl
  refine⟨d.m,d.dx,_,rfl,dC▸ms.mo,rfl,B,d,m,rfl,dC,dH,ms,_,rfl,?_,?_⟩
  ·have :(m.things.length:Nat).log2<=m.things.length:=Nat.log2_le_self _
   show(m.things.length:Nat).log2<1920
   lia
  ·exact q
inductive qgw(K:Fg)(C:jp)(CH:jp)(CD:jp)(BR:jp)(vs:List V)(H:Hp)(Q:VK)(E:XK):Prop
 |mk (B:Hp) (a:jp) (S:Option Ms) (n:Nat) (qQ:vs=[.ref a,.int (n:Nat)]) (qZ:Dk K C CH CD B a S H) (qV:((n<8\/400<n)/\Rz BR H E\/n=400/\∀H',Dk K C CH CD B a S H'->Q (.str "ok") H'))
def Aj(K:Fg)(C CH CD BR:jp):Sp:=λvs H Q E=>qgw K C CH CD BR vs H Q E
theorem qgy:qO ["desk","count"] ["desk","count"] (qK Yd):=by symm
theorem qgu(F:qJ K "set_room" "set_room" Yd .none f fd)(M:Dc K CD)(G:ZM mg)(U:EM K mg "BadRow" BR bm):∅ 1 f fd ["desk","count"] (Aj K C CH CD BR):=by
 refine F.jI qgy (by grind) ?_
 omega
 obtain⟨B,a,S,n,rfl,hk,hq⟩:=h
 obtain⟨t8,m8⟩:=G.S5
 obtain⟨t4,m4⟩:=G.W6
 refine⟨_,qc (qP (PW.pt (yb (qM nk (pv 1) (zf (v:=.int 8) (by rfl) m8 ⟨t8,rfl⟩) (qR _)) (iS (qM yf (pv 1) (zf (v:=.int 400) (by rfl) m4 ⟨t4,rfl⟩) (qR _))))) (qg (ir U.x (nZ U.x U.i (by rfl) U.m (qx qh qk)))) zq)
  (qc (xj (pv 0) (pv 1) rfl) (qg (qW qh))),?_⟩
 left
 refine⟨_,rfl,_,_,rfl,rfl,_,rfl,?_⟩
 rcases hq with⟨hn,qE⟩|⟨rfl,q⟩
 ·refine zB (λz=>?_) (λz=>?_)
  ·exact yW qE (qv.refl H)
  have :¬((n:Int)<8):=λy=>z (vw y)
  refine⟨_,rfl,_,_,rfl,rfl,_,rfl,jG (vw (by lia)) ?_⟩
  exact yW qE (qv.refl H)
 ·refine z0 (by ext) ⟨_,rfl,_,_,rfl,rfl,_,rfl,z0 (by ext) ?_⟩
  obtain⟨dx,v,g,nB,e,o⟩:=hk
  refine⟨_,rfl,_,rfl,a,CD,dx,_,rfl,e,M.cl,M.n1,(by show 2<1000;decide),?_⟩
  have ef:zP ("room":Str) (.int ((400:Nat):Int)) (xo v)=xo v:=rfl
  rw[ef,show upd H a (.ins CD dx (xo v))=H from qlP e]
  exact q H ⟨dx,v,g,nB,e,o⟩
end
end K27
open PySem
namespace Ms
noncomputable def iter:Nat->Ms->Option Ms
 |0,m=>some m
 |k+1,m=>if m.st= .running then m.order.bind (iter k)else none
end Ms
open PySem
namespace Pt
noncomputable def Nums:Pt->Prop
 | .num n=>kh n
 | .one _ p=>Nums p
 | .two _ p q=>Nums p/\Nums q
 | .jy _ p q=>Nums p/\Nums q
 | .fn _ _ p=>Nums p
 | .rc _ _ _ _ p=>Nums p
 |_=>True
theorem dQ{c d:List zX}(h:∀o∈c,o.ok)(g:∀o∈d,o.ok):∀o∈c++d,o.ok:=λo ho=>(ip.mp ho).elim (h o) (g o)
theorem c8{o:zX}(h:o.ok):∀x∈[o],x.ok:=λx hx=>by rw[xX.mp hx];exact h
theorem c9{c:List zX}{b:Bool}(h:∀o∈c,o.ok):∀o∈told b c,o.ok:=by
 unfold told
 cases b
 ·exact h
 ·exact dQ h (c8 trivial)
theorem qgo(u:U1):(u1 u).ok:=by cases u<;>(first|trivial|(show(_,_)∈_;simp))
theorem qgi(u:U2):(u2 u).ok:=by cases u<;>first|trivial|(show _≠_;intro z;cases z)
theorem ly:∀{p:Pt}{sl:Sl}{h:Nat}{b:Bool},Nums p->p.sz<=50000->∀o∈codeOf p sl h b,o.ok
 | .num n,sl,h,b,hn,hz=>c9 (c8 hn)
 | .zI n,sl,h,b,hn,hz=>c9 (c8 trivial)
 | .jx n,sl,h,b,hn,hz=>c9 (c8 trivial)
 | .nil n,sl,h,b,hn,hz=>c9 (c8 trivial)
 | .one u p,sl,h,b,hn,hz=>c9 (dQ (ly (p:=p) hn (by simp only[sz]at hz;lia)) (c8 (qgo u)))
 | .two u p q,sl,h,b,hn,hz=>by
  have z1:p.sz<=50000:=by simp only[sz]at hz;lia
  have z2:q.sz<=50000:=by simp only[sz]at hz;lia
  have ho:∀u',(∀o∈told b (codeOf p sl h false++codeOf q sl (h+1) false++[u2 u']),o.ok):=λu'=>c9 (dQ (dQ (ly hn.1 z1) (ly hn.2 z2)) (c8 (qgi u')))
  cases u
  case call=>exact dQ (dQ (ly hn.1 z1) (ly hn.2 z2)) (c8 (by cases b<;>trivial))
  case cons=>exact ho .cons
  case pair=>exact ho .pair
  case plus=>exact ho .plus
  case over=>exact ho .over
 | .jy x p q,sl,h,b,hn,hz=>λo ho=>by cases ho
 | .fn x k p,sl,h,b,hn,hz=>by
  have hl:=yX (.fn x k p)
  refine c9 λo ho=>?_
  rcases js.mp ho with rfl|ho
  ·show(List.map _ _).length<=50000
   rw[za];lia
  ·exact ly (p:=p) hn (by simp only[sz]at hz;lia) o ho
 | .rc f x k l p,sl,h,b,hn,hz=>by
  have hl:=yX (.rc f x k l p)
  refine c9 λo ho=>?_
  rcases js.mp ho with rfl|ho
  ·show(List.map _ _).length<=50000
   rw[za];lia
  ·exact ly (p:=p) hn (by simp only[sz]at hz;lia) o ho
end Pt
namespace Ms
theorem Ax{R:Nat}(hn:p.Nums)(hz:p.sz<=50000)(hR:R<=1000):(new (Pt.codeOf p [] 0 true) R).Wf:=
 ⟨io _,(λv h=>by cases h),(λt h=>by cases h),Pt.ly hn hz,by have :=Pt.gw p [] 0 true;show(Pt.codeOf p [] 0 true).length<=_;lia,hR,io _⟩
end Ms
namespace K27
open PySem L2 PyProof Dt
abbrev Ys:cc:=top 159
abbrev Yt:cc:=top 150
abbrev Ye:cc:=top 151
abbrev YQ:cc:=top 152
inductive Er|iF|jN|mj|tH|mw (k:Nat)|noName (x:Str)
def Er.of:Bad->Er
 | .jN=>.jN
 | .oi x=>.noName x
structure Cl where
 BT:jp
 NN:jp
 UF:jp
 BR:jp
 NM:jp
 ND:jp
def wy(Z:Cl)(H:Hp)(E:XK):Er->Prop
 | .mw k=>Rb Z.BT k H E
 | .noName x=>cP Z.UF Z.NN H E (.oi x)
 | .jN=>cP Z.UF Z.NN H E .jN
 | .iF=>Rz Z.BR H E
 | .mj=>Rz Z.NM H E
 | .tH=>Rz Z.ND H E
inductive Cm(z:Str):Except Er (Pt×Kd)->Prop
 |bad {k:Nat} (h:iG z=some (.error k)):Cm z (.error (.mw k))
 |no {p:Pt} {b:Bad} (h:iG z=some (.ok p.dt)) (g:Pg p) (f:Pt.fit [] p= .error b):Cm z (.error (Er.of b))
 |ok {p:Pt} {κ:Kd} (h:iG z=some (.ok p.dt)) (g:Pg p) (f:Pt.fit [] p= .ok κ) (nl:NL p=true):Cm z (.ok (p,κ))
theorem wy.grow{Z:Cl}{E:XK}{b:Bad}(h:wy Z H E (Er.of b))(g:qv H H'):cP Z.UF Z.NN H' E b:=by
 cases b with
 |jN=>exact λe t H2 g2=>h e t H2 (g.trans g2)
 |oi x=>exact λe t d H2 g2=>h e t d H2 (g.trans g2)
section
variable {base:ll} {fR:jp} {dI dR dS:ol} {Z:Cl}
def MoE(K:Fg)(C CH:jp)(Z:Cl)(H:Hp)(Q:VK)(E:XK):Except Er (Pt×Kd)->Prop
 | .error e=>wy Z H E e
 | .ok (p,_)=>∀H1(d:Ad)H',qv H H1->d.C=C->d.CH=CH->MS K H1 d (Ms.new (Pt.codeOf p [] 0 true) 400) H'->Q (.ref d.m) H'
inductive qgl(K:Fg)(C:jp)(CH:jp)(CD:jp)(Z:Cl)(vs:List V)(H:Hp)(Q:VK)(E:XK):Prop
 |mk (a:jp) (dx:jp) (v:V) (z:Str) (o:Except Er (Pt×Kd)) (qQ:vs=[.ref a,.str z]) (qZ:H a=some (.ins CD dx (xo v))) (qV:z.length<=2000) (qG:Cm z o) (zm:MoE K C CH Z H Q E o)
def YZ(K:Fg)(C CH CD:jp)(Z:Cl):Sp:=λvs H Q E=>qgl K C CH CD Z vs H Q E
theorem qgg:qO ["desk","text"] ["desk","text"] (qK Ys):=by symm
theorem qgm(F:qJ K "machine_of" "machine_of" Ys .none f fd)(M:Dc K CD)(dZ:⋯ 49 "read" ["text"] (VT K Z.BT))(GC:⋯ 174 "compiled" ["part"] (P6 K Z.UF Z.NN))(mM:mg "Machine"=some (.ref C))(KM:Mk K C fI)(GI:∅ 3 fI dI ["self","code","room"] (S6 K C CH))(bI:Binds K dI ["self","code","room"] []):
  ∅ 175 f fd ["desk","text"] (YZ K C CH CD Z):=by
 refine F.jI qgg (by grind) ?_
 omega
 obtain⟨a,dx,v,z,o,rfl,ha,hz,hc,q⟩:=h
 refine⟨_,qg (qW (J' KM GI (hr.mono (show 4<=174 by decide)) (by rfl) mM bI .nil z8 (qx (jB GC hr (qx (jB dZ (hr.mono (by decide)) (qx (pv 1) qk)) qk)) (qx (qT (pv 0) rfl) qk)))),?_⟩
 left
 cases hc with
 |bad h=>exact⟨_,rfl,z,_,rfl,hz,h,q⟩
 |no h g f=>exact⟨_,rfl,z,_,rfl,hz,h,λu H1 g1 hu=>⟨u,_,rfl,hu,g,by rw[f];exact wy.grow q g1⟩⟩
 | @ok p κ h g f nl'=>
  refine⟨_,rfl,z,_,rfl,hz,h,λu H1 g1 hu=>⟨u,p,rfl,hu,g,?_⟩⟩
  rw[f]
  refine⟨nl',λl ys H2 g2 nl el cD=>?_⟩
  refine⟨_,rfl,a,CD,dx,_,_,rfl,(g1.trans g2).same _ _ ha,M.cl,M.n1,qlS _,λx kH hx sS ne=>?_⟩
  have gg:qv H2 (upd (upd H2 kH (.own x)) x (.ins C kH [])):=(qv.put sS).trans (qv.put (by rw[qm ne.symm];exact hx))
  have me:(upd (upd H2 kH (.own x)) x (.ins C kH [])) x=some (.ins C kH []):=qu
  generalize upd (upd H2 kH (.own x)) x (.ins C kH [])=H3 at gg me⊢
  exact⟨H2,x,kH,l,ys,_,400,rfl,gg,hx,me,el,cD,by decide,by decide,λd H4 dC dCH dm hms=>⟨rfl,dm▸q H2 d H4 (g1.trans g2) dC dCH hms⟩⟩
def TkE(Z:Cl)(H:Hp)(Q:VK)(E:XK):Except Er (Pt×Kd)->Prop
 | .error e=>wy Z H E e
 | .ok (_,κ)=>κ.qa<8/\κ.sz<=40/\∀H',qv H H'->Q (.str (txt κ)) H'
inductive qgf(Z:Cl)(vs:List V)(H:Hp)(Q:VK)(E:XK):Prop
 |mk (v:V) (z:Str) (o:Except Er (Pt×Kd)) (qQ:vs=[v,.str z]) (qZ:z.length<=2000) (qV:Cm z o) (qG:TkE Z H Q E o)
def Ak(Z:Cl):Sp:=λvs H Q E=>qgf Z vs H Q E
theorem qgh:qO ["desk","text"] ["desk","text"] (qK Yt):=by symm
theorem qgp(F:qJ K "tell_kind" "tell_kind" Yt .none f fd)(dZ:⋯ 49 "read" ["text"] (VT K Z.BT))(GK:⋯ 173 "kind_of" ["part"] (Vr K Z.UF Z.NN))(GT:⋯ 9 "kind_text" ["kind"] (bK K 8)):∅ 174 f fd ["desk","text"] (Ak Z):=by
 refine F.jI qgh (by grind) ?_
 omega
 obtain⟨v,z,o,rfl,hz,hc,q⟩:=h
 refine⟨_,qg (qW (zw GT (hr.mono (by decide)) (qx (jB GK hr (qx (jB dZ (hr.mono (by decide)) (qx (pv 1) qk)) qk)) qk))),?_⟩
 left
 cases hc with
 |bad h=>exact⟨_,rfl,z,_,rfl,hz,h,q⟩
 |no h g f=>exact⟨_,rfl,z,_,rfl,hz,h,λu H1 g1 hu=>⟨u,_,rfl,hu,g,by rw[f];exact wy.grow q g1⟩⟩
 | @ok p κ h g f nl'=>
  refine⟨_,rfl,z,_,rfl,hz,h,λu H1 g1 hu=>⟨u,p,rfl,hu,g,?_⟩⟩
  rw[f]
  exact λu H2 g2 uo=>⟨u,κ,rfl,uo,q.1,q.2.1,λH3 g3=>q.2.2 H3 ((g1.trans g2).trans g3)⟩
def BgE(K:Fg)(C CH CD:jp)(Z:Cl)(B:Hp)(a:jp)(H:Hp)(Q:VK)(E:XK):Except Er (Pt×Kd)->Prop
 | .error e=>wy Z H E e
 | .ok (p,_)=>p.Nums/\Pt.codeOf p [] 0 true≠[]/\∀H',Dk K C CH CD B a (some (Ms.new (Pt.codeOf p [] 0 true) 400)) H'->Q (.str "ok") H'
inductive qgs(K:Fg)(C:jp)(CH:jp)(CD:jp)(Z:Cl)(vs:List V)(H:Hp)(Q:VK)(E:XK):Prop
 |mk (B:Hp) (a:jp) (S:Option Ms) (z:Str) (o:Except Er (Pt×Kd)) (qQ:vs=[.ref a,.str z]) (qZ:Dk K C CH CD B a S H) (qV:z.length<=2000) (qG:Cm z o) (zm:BgE K C CH CD Z B a H Q E o)
def Av(K:Fg)(C CH CD:jp)(Z:Cl):Sp:=λvs H Q E=>qgs K C CH CD Z vs H Q E
theorem qgt:qO ["desk","text"] ["desk","text"] (qK Ye):=by symm
theorem qga(F:qJ K "begin" "begin" Ye .none f fd)(M:Dc K CD)(GM:⋯ 175 "machine_of" ["desk","text"] (YZ K C CH CD Z)):∅ 176 f fd ["desk","text"] (Av K C CH CD Z):=by
 refine F.jI qgt (by grind) ?_
 omega
 obtain⟨B,a,S,z,o,rfl,hk,hz,hc,q⟩:=h
 obtain⟨dx,v,g,nB,e,om⟩:=hk
 refine⟨_,qc (xj (pv 0) (jB GM hr (qx (pv 0) (qx (pv 1) qk))) rfl) (qg (qW qh)),?_⟩
 left
 refine⟨_,rfl,_,rfl,a,dx,v,z,o,rfl,e,hz,hc,?_⟩
 cases hc with
 |bad h=>exact q
 |no h g f=>exact q
 | @ok p κ h gp f=>
  intro H1 d H2 g1 dC dH ms
  obtain⟨hn,xT,q⟩:=q
  have e2:H2 a=some (.ins CD dx (xo v)):=ms.g.same _ _ (g1.same _ _ e)
  refine⟨_,rfl,a,CD,dx,_,rfl,e2,M.cl,M.n2,(by show 2<1000;decide),?_⟩
  have ef:zP ("machine":Str) (.ref d.m) (xo v)=xo (.ref d.m):=by kernel_rfl
  rw[ef]
  have gB:qv B H2:=(g.trans g1).trans ms.g
  obtain⟨n1,n2,n3,n4,n5,n6⟩:=TF ms e2
  have gg:qv B (upd H2 a (.ins CD dx (xo (.ref d.m)))):=gB.set nB
  refine q _ ⟨dx,.ref d.m,gg,nB,qu,.ma dC dH ((ms.base (g.trans g1)).TN (gT e2) gg (λb hb _=>hb) n1 n2 n3 n4 n5 n6) (Ms.Ax hn gp.sz (by decide)) xT⟩
inductive tP(p:Pt)(t:Str):Prop
 |stop (zg:Nat) (m':Ms) (h:(Ms.new (Pt.codeOf p [] 0 true) 400).run zg 20000=some m') (n:m'.st≠ .done) (e:m'.st.str=t):tP p t
 |done (zg:Nat) (m':Ms) (h:(Ms.new (Pt.codeOf p [] 0 true) 400).run zg 20000=some m') (d:m'.st= .done) (v:AV) (fl:Nat) (ts:List Str) (s:m'.qI=[v]) (l:fl<=100000) (x:Ms.texts m'.things fl [.value v] 1000 []=some (some ts)) (e:fw (uk "") ts=t):tP p t
def RaE(Z:Cl)(H:Hp)(Q:VK)(E:XK):Except Er (Pt×Kd)->Prop
 | .error e=>wy Z H E e
 | .ok (p,_)=>p.Nums/\∃t,tP p t/\∀H',qv H H'->Q (.str t) H'
inductive qgQ(CD:jp)(Z:Cl)(vs:List V)(H:Hp)(Q:VK)(E:XK):Prop
 |mk (a:jp) (dx:jp) (v:V) (z:Str) (o:Except Er (Pt×Kd)) (qQ:vs=[.ref a,.str z]) (qZ:H a=some (.ins CD dx (xo v))) (qV:z.length<=2000) (qG:Cm z o) (zm:RaE Z H Q E o)
def Aw(CD:jp)(Z:Cl):Sp:=λvs H Q E=>qgQ CD Z vs H Q E
theorem YJ:qO ["desk","text","machine","standing"] ["desk","text"] (qK YQ):=by symm
theorem qgZ(F:qJ K "run_alone" "run_alone" YQ .none f fd)(M:Mc K C)(mN:∃t,mg "STEPS_OF_RUN"=some (.int 20000 t))(GM:⋯ 175 "machine_of" ["desk","text"] (YZ K C CH CD Z))(mR:Meth K C "run" fR)(GR:∅ j fR dR ["self","steps"] (W5 K C CH))(bR:Binds K dR ["self","steps"] [])(hj:j<=175)(mS:Meth K C "shown" fS)(dc:∅ 5 fS dS ["self"] (Yi K C CH Z.ND))(bS:Binds K dS ["self"] []):∅ 176 f fd ["desk","text"] (Aw CD Z):=by
 refine F.jI YJ (by grind) ?_
 omega
 obtain⟨a,dx,v,z,o,rfl,e,hz,hc,q⟩:=h
 obtain⟨tn,mN⟩:=mN
 refine⟨_,qc (qC (i:=2) YJ.nd rfl oI (jB GM hr (qx (pv 0) (qx (pv 1) qk))))
  (qc (qC (i:=3) YJ.nd rfl oI (iA (pv 2) M.cl mR GR (hr.mono hj) bR .nil z8 (qx (zf (v:=.int 20000) (by rfl) mN ⟨tn,rfl⟩) qk)))
  (qg (qW (lU (qM jb (pv 3) qh (qR _)) (we (pv 2) M.cl mS dc (hr.mono (by decide)) bS .nil wZ) (pv 3))))),?_⟩
 left
 refine⟨_,rfl,_,rfl,a,dx,v,z,o,rfl,e,hz,hc,?_⟩
 cases hc with
 |bad h=>exact q
 |no h g f=>exact q
 | @ok p κ h gp f=>
  intro H1 d H2 g1 dC dH ms
  subst dC dH
  obtain⟨hn,t,Yr,q⟩:=q
  have hwf:=Ms.Ax (R:=400) hn gp.sz (by decide)
  right
  obtain⟨zg,m',jS,hk⟩:∃zg m',(Ms.new (Pt.codeOf p [] 0 true) 400).run zg 20000=some m'/\(m'.st≠ .done/\m'.st.str=t\/m'.st= .done/\∃(v:AV)(fl:Nat)(ts:List Str),m'.qI=[v]/\fl<=100000/\Ms.texts m'.things fl [.value v] 1000 []=some (some ts)/\fw (uk "") ts=t):=by
   cases Yr with
   |stop zg m' h n e=>exact⟨zg,m',h,.inl ⟨n,e⟩⟩
   |done zg m' h d v fl ts s l x e=>exact⟨zg,m',h,.inr ⟨d,v,fl,ts,s,l,x,e⟩⟩
  refine⟨_,rfl,d.m,d.dx,_,rfl,ms.mo,rfl,H1,d,_,m',zg,(20000:Nat),rfl,rfl,rfl,ms,hwf,jS,λx y H3 h3 w3=>?_⟩
  right
  have g3:=g1.trans h3.g
  have hd:∀x:Sd,decide (V.str x.str=V.str "done")=decide (x= .done):=by intro x;cases x<;>ext
  refine⟨_,rfl,rfl,_,rfl,?_⟩
  rcases hk with⟨hn,rfl⟩|⟨hdn,v',fl,ts,s1,s2,s3,rfl⟩
  ·exact z0 (by rw[hd];exact xn hn) ⟨_,rfl,q H3 g3⟩
  ·refine jG (by rw[hd];exact vw hdn) ?_
   exact⟨_,rfl,d.m,d.dx,_,rfl,h3.mo,rfl,H1,d.mv x y,m',rfl,rfl,rfl,h3,w3,(λhn=>absurd hdn hn),λ_=>⟨v',fl,ts,s1,s2,s3,λH4 g4=>q H4 (g3.trans g4)⟩⟩
end
abbrev YX:cc:=top 162
abbrev YK:cc:=top 161
def yc(t:Str):Bool:=match t.cps.toList with
 |[]=>true
 |c::_=>decide (V.str ⟨#[c]⟩=V.str "0")
section
variable {base:ll} {Z:Cl}
inductive qgX(Z:Cl)(vs:List V)(H:Hp)(Q:VK)(E:XK):Prop
 |mk (t:Str) (qQ:vs=[.str t]) (qZ:t.length<=1000) (qV:(((wO t&& !yc t&&decide (t.length<=4))=false/\wy Z H E .iF)\/∃n:Nat,(wO t&& !yc t&&decide (t.length<=4))=true/\PySem.intText? t=some (n:Int)/\∀H',qv H H'->Q (.int (n:Nat)) H'))
def Ay(Z:Cl):Sp:=λvs H Q E=>qgX Z vs H Q E
theorem Au:qO ["told","figures"] ["told"] (qK YX):=by symm
theorem qgK(F:qJ K "read_count" "read_count" YX .none f fd)(GR:cS K mg)(mF:∃t,mg "MOST_COUNT_FIGURES"=some (.int 4 t))(U:EM K mg "BadRow" Z.BR bm):∅ 1 f fd ["told"] (Ay Z):=by
 refine F.jI Au (by grind) ?_
 omega
 obtain⟨t,rfl,hl,hq⟩:=h
 obtain⟨t2,m2⟩:=GR.j8
 obtain⟨t4,m4⟩:=mF
 refine⟨_,qc (qC (i:=1) Au.nd rfl oI (jZ (XW rfl) (by rfl) GR.all IR (qx
     (rN (own:=["sign"]) (rest:=[]) (ix:=[]) (Zt (by ext) (by ext) (by rfl) (by ext) (by ext)) rfl (XY (pv 0)) (λC s H fp pins=>ki nX (pv 0) (zf (v:=.str j8) (by rfl) m2 ⟨t2,rfl⟩) rfl) (λC s H fp pins=>xU (i:=0) VL rfl oI (Or.inr (by rfl)))) qk)))
  (qc (qP (PW.pt (yb (fq (ku (pv 1))) (yb (qM jb (pv 0) qh (qR _)) (yb (qM jb (qU Qc (pv 0) qe) qh (qR _)) (iS (qM yf (jZ i7 (by rfl) GR.len xV (qx (pv 0) qk)) (zf (v:=.int 4) (by rfl) m4 ⟨t4,rfl⟩) (qR _))))))) (qg (ir U.x (nZ U.x U.i (by rfl) U.m (qx qh qk)))) zq)
  (qg (qW (wD VM (by rfl) GR.int L9 (qx (pv 0) qk))))),?_⟩
 left
 have kq:t.length<=sizeLine:=by rw[xt];lia
 refine⟨_,rfl,t,rfl,λD hD=>VG (te:=vM QN (zO 0) (tC (.str j8))) (ix:=[]) (σ:=[some (.str t),none]) (z:=t) (f:=λc=>.bl (decide (c∈j8.cps.toList))) kq (λc H' Q' _ q'=>⟨_,rfl,_,_,rfl,rfl,q'⟩) hD ?_⟩
 have ga:=qv.put (o:=.lst (t.cps.toList.map λc=>.bl (decide (c∈j8.cps.toList)))) hD
 refine⟨D,t.cps.toList.map λc=>decide (c∈j8.cps.toList),rfl,qp.of (by rw[qu,Jn];rfl),?_⟩
 have ea:((t.cps.toList.map λc=>decide (c∈j8.cps.toList)).all id)=wO t:=by rw[qqu];rfl
 rw[ea]
 right
 generalize upd H D (.lst (t.cps.toList.map λc=>.bl (decide (c∈j8.cps.toList))))=H1 at ga⊢
 have qE:(wO t&& !yc t&&decide (t.length<=4))=false->Rz Z.BR H E:=λh=>by
  rcases hq with⟨_,qE⟩|⟨n,hb,_⟩
  ·exact qE
  ·rw[hb]at h;cases h
 have gn:qv H H1:=ga
 refine⟨_,rfl,wO t,rfl,?_⟩
 cases hd:wO t with
 |false=>exact zY (yW (qE (by rw[hd];rfl)) gn)
 |true=>
 refine qA ⟨_,rfl,rfl,_,rfl,?_⟩
 cases hc:t.cps.toList with
 |nil=>
  have ht:t="":=Zf (by rw[hc];ext)
  exact jG (by rw[ht];ext) (yW (qE (by unfold yc;rw[hd,hc];rfl)) gn)
 |cons c r=>
 have jP:decide (V.str t=V.str "")=false:=xn λz=>by
  rw[V.str.inj z]at hc
  have e0:("":Str).cps.toList=[]:=by ext
  rw[e0]at hc;cases hc
 refine z0 jP ⟨_,rfl,_,_,c,rfl,rfl,kq,qY (j:=0) (by rw[hc];rfl),rfl,_,rfl,zB (λz=>?_) (λz=>?_)⟩
 ·exact yW (qE (by have :yc t=true:=by {unfold yc;rw[hc];exact z};rw[hd,this];rfl)) gn
 have h0:yc t=false:=by unfold yc;rw[hc];exact cw.mpr z
 refine⟨_,rfl,_,rfl,kq,_,_,rfl,rfl,_,rfl,zB (λz=>?_) (λz=>?_)⟩
 ·have z':(4:Int)<(t.length:Nat):=vi z
  exact yW (qE (by rw[hd,h0,xn (by lia)];rfl)) gn
 ·have z':¬(4:Int)<(t.length:Nat):=λy=>z (vw y)
  rcases hq with⟨hb,_⟩|⟨n,_,hi,q⟩
  ·rw[hd,h0,vw (by lia)]at hb;cases hb
  ·exact⟨_,rfl,t,n,rfl,hi,by lia,q _ gn⟩
end
noncomputable abbrev YV:List Str:=["move","show","made","used"]
noncomputable abbrev texts:List Str:=["kind","begin","run"]
noncomputable abbrev counts:List Str:=["room","go"]
inductive Rk|bad|bare (w:Str)|text (w z:Str)|count (w:Str) (n:Nat)
deriving DecidableEq
noncomputable def Ao (a s b:Str):Rk:=
 if s=""/\a∈YV then .bare a else if s=" "/\a∈texts then .text a b
 else if s=" "/\a∈counts then(if(wO b&& !yc b&&decide (b.length<=4))=true then(match PySem.intText? b with |some (Int.ofNat n)=>.count a n|_=>.bare "")else .bad)else .bad
noncomputable def rk (row:Str):Rk:=Ao (bp row " ").1 (bp row " ").2.1 (bp row " ").2.2
inductive Row(S:Option Ms):Rk->Except Er Str->Option Ms->Prop
 |bad:Row S .bad (.error .iF) S
 |YW (h:S=none):Row S (.bare "show") (.error .mj) S
 |YY (h:S=none):Row S (.bare "used") (.error .mj) S
 |goN {n:Nat} (h:S=none):Row S (.count "go" n) (.error .mj) S
 |ZS {m:Ms} (h:S=some m) (l:m.things.length<=1000):Row S (.bare "used") (.ok (toString m.things.length)) S
 |ZT {m:Ms} (h:S=some m) (d:m.st≠ .done):Row S (.bare "show") (.error .tH) S
 |YU {m:Ms} {v:AV} {fl:Nat} {ts:List Str} (h:S=some m) (d:m.st= .done) (s:m.qI=[v]) (l:fl<=100000) (x:Ms.texts m.things fl [.value v] 1000 []=some (some ts)):Row S (.bare "show") (.ok (fw (uk "") ts)) S
 |ZA {m m':Ms} {zg n:Nat} (h:S=some m) (r:m.run zg n=some m') (c:m'.code≠[]):Row S (.count "go" n) (.ok m'.st.str) (some m')
 |YO {n:Nat} (h:n<8\/400<n):Row S (.count "room" n) (.error .iF) S
 |Ai:Row S (.count "room" 400) (.ok "ok") S
 |err {w z:Str} {e:Er} (h:w∈texts) (l:z.length<=2000) (c:Cm z (.error e)):Row S (.text w z) (.error e) S
 |kind {z:Str} {p:Pt} {κ:Kd} (l:z.length<=2000) (c:Cm z (.ok (p,κ))) (d:κ.qa<8) (s:κ.sz<=40):Row S (.text "kind" z) (.ok (txt κ)) S
 |Ac {z:Str} {p:Pt} {κ:Kd} (l:z.length<=2000) (c:Cm z (.ok (p,κ))) (n:p.Nums) (d:Pt.codeOf p [] 0 true≠[]):Row S (.text "begin" z) (.ok "ok") (some (Ms.new (Pt.codeOf p [] 0 true) 400))
 |run {z t:Str} {p:Pt} {κ:Kd} (l:z.length<=2000) (c:Cm z (.ok (p,κ))) (n:p.Nums) (r:tP p t):Row S (.text "run" z) (.ok t) S
section
variable {base:ll} {f1 f2 f3 f4 g1 g2 g3 k1 k2:jp} {Z:Cl}
structure Al(P:cv)(w:fe)(K:Fg)(mg:Str->Option zt)(base:ll)(C CH CD:jp)(Z:Cl)(j:Nat)(f1 f2 f3 f4 g1 g2 g3 k1 k2:jp):Prop where
 t1:∃a,mg "BARE_ROWS"=some (.ref a)/\kE K a (YV.zip [V.ref f1,.ref f2,.ref f3,.ref f4])
 t2:∃a,mg "TEXT_ROWS"=some (.ref a)/\kE K a (texts.zip [V.ref g1,.ref g2,.ref g3])
 t3:∃a,mg "COUNT_ROWS"=some (.ref a)/\kE K a (counts.zip [V.ref k1,.ref k2])
 a2:At P w K mg base 6 f2 ["desk"] (T9 K C CH CD Z.NM Z.ND)
 a4:At P w K mg base 3 f4 ["desk"] (Az K C CH CD Z.NM)
 b1:At P w K mg base 174 g1 ["desk","text"] (Ak Z)
 b2:At P w K mg base 176 g2 ["desk","text"] (Av K C CH CD Z)
 b3:At P w K mg base 176 g3 ["desk","text"] (Aw CD Z)
 c1:At P w K mg base 1 k1 ["desk","count"] (Aj K C CH CD Z.BR)
 c2:At P w K mg base (j+1) k2 ["desk","count"] (T8 K C CH CD Z.NM)
 hj:j<=175
noncomputable def ZE (K:Fg) (C CH CD:jp) (Z:Cl) (B:Hp) (a:jp) (S:Option Ms) (H:Hp) (Q:VK) (E:XK):Except Er Str->Prop
 | .ok t=>∀H',Dk K C CH CD B a S H'->Q (.str t) H'
 | .error e=>wy Z H E e
inductive qgV(K:Fg)(C:jp)(CH:jp)(CD:jp)(Z:Cl)(vs:List V)(H:Hp)(Q:VK)(E:XK):Prop
 |mk (B:Hp) (a:jp) (S:Option Ms) (S':Option Ms) (row:Str) (an:Except Er Str) (qQ:vs=[.ref a,.str row]) (qZ:row.length<=1000) (qV:Dk K C CH CD B a S H) (qG:Row S (rk row) an S') (zm:ZE K C CH CD Z B a S' H Q E an)
noncomputable def Ag (K:Fg) (C CH CD:jp) (Z:Cl):Sp:=λvs H Q E=>qgV K C CH CD Z vs H Q E
theorem wy.up{E:XK}{e:Er}(h:wy Z H E e)(g:qv H H')(ne:∀b,H' b=none->H b=none):wy Z H' E e:=by
 cases e with
 |mw k=>exact λe t d H2 g2=>h e t d H2 (g.trans g2)
 |noName x=>exact λe t d H2 g2=>h e t d H2 (g.trans g2)
 |jN=>exact λe t H2 g2=>h e t H2 (g.trans g2)
 |iF=>exact λe t H2 g2 n=>h e t H2 (g.trans g2) (ne _ n)
 |mj=>exact λe t H2 g2 n=>h e t H2 (g.trans g2) (ne _ n)
 |tH=>exact λe t H2 g2 n=>h e t H2 (g.trans g2) (ne _ n)
theorem ZE.up{B:Hp}{Q:VK}{E:XK}{an:Except Er Str}(h:ZE K C CH CD Z B a S H Q E an)(g:qv H H'):ZE K C CH CD Z B a S H' Q E an:=by
 cases an with
 |ok t=>exact h
 |error e=>exact wy.up h g g.none
theorem Z0{k:Str}:∀{ks:List Str},k∉ks->vV k ks=none
 |[],_=>rfl
 |x::r,h=>by
  show(if decide (k=x)=true then some 0 else(vV k r).map (·+1))=none
  rw[ke (by intro z;exact h (by rw[vi z];exact xK)),Z0 λz=>h (jF _ z)]
  rfl
theorem Z1:qO ["desk","row","pieces","word","told"] ["desk","row"] (qK YK):=by symm
theorem qgW(F:qJ K "done_row" "done_row" YK .none f fd)(T:Al P w K mg base C CH CD Z j f1 f2 f3 f4 g1 g2 g3 k1 k2)(U:EM K mg "BadRow" Z.BR bm)(GC:⋯ 1 "read_count" ["told"] (Ay Z)):∅ 177 f fd ["desk","row"] (Ag K C CH CD Z):=by
 refine F.jI Z1 (by grind) ?_
 omega
 obtain⟨B,a,S,S',row,an,rfl,hl,hk,jJ,q⟩:=h
 obtain⟨ta,mA,tA⟩:=T.t1
 obtain⟨tb,mB,tB⟩:=T.t2
 obtain⟨tc,mC,YI⟩:=T.t3
 have h1:=hr.mono (show 1<=176 by decide)
 refine⟨_,qc (qC (i:=2) Z1.nd rfl oI (jA PySem.F.plainAttrs_str PySem.F.slot_str_partition PySem.F.type_str_partition qlM (pv 1) (qx qh qk)))
  (qc (qC (i:=3) Z1.nd rfl oI (qU zc (pv 2) qe))
  (qc (qC (i:=4) Z1.nd rfl oI (qU zc (pv 2) qe))
  (qc (qP (PW.pt (lY (qM jb (qU zc (pv 2) qe) qh (qR _)) (lW (qM u6 (pv 3) (zf (v:=.ref ta) (by rfl) mA rfl) rfl)))) (qg (qW (gj (CX:=zJ P w) (qU ux (zf (v:=.ref ta) (by rfl) mA rfl) (pv 3)) (qx (pv 0) qk)))) zq)
  (qc (qP (PW.pt (lY (qM jb (qU zc (pv 2) qe) qh (qR _)) (lW (qM u6 (pv 3) (zf (v:=.ref tb) (by rfl) mB rfl) rfl)))) (qg (qW (gj (CX:=zJ P w) (qU ux (zf (v:=.ref tb) (by rfl) mB rfl) (pv 3)) (qx (pv 0) (qx (pv 4) qk))))) zq)
  (qc (qP (PW.pt (lY (qM jb (qU zc (pv 2) qe) qh (qR _)) (lW (qM u6 (pv 3) (zf (v:=.ref tc) (by rfl) mC rfl) rfl)))) (qg (qW (gj (CX:=zJ P w) (qU ux (zf (v:=.ref tc) (by rfl) mC rfl) (pv 3)) (qx (pv 0) (qx (jB GC h1 (qx (pv 4) qk)) qk))))) zq)
  (qg (ir U.x (nZ U.x U.i (by rfl) U.m (qx qh qk))))))))),?_⟩
 refine⟨_,rfl,rfl,row," ",rfl,rfl,(by decide),(by lia),λl vq=>?_⟩
 unfold rk at jJ
 have hlen:(bp row " ").2.2.length<=1000:=by
  have :=ag Str.length (StrLaws.partition_sum row " ")
  rw[vT,vT]at this
  lia
 generalize bp row " "=pq at jJ hlen⊢
 obtain⟨wd,sp,told⟩:=pq
 have gg:=qv.put (o:=.tup [.str wd,.str sp,.str told]) vq
 have el:qb K (upd H l (.tup [.str wd,.str sp,.str told])) l [.str wd,.str sp,.str told]:=qb.of qu
 have hk:=hk.grow gg
 have q0:=q
 have q:=q.up gg
 dsimp only[xF,List.set]at jJ hlen⊢
 have n0:=gg.none
 generalize upd H l (.tup [.str wd,.str sp,.str told])=H1 at gg el hk q n0⊢
 refine⟨_,rfl,l,_,_,.str wd,rfl,rfl,el,qY (j:=0) rfl,?_⟩
 right
 refine⟨_,rfl,l,_,_,.str told,rfl,rfl,el,qY (j:=2) rfl,?_⟩
 right
 refine⟨_,rfl,l,_,_,.str sp,rfl,rfl,el,qY (j:=1) rfl,rfl,_,rfl,?_⟩
 have dec:∀{x y:Str},x≠y->decide (V.str x=V.str y)=false:=λh=>xn λz=>h (V.str.inj z)
 have yes:∀{x:Str},decide (V.str x=V.str x)=true:=vw rfl
 unfold Ao at jJ
 by_cases s0:sp=""
 ·subst s0
  have s1:¬(("":Str)=" "):=by ext
  refine jG yes ⟨_,rfl,_,_,_,rfl,rfl,tA,_,rfl,?_⟩
  by_cases hw:wd∈YV
  ·rw[vb ⟨rfl,hw⟩]at jJ
   simp only[js,xa,ii]at hw
   rcases hw with rfl|rfl|rfl|rfl
   ·cases jJ
   ·obtain⟨xy,G,kp,bd⟩:=T.a2
    refine jG (v8 (i:=1) (by ext) (by show 1<4;decide)) ⟨_,rfl,_,ta,_,_,rfl,rfl,tA,jn (i:=1) (by ext) rfl,f2,xy,_,_,[],[],E,6,rfl,G,hr.mono (by decide),kp,bd,.nil,wZ,_,rfl,B,a,S,rfl,hk,?_,?_⟩
    ·intro hS
     subst hS
     cases jJ with
     |YW _=>exact q
     |ZT h _=>cases h
     |YU h _ _ _ _=>cases h
    ·intro m hS
     subst hS
     cases jJ with
     |YW h=>cases h
     |ZT h d=>cases h;exact⟨λ_=>q,λz=>absurd z d⟩
     |YU h d s l x=>cases h;exact⟨λz=>absurd d z,λ_=>⟨_,_,_,s,l,x,λH2 g2=>q H2 (hk.grow g2)⟩⟩
   ·cases jJ
   ·obtain⟨xy,G,kp,bd⟩:=T.a4
    refine jG (v8 (i:=3) (by ext) (by show 3<4;decide)) ⟨_,rfl,_,ta,_,_,rfl,rfl,tA,jn (i:=3) (by ext) rfl,f4,xy,_,_,[],[],E,3,rfl,G,hr.mono (by decide),kp,bd,.nil,wZ,_,rfl,B,a,S,rfl,hk,?_,?_⟩
    ·intro hS
     subst hS
     cases jJ with
     |YY _=>exact q
     |ZS h _=>cases h
    ·intro m hS
     subst hS
     cases jJ with
     |YY h=>cases h
     |ZS h l=>cases h;exact⟨l,q H1 hk⟩
  ·rw[ke (λz=>hw z.2),ke (λz=>s1 z.1),ke (λz=>s1 z.1)]at jJ
   cases jJ
   refine z0 (iX (Z0 hw)) ⟨_,rfl,l,_,_,.str "",rfl,rfl,el,qY (j:=1) rfl,rfl,_,rfl,z0 (dec s1) ?_⟩
   refine qA ⟨_,rfl,l,_,_,.str "",rfl,rfl,el,qY (j:=1) rfl,rfl,_,rfl,z0 (dec s1) ?_⟩
   refine qA ?_
   exact yW (σ:=[]) q0 gg
 ·rw[ke (λz=>s0 z.1)]at jJ
  refine z0 (dec s0) (qA ⟨_,rfl,l,_,_,.str sp,rfl,rfl,el,qY (j:=1) rfl,rfl,_,rfl,?_⟩)
  by_cases s1:sp=" "
  ·subst s1
   refine jG yes ⟨_,rfl,_,_,_,rfl,rfl,tB,_,rfl,?_⟩
   by_cases hw:wd∈texts
   ·rw[vb ⟨rfl,hw⟩]at jJ
    simp only[js,xa,ii]at hw
    rcases hw with rfl|rfl|rfl
    ·obtain⟨xy,G,kp,bd⟩:=T.b1
     refine jG (v8 (i:=0) (by ext) (by show 0<3;decide)) ⟨_,rfl,_,tb,_,_,rfl,rfl,tB,jn (i:=0) (by ext) rfl,g1,xy,_,_,[],[],E,174,rfl,G,hr.mono (by decide),kp,bd,.nil,wZ,_,rfl,_,rfl,?_⟩
     cases jJ with
     |err _ l c=>exact⟨_,told,_,rfl,l,c,q⟩
     |kind l c d s=>exact⟨_,told,_,rfl,l,c,d,s,λH2 g2=>q H2 (hk.grow g2)⟩
    ·obtain⟨xy,G,kp,bd⟩:=T.b2
     refine jG (v8 (i:=1) (by ext) (by show 1<3;decide)) ⟨_,rfl,_,tb,_,_,rfl,rfl,tB,jn (i:=1) (by ext) rfl,g2,xy,_,_,[],[],E,176,rfl,G,hr,kp,bd,.nil,wZ,_,rfl,_,rfl,?_⟩
     cases jJ with
     |err _ l c=>exact⟨B,a,S,told,_,rfl,hk,l,c,q⟩
     |Ac l c n d=>exact⟨B,a,S,told,_,rfl,hk,l,c,n,d,q⟩
    ·obtain⟨xy,G,kp,bd⟩:=T.b3
     refine jG (v8 (i:=2) (by ext) (by show 2<3;decide)) ⟨_,rfl,_,tb,_,_,rfl,rfl,tB,jn (i:=2) (by ext) rfl,g3,xy,_,_,[],[],E,176,rfl,G,hr,kp,bd,.nil,wZ,_,rfl,_,rfl,?_⟩
     obtain⟨dx,v,g0,nB,e,o⟩:=hk
     cases jJ with
     |err _ l c=>exact⟨a,dx,v,told,_,rfl,e,l,c,q⟩
     |run l c n r=>exact⟨a,dx,v,told,_,rfl,e,l,c,n,_,r,λH2 g2=>q H2 (Dk.grow ⟨dx,v,g0,nB,e,o⟩ g2)⟩
   ·rw[ke (λz=>hw z.2)]at jJ
    refine z0 (iX (Z0 hw)) ⟨_,rfl,l,_,_,.str " ",rfl,rfl,el,qY (j:=1) rfl,rfl,_,rfl,jG yes ?_⟩
    refine⟨_,rfl,_,_,_,rfl,rfl,YI,_,rfl,?_⟩
    by_cases hv:wd∈counts
    ·rw[vb ⟨rfl,hv⟩]at jJ
     have rc:(((wO told&& !yc told&&decide (told.length<=4))=false/\wy Z H1 E .iF)\/∃n:Nat,(wO told&& !yc told&&decide (told.length<=4))=true/\PySem.intText? told=some (n:Int)):=by
      by_cases hb:(wO told&& !yc told&&decide (told.length<=4))=true
      ·rw[vb hb]at jJ
       split at jJ
       ·next n hn=>exact .inr ⟨n,hb,hn⟩
       ·cases jJ
      ·rw[ke hb]at jJ
       cases jJ
       exact .inl ⟨cw.mpr hb,q⟩
     have Am:∀n:Nat,PySem.intText? told=some (n:Int)->(wO told&& !yc told&&decide (told.length<=4))=true->Row S (.count wd n) an S':=λn hn hb=>by
      rw[vb hb,hn]at jJ;exact jJ
     simp only[js,xa,ii]at hv
     rcases hv with rfl|rfl
     ·obtain⟨xy,G,kp,bd⟩:=T.c1
      refine jG (v8 (i:=0) (by ext) (by show 0<2;decide)) ⟨_,rfl,_,tc,_,_,rfl,rfl,YI,jn (i:=0) (by ext) rfl,k1,xy,_,_,[],[],E,1,rfl,G,hr.mono (by decide),kp,bd,.nil,wZ,_,rfl,_,rfl,told,rfl,hlen,?_⟩
      rcases rc with⟨hb,hE⟩|⟨n,hb,hn⟩
      ·exact .inl ⟨hb,hE⟩
      refine .inr ⟨n,hb,hn,λH2 g2=>?_⟩
      have Z2:=hk.grow g2
      have q2:=q.up g2
      cases Am n hn hb with
      |YO h=>exact⟨B,a,S,n,rfl,Z2,.inl ⟨h,q2⟩⟩
      |Ai=>exact⟨B,a,S,400,rfl,Z2,.inr ⟨rfl,q2⟩⟩
     ·obtain⟨xy,G,kp,bd⟩:=T.c2
      refine jG (v8 (i:=1) (by ext) (by show 1<2;decide)) ⟨_,rfl,_,tc,_,_,rfl,rfl,YI,jn (i:=1) (by ext) rfl,k2,xy,_,_,[],[],E,j+1,rfl,G,hr.mono (by have :=T.hj;lia),kp,bd,.nil,wZ,_,rfl,_,rfl,told,rfl,hlen,?_⟩
      rcases rc with⟨hb,hE⟩|⟨n,hb,hn⟩
      ·exact .inl ⟨hb,hE⟩
      refine .inr ⟨n,hb,hn,λH2 g2=>?_⟩
      have Z2:=hk.grow g2
      have q2:=q.up g2
      have bY:=Am n hn hb
      refine⟨B,a,S,n,rfl,Z2,λhS=>?_,λm hS=>?_⟩
      ·subst hS
       cases bY with
       |goN _=>exact q2
       |ZA h _ _=>cases h
      ·subst hS
       cases bY with
       |goN h=>cases h
       |ZA h r c=>cases h;exact⟨_,_,r,c,q2⟩
    ·rw[ke (λz=>hv z.2)]at jJ
     cases jJ
     exact z0 (iX (Z0 hv)) (yW (σ:=[]) q0 gg)
  ·rw[ke (λz=>s1 z.1),ke (λz=>s1 z.1)]at jJ
   cases jJ
   refine z0 (dec s1) (qA ⟨_,rfl,l,_,_,.str sp,rfl,rfl,el,qY (j:=1) rfl,rfl,_,rfl,z0 (dec s1) ?_⟩)
   refine qA ?_
   exact yW (σ:=[]) q0 gg
end
end K27
namespace L2
open PySem PySem.Spec PyProof.Rows PyProof
theorem qgY(he:PE X e te):PE X (.FormattedValue e (-1) none pos) (λσ H Q=>te σ H λx H1=>(∃y,x= .str y/\y.length<=sizeLine/\Q (.str y) H1)\/∃n:Nat,x= .int (n:Nat)/\n<1000/\Q (.str (toString (n:Int))) H1):=by
 exfalso
 refine FormattedValue_plain (qX (he pins s σ H _ I h) λu s1⟨x,H1,I1,r1,q⟩=>?_)
 rcases q with⟨y,ex,hl,q⟩|⟨n,ex,hn,q⟩
 ·subst ex
  obtain⟨t',rfl⟩:=r1
  exact formatField_str (λt' tk=>⟨.str y,H1,I1.tok _,⟨_,rfl⟩,q⟩) hl
 ·subst ex
  obtain⟨t',rfl⟩:=r1
  refine formatField_int_small ?_ ⟨.str _,H1,I1.tok _,⟨_,rfl⟩,q⟩
  have :=Nat.log2_le_self n
  show n.log2<1920
  lia
end L2
namespace K27
open PySem L2 PyProof Dt
abbrev YC:cc:=top 145
abbrev YL:cc:=top 146
abbrev YG:cc:=top 144
section
variable {base:ll} {Z:Cl}
inductive An(vs:List V)(H:Hp)(Q:VK):Prop
 |mk (x:Str) (qQ:vs=[.str x]) (qZ:x.length<=100) (qV:Q (.str (ci++"refused: "++x)) H):An vs H Q
def Ab:Sp:=λvs H Q zh=>An vs H Q
theorem qgU:qO ["name"] ["name"] (qK YC):=by symm
theorem qgO(F:qJ K "refused" "refused" YC .none f fd):cz P w K mg base (zJ P w) 1 f fd ["name"] Ab:=by
 refine F.DX qgU (by grind) ?_
 omega
 obtain⟨x,rfl,hx,q⟩:=h
 refine⟨_,qg (qW (Kz (iQ qh (iQ (Kx (pv 0)) Kq)))),?_⟩
 left
 have l1:((ci++"refused: ":Str)).length=9:=by ext
 have l2:(ci++"refused: "++x).length<=sizeLine:=by rw[vT,l1,xt];lia
 exact⟨_,rfl,by rw[l1,xt];decide,_,rfl,x,rfl,by rw[xt];lia,_,rfl,l2,l2,q⟩
def Fld(v:V)(y:Str):Prop:=(v= .str y/\y.length<=100)\/∃n:Nat,v= .int (n:Nat)/\n<1000/\y=uk (toString (n:Int))
inductive Af(vs:List V)(H:Hp)(Q:VK):Prop
 |mk (x:Str) (y:Str) (v:V) (qQ:vs=[.str x,v]) (qZ:Fld v y) (qV:x.length<=100) (qG:y.length<=100) (zm:Q (.str (ci++"refused: "++x++" "++y)) H):Af vs H Q
def Ah:Sp:=λvs H Q zh=>Af vs H Q
theorem qgC:qO ["name","field"] ["name","field"] (qK YL):=by symm
theorem qgL(F:qJ K "refused_with" "refused_with" YL .none f fd):cz P w K mg base (zJ P w) 1 f fd ["name","field"] Ah:=by
 refine F.DX qgC (by grind) ?_
 omega
 obtain⟨x,y,v,rfl,hv,hx,hy,q⟩:=h
 refine⟨_,qg (qW (Kz (iQ qh (iQ (Kx (pv 0)) (iQ qh (iQ (qgY (pv 1)) Kq)))))),?_⟩
 left
 have l1:((ci++"refused: ":Str)).length=9:=by ext
 have l0:(" ":Str).length=1:=by decide
 have l2:(ci++"refused: "++x).length<=200:=by rw[vT,l1];lia
 have l3:(ci++"refused: "++x++" ").length<=300:=by rw[vT,l0];lia
 have l4:(ci++"refused: "++x++" "++y).length<=sizeLine:=by rw[vT,xt];lia
 have lz:=xt
 refine⟨_,rfl,by rw[l1,lz];decide,_,rfl,x,rfl,by lia,_,rfl,by lia,_,rfl,by lia,_,rfl,?_⟩
 rcases hv with⟨rfl,h1⟩|⟨n,rfl,hn,rfl⟩
 ·exact .inl ⟨y,rfl,by lia,_,rfl,l4,l4,q⟩
 ·exact .inr ⟨n,rfl,hn,_,rfl,l4,l4,q⟩
def uY:Except Er Str->Str
 | .ok t=>t
 | .error .iF=>ci++"refused: "++"BadRow"
 | .error .jN=>ci++"refused: "++"Unfit"
 | .error .mj=>ci++"refused: "++"NoMachine"
 | .error .tH=>ci++"refused: "++"NotDone"
 | .error (.mw k)=>ci++"refused: "++"BadText"++" "++uk (toString (k:Int))
 | .error (.noName x)=>ci++"refused: "++"NoName"++" "++x
def Er.sm:Er->Prop
 | .mw k=>k<1000/\(uk (toString (k:Int))).length<=100
 | .noName x=>x.length<=100
 |_=>True
inductive qgG(K:Fg)(C:jp)(CH:jp)(CD:jp)(vs:List V)(H:Hp)(Q:VK):Prop
 |mk (B:Hp) (a:jp) (S:Option Ms) (S':Option Ms) (row:Str) (an:Except Er Str) (qQ:vs=[.ref a,.str row]) (qZ:row.length<=1000) (qV:Dk K C CH CD B a S H) (qG:Row S (rk row) an S') (zm:(∀e,an= .error e->e.sm/\S'=S)) (je:∀H',Dk K C CH CD B a S' H'->Q (.str (uY an)) H')
def Ar(K:Fg)(C CH CD:jp):Sp:=λvs H Q E=>qgG K C CH CD vs H Q
theorem As:qO ["desk","row","refusal"] ["desk","row"] (qK YG):=by symm
structure Hs(K:Fg)(mg:Str->Option zt)(Z:Cl)(TL:jp)(bm:List zt):Prop where
 x:∀c∈[Z.BR,Z.BT,Z.NN,Z.UF,Z.NM,Z.ND,TL],XC K c bm
 m1:mg "BadRow"=some (.ref Z.BR)
 m2:mg "BadText"=some (.ref Z.BT)
 m3:mg "NoName"=some (.ref Z.NN)
 m4:mg "Unfit"=some (.ref Z.UF)
 m5:mg "NoMachine"=some (.ref Z.NM)
 m6:mg "NotDone"=some (.ref Z.ND)
 m7:mg "TooLong"=some (.ref TL)
 na:jO K Z.BT "at"
 nn:jO K Z.NN "name"
 df:([Z.BR,Z.BT,Z.NN,Z.UF,Z.NM,Z.ND]:List jp).Nodup
 nb:∀c∈[Z.BR,Z.BT,Z.NN,Z.UF,Z.NM,Z.ND],bm.contains (.ref c)=false
structure Aa(P:cv)(w:fe)(K:Fg)(mg:Str->Option zt)(base:ll):Prop where
 g1:∃f fd,cz P w K mg base (zJ P w) 1 f fd ["name"] Ab/\mg "refused"=some (.ref f)/\PySem.W.keepIn K (.ref f)=true/\Binds K fd ["name"] []
 g2:∃f fd,cz P w K mg base (zJ P w) 1 f fd ["name","field"] Ah/\mg "refused_with"=some (.ref f)/\PySem.W.keepIn K (.ref f)=true/\Binds K fd ["name","field"] []
theorem qgM{TL:jp}(F:qJ K "row_answer" "row_answer" YG .none f fd)(T:Hs K mg Z TL bm)(R:Aa P w K mg base)(GD:⋯ 177 "done_row" ["desk","row"] (Ag K C CH CD Z)):∅ 178 f fd ["desk","row"] (Ar K C CH CD):=by
 obtain⟨⟨f1,d1,G1,m1,k1,b1⟩,f2,d2,G2,m2,k2,b2⟩:=R
 refine F.qB As (by grind) ?_
 omega
 obtain⟨B,a,S,S',row,an,rfl,hl,hk,jJ,hsm,q⟩:=h
 have yj:=λe=>(hr.s.mono (show 1<=177 by decide)).mark (some (.ref e))
 refine'⟨_,qg (qlD rfl rfl As.nd (i:=2) (qvq (HB GD hr (qx (pv 0) (qx (pv 1) qk))))
  (.no (by rfl) T.m1 (T.x _ (by simp)) ?a1 (.as (by rfl) T.m2 (T.x _ (by simp)) rfl (by rfl) ?a2 (.as (by rfl) T.m3 (T.x _ (by simp)) rfl (by rfl) ?a3 (.no (by rfl) T.m4 (T.x _ (by simp)) ?a4 (.no (by rfl) T.m5 (T.x _ (by simp)) ?a5 (.no (by rfl) T.m6 (T.x _ (by simp)) ?a6 (.no (by rfl) T.m7 (T.x _ (by simp)) ?a7 .nil)))))))),?rd⟩
 case a1=>exact λe=>qg (qW (l8 G1 (yj e) (by rfl) m1 k1 b1 .nil z8 (qx qh qk)))
 case a4=>exact λe=>qg (qW (l8 G1 (yj e) (by rfl) m1 k1 b1 .nil z8 (qx qh qk)))
 case a5=>exact λe=>qg (qW (l8 G1 (yj e) (by rfl) m1 k1 b1 .nil z8 (qx qh qk)))
 case a6=>exact λe=>qg (qW (l8 G1 (yj e) (by rfl) m1 k1 b1 .nil z8 (qx qh qk)))
 case a7=>exact λe=>qg (qW (l8 G1 (yj e) (by rfl) m1 k1 b1 .nil z8 (qx qh qk)))
 case a2=>exact λe=>qg (qW (l8 G2 (yj e) (by rfl) m2 k2 b2 .nil z8 (qx qh (qx (Dg (pv 2)) qk))))
 case a3=>exact λe=>qg (qW (l8 G2 (yj e) (by rfl) m2 k2 b2 .nil z8 (qx qh (qx (Dg (pv 2)) qk))))
 have eqc:∀c d:jp,(Value.ref c==Value.ref d)=decide (c=d):=λc d=>by
  by_cases z:c=d
  ·subst z;simp
  ·rw[xn z];exact kS.mpr λy=>z (qqX y)
 have yes:∀c:jp,(Value.ref c::bm).contains (.ref c)=true:=λc=>by simp
 have no:∀c d:jp,d∈[Z.BR,Z.BT,Z.NN,Z.UF,Z.NM,Z.ND]->c≠d->(Value.ref c::bm).contains (.ref d)=false:=λc d hd h=>by
  rw[og,T.nb d hd,Ta]
  exact kS.mpr λy=>h (qqX y).symm
 have df:=T.df
 simp only[ra,js,xa,ii,not_or,not_false_eq_true,eR,and_true]at df
 obtain⟨⟨oW,n13,n14,n15,n16⟩,⟨n23,n24,n25,n26⟩,⟨n34,n35,n36⟩,⟨n45,n46⟩,n56⟩:=df
 refine⟨_,rfl,_,rfl,B,a,S,S',row,an,rfl,hl,hk,jJ,?_⟩
 cases an with
 |ok t=>exact q
 |error er=>
  obtain⟨hsz,rfl⟩:=hsm er rfl
  have q':∀H',qv H H'->Q (.str (uY (.error er))) H':=λH' g=>q H' (hk.grow g)
  cases er with
  |iF=>exact λe t H' g _ he=>⟨e,_,bm,rfl,rfl,T.x _ (by simp),.here (yes _) ⟨_,rfl,(by decide),q' H' g⟩⟩
  |jN=>exact λe t H' g he=>⟨e,_,bm,rfl,rfl,T.x _ (by simp),.next (no _ _ (by simp) (y7 n14)) (.next (no _ _ (by simp) (y7 n24)) (.next (no _ _ (by simp) (y7 n34)) (.here (yes _) ⟨_,rfl,(by decide),q' H' g⟩)))⟩
  |mj=>exact λe t H' g _ he=>⟨e,_,bm,rfl,rfl,T.x _ (by simp),.next (no _ _ (by simp) (y7 n15)) (.next (no _ _ (by simp) (y7 n25)) (.next (no _ _ (by simp) (y7 n35)) (.next (no _ _ (by simp) (y7 n45)) (.here (yes _) ⟨_,rfl,(by decide),q' H' g⟩))))⟩
  |tH=>exact λe t H' g _ he=>⟨e,_,bm,rfl,rfl,T.x _ (by simp),.next (no _ _ (by simp) (y7 n16)) (.next (no _ _ (by simp) (y7 n26)) (.next (no _ _ (by simp) (y7 n36)) (.next (no _ _ (by simp) (y7 n46)) (.next (no _ _ (by simp) (y7 n56)) (.here (yes _) ⟨_,rfl,(by decide),q' H' g⟩)))))⟩
  |mw k=>exact λe t d H' g he hd=>⟨e,_,bm,rfl,rfl,T.x _ (by simp),.next (no _ _ (by simp) (y7 oW)) (.here (yes _) ⟨_,rfl,e,_,t,d,false,bm,_,_,rfl,he,T.x _ (by simp),T.na,hd,(by rw[kx,y8]),_,_,_,rfl,.inr ⟨k,rfl,hsz.1,rfl⟩,(by decide),hsz.2,q' H' g⟩)⟩
  |noName x=>exact λe t d H' g he hd=>⟨e,_,bm,rfl,rfl,T.x _ (by simp),.next (no _ _ (by simp) (y7 n13)) (.next (no _ _ (by simp) (y7 n23)) (.here (yes _) ⟨_,rfl,e,_,t,d,false,bm,_,_,rfl,he,T.x _ (by simp),T.nn,hd,(by rw[kx,y8]),_,x,_,rfl,.inl ⟨rfl,hsz⟩,(by decide),hsz,q' H' g⟩))⟩
end
abbrev YM:cc:=top 143
inductive kC:Option Ms->List Str->List Str->Prop
 |nil {S:Option Ms}:kC S [] []
 |blank {S:Option Ms} {row:Str} {rows ja:List Str} (h:yi row " "="") (r:kC S rows ja):kC S (row::rows) ja
 |row {S S1:Option Ms} {row:Str} {rows ja:List Str} {an:Except Er Str} (h:yi row " "≠"") (l:(yi row " ").length<=1000) (l2:row.length<=1000) (x:Row S (rk row) an S1) (hs:∀e,an= .error e->e.sm/\S1=S) (r:kC S1 rows ja):kC S (row::rows) (uY an::ja)
theorem Ae:qO ["text","desk"] ["text"] (qK YM):=by symm
section
variable {base:ll} {dI:ol} {Z:Cl}
inductive AQ(vs:List V)(H:Hp)(Q:VK):Prop
 |mk (z:Str) (ja:List Str) (qQ:vs=[.str z]) (qZ:z.length<=100000) (qV:kC none (sk z "\n") ja) (qG:∀l H',qv H H'->H l=none->H' l=some (.lst (ja.map V.str))->Q (.ref l) H'):AQ vs H Q
def AZ(K:Fg):Sp:=λvs H Q zh=>AQ vs H Q
inductive Wp(K:Fg)(C CH CD a l0 D:jp)(rows ja:List Str)(H:Hp)(i m:Nat)(ys:List V)(H2:Hp):Prop
 |mk (hi:i<=rows.length) (hm:m=rows.length-i) (B:Hp) (S:Option Ms) (dn rest:List Str) (dk:Dk K C CH CD B a S H2) (g:qv H B) (hD:B D=some (.lst ys)) (hl:B l0=some (.lst (rows.map V.str))) (hy:ys=dn.map V.str) (ha:ja=dn++rest) (hc:dn.length<=i) (r:kC S (rows.drop i) rest)
theorem qg4(F:qJ K "play" "play" YM .none f fd)(mD:mg "Desk"=some (.ref CD))(KD:Mk K CD fI)(GI:∅ 1 fI dI ["self"] (T7 CD))(bI:Binds K dI ["self"] [])(GR:⋯ 178 "row_answer" ["desk","row"] (Ar K C CH CD)):∅ 179 f fd ["text"] (AZ K):=by
 refine F.qB Ae (by grind) ?_
 omega
 obtain⟨z,ja,rfl,hz,AJ,q⟩:=h
 have uh:((["row"]:List Str)++(["desk"]:List Str)).Nodup:=by ext
 refine'⟨_,qc (qC (i:=1) Ae.nd rfl (Or.inr rfl) (qxa KD GI (hr.mono (by decide)) (by rfl) mD bI .nil z8))
  (qg (qW (Fl (tc:=Qk (vM N3 (pK K "str" TY (zO 0) (jQ (tC (.str " ")) xx)) (tC (.str "")))) (QB (own:=["row"]) (i:=1) (by rfl) (by ext) (by rfl) (by ext) (by rfl) (by ext) (by rfl) (.inl (by rfl)) (by rfl) (by ext)) rfl
   (eE (jA PySem.F.plainAttrs_str PySem.F.slot_str_split PySem.F.type_str_split qlL (pv 0) (qx qh qk)))
   (λC s H fp pins=>zw GR hr (qx (pv 1) (qx (pv 0) qk))) (λC s H fp pins=>xU (i:=0) uh rfl oI (Or.inr (by rfl)))
   ?uy))),?rd⟩
 case uy=>exact λC s H fp pins=>qM fX (jA PySem.F.plainAttrs_str PySem.F.slot_str_strip PySem.F.type_str_strip qlG (pv 0) (qx qh qk)) qh (qR _)
 refine λa dx hx sS jP=>⟨a,dx,rfl,qu,rfl,?_⟩
 rw[uL]
 right
 have g1:qv H (upd (upd H dx (.own a)) a (.ins CD dx (xo .qd))):=(qv.put sS).trans (qv.put (by rw[qm (λzz=>jP zz.symm)];exact hx))
 have e1:(upd (upd H dx (.own a)) a (.ins CD dx (xo .qd))) a=some (.ins CD dx (xo .qd)):=qu
 generalize upd (upd H dx (.own a)) a (.ins CD dx (xo .qd))=H1 at g1 e1⊢
 refine⟨_,rfl,rfl,z,"\n",rfl,rfl,(by decide),hz,λl0 dz=>?_⟩
 have hrl:=(TX (x:=z) (y:="\n") (by decide)).1
 generalize sk z "\n"=rows at AJ hrl⊢
 have g2:=qv.put (o:=.lst (rows.map V.str)) dz
 have e2:=@qu H1 l0 (.lst (rows.map V.str))
 have na:l0≠a:=λzz=>by subst zz;rw[e1]at dz;cases dz
 have yQ:=g2.same _ _ e1
 generalize hH2:upd H1 l0 (.lst (rows.map V.str))=H2 at g2 e2 yQ⊢
 refine⟨l0,rfl,⟨_,qp.of e2⟩,λD hD=>?_⟩
 have nD:H D=none:=g1.none _ (g2.none _ hD)
 have nl:H l0=none:=g1.none _ dz
 have dl:l0≠D:=λzz=>by subst zz;rw[e2]at hD;cases hD
 have da:a≠D:=λzz=>by subst zz;rw[yQ]at hD;cases hD
 refine⟨Wp K C CH CD a l0 D rows ja H,⟨rows.length-0,?_⟩,?_⟩
 ·refine⟨io _,rfl,upd (upd H l0 (.lst (rows.map V.str))) D (.lst []),none,[],ja,⟨dx,.qd,?_,?_,(qm da).trans yQ,.no⟩,(qv.put nl).trans (qv.put (by rw[qm dl.symm];exact nD)),qu,(qm dl).trans qu,rfl,rfl,qL _,AJ⟩
  ·refine⟨λb o hb=>?_,λb hb=>?_⟩
   ·by_cases z1:b=D
    ·subst z1;rw[qu]at hb⊢;exact hb
    ·rw[qm z1]at hb⊢
     by_cases z2:b=l0
     ·subst z2;rw[qu]at hb;cases hb;exact e2
     ·rw[qm z2]at hb;exact g2.same _ _ (g1.same _ _ hb)
   ·by_cases z1:b=D
    ·subst z1;rw[qu]at hb;cases hb
    ·rw[qm z1]at hb⊢
     by_cases z2:b=l0
     ·subst z2;rw[e2]at hb;cases hb
     ·rw[qm z2];exact g1.none _ (g2.none _ hb)
  ·rw[qm da,qm (y7 na)];exact hx
 ·rintro i m ys H3 ⟨hi,rfl,B,S,dn,rest,dk,g,hBD,hBl,rfl,rfl,FI,jS⟩
  have gB:qv B H3:=by obtain⟨_,_,g,_⟩:=dk;exact g
  have xh:=qp.of (K:=K) (gB.same _ _ hBl)
  by_cases jM:i<rows.length
  ·have qg6:i<(rows.map V.str).length:=by rw[za];exact jM
   refine .inr ⟨⟨_,_,xh,jm qg6⟩,λo v H4 ho hy=>?_⟩
   obtain⟨rfl,hv⟩:=hy
   have yh:=hv _ xh
   rw[xH,jm jM]at yh
   cases yh
   rw[IH jM]at jS
   generalize rows[i]'jM=row at jS⊢
   match o,ho with
   |[_],_=>
    refine⟨⟨[some (.str row)],rfl,rfl⟩,?_⟩
    dsimp only[wK]
    cases jS with
    |blank h r=>
     refine⟨_,rfl,rfl,row," ",rfl,rfl,by rw[h];ext,rfl,_,rfl,?_⟩
     rw[h]
     exact z0 (by ext) ⟨_,by lia,jM,rfl,B,S,dn,rest,dk,g,hBD,hBl,rfl,rfl,by lia,r⟩
    | @row _ S1 _ _ ans' an h l l2 x hs r=>
     refine⟨_,rfl,rfl,row," ",rfl,rfl,by rw[xt];lia,rfl,_,rfl,?_⟩
     refine jG (by simp only[Bool.not_eq_true',decide_eq_false_iff_not];exact λz=>h (V.str.inj z)) ?_
     refine⟨_,rfl,_,rfl,B,a,S,S1,row,an,rfl,l2,dk,x,hs,λH5 AX=>?_⟩
     have g5:qv B H5:=by obtain⟨_,_,g,_⟩:=AX;exact g
     refine⟨g5.same _ _ hBD,?_,_,?_,jM,rfl,upd B D (.lst (dn.map V.str++[.str (uY an)])),S1,dn++[uY an],ans',AX.list hBD (λy hy=>by obtain⟨t,_,e⟩:=rp.mp hy;exact⟨t,e.symm⟩),g.set nD,qu,(qm dl).trans hBl,by simp,by simp,by rw[va,FK];lia,r⟩
     ·rw[za,xt];lia
     ·lia
  ·have e:i=rows.length:=by lia
   subst e
   rw[List.drop_length]at jS
   cases jS
   refine .inl ⟨⟨_,xh,by rw[za];exact qL _⟩,?_⟩
   rw[lr]at q
   exact q D H3 (g.trans gB) nD (gB.same _ _ hBD)
end
noncomputable abbrev AK:List Str:=["leap","go","go 0","go x","go 01","go 10000","go 1 1","room","room  9","kind","move 1","Run 1","begin"," run 1","show 1","made "]
theorem qg7:∀x∈AK,rk x= .bad/\yi x " "≠""/\(yi x " ").length<=1000/\x.length<=1000:=by ext
inductive Gd(S:Option Ms)(x y:Str):Prop
 |blank (h:yi x " "="") (e:y=""):Gd S x y
 |row (an:Except Er Str) (h:yi x " "≠"") (l:(yi x " ").length<=1000) (l2:x.length<=1000) (r:Row S (rk x) an S) (hs:∀e,an= .error e->e.sm) (e:uY an=y) (n:y≠""):Gd S x y
theorem Gd.bad(h:x∈AK):Gd S x "refused: BadRow":=by
 obtain⟨h1,h2,h3,h4⟩:=qg7 x h
 exact .row (.error .iF) h2 h3 h4 (by rw[h1];exact .bad) (λe he=>by cases he;trivial) (by ext) (by ext)
noncomputable def oY (x:Str) (k:Rk):Bool:=decide (rk x=k)&&decide (yi x " "≠"")&&decide ((yi x " ").length<=1000)&&decide (x.length<=1000)
theorem Gd.of{y:Str}{k:Rk}{an:Except Er Str}(h:oY x k=true)(r:Row S k an S)(hs:∀e,an= .error e->e.sm)(e:uY an=y)(n:y≠""):Gd S x y:=by
 simp only[oY,o3,Y']at h
 obtain⟨⟨⟨h1,h2⟩,h3⟩,h4⟩:=h
 exact .row an h2 h3 h4 (by rw[h1];exact r) hs e n
theorem Gd.bt{w y:Str}{k:Nat}(h:oY x (.text w z)=true)(hw:w∈texts)(l:z.length<=2000)(r:iG z=some (.error k))(m:k<1000/\(uk (toString (k:Int))).length<=100)(e:uY (.error (.mw k))=y/\y≠""):Gd S x y:=.of h (.err hw l (.bad r)) (λe he=>by cases he;exact m) e.1 e.2
theorem Gd.no{S:Option Ms}{x w z y:Str}{p:Pt}{b:Bad}(h:oY x (.text w z)=true)(hw:w∈texts)(l:z.length<=2000)(r:iG z=some (.ok p.dt))(g:Pg p)(f:Pt.fit [] p= .error b)(m:(Er.of b).sm)(e:uY (.error (Er.of b))=y/\y≠""):Gd S x y:=.of h (.err hw l (.no r g f)) (λe he=>by cases he;exact m) e.1 e.2
theorem Gd.kd{y:Str}{κ:Kd}(h:oY x (.text "kind" z)=true)(l:z.length<=2000)(r:iG z=some (.ok p.dt))(g:Pg p)(f:Pt.fit [] p= .ok κ)(m:(κ.qa<8/\κ.sz<=40)/\NL p=true)(e:txt κ=y/\y≠""):Gd S x y:=.of h (.kind l (.ok r g f m.2) m.1.1 m.1.2) (λe he=>by cases he) e.1 e.2
noncomputable def YN (p:Pt) (t:Str):Bool:=match(Ms.new (Pt.codeOf p [] 0 true) 400).run 100 20000 with
 |some m=>if m.st= .done then(match m.qI with |[v]=>(match Ms.texts m.things 1000 [.value v] 1000 []with |some (some ts)=>decide (fw (uk "") ts=t)|_=>false)|_=>false)else decide (m.st.str=t)
 |none=>false
theorem qg8{t:Str}(h:YN p t=true):tP p t:=by
 unfold YN at h
 split at h
 ·next m hm=>
  split at h
  ·next hd=>
   split at h
   ·next v hv=>
    split at h
    ·next ts ht=>exact .done 100 m hm hd v 1000 ts hv (by decide) ht (vi h)
    ·cases h
   ·cases h
  ·next hd=>exact .stop 100 m hm hd (vi h)
 ·cases h
theorem Gd.rn{y:Str}{κ:Kd}(h:oY x (.text "run" z)=true)(l:z.length<=2000)(r:iG z=some (.ok p.dt))(g:Pg p)(f:Pt.fit [] p= .ok κ)(n:p.Nums)(c:(NL p&&YN p y)=true)(e:y≠""):Gd S x y:=.of h (.run l (.ok r g f (qzO.mp c).1) n (qg8 (qzO.mp c).2)) (λe he=>by cases he) rfl e
theorem r1:Gd S "kind " "refused: BadText 0":=.bt (w:="kind") (z:="") (k:=0) (by ext) (by ext) (by ext) (by kernel_rfl) (by ext) (by ext)
theorem r2:Gd S "kind (plus 1)" "refused: BadText 7":=.bt (w:="kind") (z:="(plus 1)") (k:=7) (by ext) (by ext) (by ext) (by kernel_rfl) (by ext) (by ext)
theorem r3:Gd S "begin 1 2" "refused: BadText 2":=.bt (w:="begin") (z:="1 2") (k:=2) (by ext) (by ext) (by ext) (by kernel_rfl) (by ext) (by ext)
theorem r4:Gd S "kind (plus 1 true)" "refused: Unfit":=.no (w:="kind") (z:="(plus 1 true)") (p:=.two .plus (.num 1) (.zI true)) (b:=.jN) (by ext) (by ext) (by ext) (by kernel_rfl) ⟨by decide,by decide,by decide,by simp[Pt.Kb]⟩ rfl trivial (by ext)
theorem r5:Gd S "kind (plus x true)" "refused: NoName x":=.no (w:="kind") (z:="(plus x true)") (p:=.two .plus (.jx "x") (.zI true)) (b:=.oi "x") (by ext) (by ext) (by ext) (by kernel_rfl) ⟨by decide,by decide,by decide,by simp[Pt.Kb]⟩ rfl (by show("x":Str).length<=100;decide) (by ext)
theorem r6:Gd S "run (head 1)" "refused: Unfit":=.no (w:="run") (z:="(head 1)") (p:=.one .head (.num 1)) (b:=.jN) (by ext) (by ext) (by ext) (by kernel_rfl) ⟨by decide,by decide,by decide,by simp[Pt.Kb]⟩ rfl trivial (by ext)
theorem r7:Gd S "begin (let x 1 y)" "refused: NoName y":=.no (w:="begin") (z:="(let x 1 y)") (p:=.jy "x" (.num 1) (.jx "y")) (b:=.oi "y") (by ext) (by ext) (by ext) (by kernel_rfl) ⟨by decide,by decide,by decide,by simp[Pt.Kb]⟩ (by kernel_rfl) (by show("y":Str).length<=100;decide) (by ext)
theorem r8:Gd S "kind (nil int)" "(list int)":=.kd (z:="(nil int)") (p:=.nil .int) (κ:=.list .int) (by ext) (by ext) (by kernel_rfl) ⟨by decide,by decide,by decide,by simp[Pt.Kb,Kd.qa]⟩ rfl (by decide) (by ext)
theorem r9:Gd S "kind (fn x int true)" "(fun int bool)":=.kd (z:="(fn x int true)") (p:=.fn "x" .int (.zI true)) (κ:=.fn .int .bool) (by ext) (by ext) (by kernel_rfl) ⟨by decide,by decide,by decide,by simp[Pt.Kb,Kd.qa]⟩ rfl (by decide) (by ext)
theorem r10:Gd S "run 1" "1":=.rn (z:="1") (p:=.num 1) (κ:=.int) (by ext) (by ext) (by kernel_rfl) ⟨by decide,by decide,by decide,by simp[Pt.Kb]⟩ rfl (by simp[Pt.Nums,kh]) (by ext) (by ext)
theorem r11:Gd S "run (over 1 0)" "by nought":=.rn (z:="(over 1 0)") (p:=.two .over (.num 1) (.num 0)) (κ:=.int) (by ext) (by ext) (by kernel_rfl) ⟨by decide,by decide,by decide,by simp[Pt.Kb]⟩ rfl (by simp[Pt.Nums,kh]) (by ext) (by ext)
theorem r12:Gd S "run (head (nil int))" "of empty":=.rn (z:="(head (nil int))") (p:=.one .head (.nil .int)) (κ:=.int) (by ext) (by ext) (by kernel_rfl) ⟨by decide,by decide,by decide,by simp[Pt.Kb,Kd.qa]⟩ rfl (by simp[Pt.Nums,kh]) (by ext) (by ext)
theorem r13:Gd S "run true" "true":=.rn (z:="true") (p:=.zI true) (κ:=.bool) (by ext) (by ext) (by kernel_rfl) ⟨by decide,by decide,by decide,by simp[Pt.Kb]⟩ rfl (by simp[Pt.Nums,kh]) (by ext) (by ext)
theorem r14:Gd S "run (fn x int x)" "fn":=.rn (z:="(fn x int x)") (p:=.fn "x" .int (.jx "x")) (κ:=.fn .int .int) (by ext) (by ext) (by kernel_rfl) ⟨by decide,by decide,by decide,by simp[Pt.Kb,Kd.qa]⟩ (by kernel_rfl) (by simp[Pt.Nums,kh]) (by ext) (by ext)
theorem r15:Gd S "run (cons 1 (cons -2 (nil int)))" "[1,-2]":=.rn (z:="(cons 1 (cons -2 (nil int)))") (p:=.two .cons (.num 1) (.two .cons (.num (-2)) (.nil .int))) (κ:=.list .int) (by ext) (by ext) (by kernel_rfl) ⟨by decide,by decide,by decide,by simp[Pt.Kb,Kd.qa]⟩ rfl (by simp[Pt.Nums,kh]) (by ext) (by ext)
theorem r16:Gd S "run (pair 1 (pair true 2))" "(1,(true,2))":=.rn (z:="(pair 1 (pair true 2))") (p:=.two .pair (.num 1) (.two .pair (.zI true) (.num 2))) (κ:=.pair .int (.pair .bool .int)) (by ext) (by ext) (by kernel_rfl) ⟨by decide,by decide,by decide,by simp[Pt.Kb]⟩ rfl (by simp[Pt.Nums,kh]) (by ext) (by ext)
theorem r17:Gd S "run (call (rec f n int int (plus 1 (call f n))) 1)" "too deep":=.rn (z:="(call (rec f n int int (plus 1 (call f n))) 1)") (p:=.two .call (.rc "f" "n" .int .int (.two .plus (.num 1) (.two .call (.jx "f") (.jx "n")))) (.num 1)) (κ:=.int) (by ext) (by ext) (by kernel_rfl) ⟨by decide,by decide,by decide,by simp[Pt.Kb,Kd.qa]⟩ (by kernel_rfl) (by simp[Pt.Nums,kh]) (by ext) (by ext)
theorem r18:Gd S "room 400" "ok":=.of (k:=.count "room" 400) (by ext) .Ai (λe he=>by cases he) rfl (by ext)
theorem r19:Gd S "room 7" "refused: BadRow":=.of (k:=.count "room" 7) (by ext) (.YO (by decide)) (λe he=>by cases he;trivial) (by ext) (by ext)
theorem r20:Gd S "room 401" "refused: BadRow":=.of (k:=.count "room" 401) (by ext) (.YO (by decide)) (λe he=>by cases he;trivial) (by ext) (by ext)
theorem r21:Gd S "   " "":=.blank (by ext) rfl
noncomputable def p7:Pt:=.num 7
noncomputable def pT:Pt:=.one .tail (.nil .bool)
noncomputable def pL:Pt:=.two .call (.rc "f" "n" .int .int (.two .call (.jx "f") (.jx "n"))) (.num 1)
noncomputable def mE (p:Pt):Ms:=((Ms.new (Pt.codeOf p [] 0 true) 400).run 100 100).getD (Ms.new [] 0)
structure Md(p:Pt)(t:Str):Prop where
 r:(Ms.new (Pt.codeOf p [] 0 true) 400).run 100 100=some (mE p)
 g:(mE p).run 100 3=some (mE p)
 c:(mE p).code≠[]
 s:(mE p).st.str=t
 l:(mE p).things.length<=1000
theorem YB:Md p7 "done":=⟨by kernel_rfl,by kernel_rfl,by ext,by ext,by ext⟩
theorem YD:Md pT "of empty":=⟨by kernel_rfl,by kernel_rfl,by ext,by ext,by ext⟩
theorem AW:Md pL "running":=⟨by kernel_rfl,by kernel_rfl,by ext,by ext,by ext⟩
theorem Md.YF{t:Str}(h:Md p t)(n:t≠""):Gd (some (mE p)) "go 3" t:=.of (k:=.count "go" 3) (an:=.ok (mE p).st.str) (by ext) (.ZA rfl h.g h.c) (λe he=>by cases he) h.s n
theorem Md.first{t:Str}{κ:Kd}(h:Md p t)(hx:oY x (.text "begin" z)=true)(l:z.length<=2000)(r:iG z=some (.ok p.dt))(g:Pg p)(f:Pt.fit [] p= .ok κ)(n:p.Nums)(c:Pt.codeOf p [] 0 true≠[]/\NL p=true)(q:kC (some (mE p)) rows ja):kC none (x::"go 100"::rows) ("ok"::t::ja):=by
 simp only[oY,o3,Y']at hx
 obtain⟨⟨⟨h1,h2⟩,h3⟩,h4⟩:=hx
 have hg:oY "go 100" (.count "go" 100)=true:=by ext
 simp only[oY,o3,Y']at hg
 obtain⟨⟨⟨g1,g2⟩,g3⟩,g4⟩:=hg
 have a2:t=uY (.ok (mE p).st.str):=h.s.symm
 rw[a2]
 exact .row (an:=.ok "ok") h2 h3 h4 (by rw[h1];exact .Ac l (.ok r g f c.2) n c.1) (λe he=>by cases he) (.row (an:=.ok (mE p).st.str) g2 g3 g4 (by rw[g1];exact .ZA rfl h.r h.c) (λe he=>by cases he) q)
theorem f7(q:kC (some (mE p7)) rows ja):kC none ("begin 7"::"go 100"::rows) ("ok"::"done"::ja):=YB.first (z:="7") (κ:=.int) (by ext) (by ext) (by kernel_rfl) ⟨by decide,by decide,by decide,by simp[p7,Pt.Kb]⟩ rfl (by simp[p7,Pt.Nums,kh]) (by ext) q
theorem fT(q:kC (some (mE pT)) rows ja):kC none ("begin (tail (nil bool))"::"go 100"::rows) ("ok"::"of empty"::ja):=YD.first (z:="(tail (nil bool))") (κ:=.list .bool) (by ext) (by ext) (by kernel_rfl) ⟨by decide,by decide,by decide,by simp[pT,Pt.Kb,Kd.qa]⟩ rfl (by simp[pT,Pt.Nums,kh]) (by ext) q
theorem fL(q:kC (some (mE pL)) rows ja):kC none ("begin (call (rec f n int int (call f n)) 1)"::"go 100"::rows) ("ok"::"running"::ja):=AW.first (z:="(call (rec f n int int (call f n)) 1)") (κ:=.int) (by ext) (by ext) (by kernel_rfl) ⟨by decide,by decide,by decide,by simp[pL,Pt.Kb,Kd.qa]⟩ (by kernel_rfl) (by simp[pL,Pt.Nums,kh]) (by ext) q
theorem u0:Gd none "used" "refused: NoMachine":=.of (k:=.bare "used") (by ext) (.YY rfl) (λe he=>by cases he;trivial) (by ext) (by ext)
theorem s0:Gd none "show" "refused: NoMachine":=.of (k:=.bare "show") (by ext) (.YW rfl) (λe he=>by cases he;trivial) (by ext) (by ext)
theorem g0:Gd none "go 3" "refused: NoMachine":=.of (k:=.count "go" 3) (by ext) (.goN rfl) (λe he=>by cases he;trivial) (by ext) (by ext)
theorem u7:Gd (some (mE p7)) "used" "0":=.of (k:=.bare "used") (by ext) (.ZS rfl YB.l) (λe he=>by cases he) (by ext) (by ext)
theorem uT:Gd (some (mE pT)) "used" "0":=.of (k:=.bare "used") (by ext) (.ZS rfl YD.l) (λe he=>by cases he) (by ext) (by ext)
theorem s7:Gd (some (mE p7)) "show" "7":=.of (k:=.bare "show") (an:=.ok (fw (uk "") ["7"])) (by ext) (.YU (v:=.int 7) (fl:=100) (ts:=["7"]) rfl (by ext) (by kernel_rfl) (by decide) (by kernel_rfl)) (λe he=>by cases he) (by ext) (by ext)
theorem sT:Gd (some (mE pT)) "show" "refused: NotDone":=.of (k:=.bare "show") (by ext) (.ZT rfl (by ext)) (λe he=>by cases he;trivial) (by ext) (by ext)
theorem sL:Gd (some (mE pL)) "show" "refused: NotDone":=.of (k:=.bare "show") (by ext) (.ZT rfl (by ext)) (λe he=>by cases he;trivial) (by ext) (by ext)
theorem AY{S:Option Ms}:∀l:List (Str×Str),(∀q∈l,Gd S q.1 q.2)->kC S (l.map (·.1)) ((l.map (·.2)).filter λy=>decide (y≠""))
 |[],_=>.nil
 |(x,y)::l,h=>by
  have ih:=AY l λq hq=>h q (jF _ hq)
  rcases h (x,y) xK with⟨hb,e⟩|⟨an,h1,h2,h3,r,hs,e,n⟩
  ·have e':y="":=e
   subst e'
   exact .blank hb (by simpa using ih)
  ·have e':uY an=y:=e
   have n':y≠"":=n
   rw[wq,wq,List.filter_cons,vb (by simpa using n'),<-e']
   exact .row h1 h2 h3 r (λer he=>⟨hs er he,rfl⟩) ih
noncomputable abbrev YH:cc:=top 164
noncomputable abbrev YR:cc:=top 165
noncomputable abbrev YS:cc:=top 166
noncomputable abbrev YT:cc:=top 167
noncomputable abbrev YA:cc:=top 168
structure YE(mg:Str->Option zt):Prop where
 len:mg "len"=none
 int:mg "int"=none
 max:mg "max"=none
 min:mg "min"=none
 range:mg "range"=none
section
variable {base:ll}
inductive qmc(K:Fg)(vs:List V)(H:Hp)(Q:VK):Prop
 |mk (a:jp) (ns:List Int) (k:Int) (qQ:vs=[.ref a,.int k]) (qZ:qp K H a (ns.map V.int)) (qV:ns.length<=63) (qG:∀(z:Int)(H':Hp),qv H H'->Q (.int z) H')
noncomputable def AU (K:Fg):Sp:=λvs H Q zh=>qmc K vs H Q
theorem qml:qO ["_law_script","_law_k"] ["_law_script","_law_k"] (qK YH):=by symm
theorem qmg(F:qJ K "_law_cell" "_law_cell" YH .none f fd)(G:YE mg):∅ 1 f fd ["_law_script","_law_k"] (AU K):=by
 refine F.qB qml (by grind) ?_
 omega
 obtain⟨a,ns,k,rfl,hS,hn,q⟩:=h
 refine⟨_,qc (qP (qM (qk2 hr.qxp) (pv 0) (zQ qk) (qR _)) (qg (qW (zV Qj (pv 1) qe))) zq)
  (qg (qW (zV oR (qU jH (pv 0) (zV fJ (pv 1) (jZ wQ (by rfl) G.len xV (qx (pv 0) qk))))
   (zV Qj (zV qj8 (pv 1) (jZ wQ (by rfl) G.len xV (qx (pv 0) qk))) qe)))),?_⟩
 left
 refine⟨_,rfl,(by decide),λl hl=>?_⟩
 have g1:=qv.put (o:=.lst []) hl
 have mQ:=g1.same.seq hS
 refine⟨a,l,_,rfl,rfl,mQ,qp.of qu,_,rfl,?_⟩
 refine zB (λ_=>?_) (λh=>?_)
 ·exact⟨_,rfl,_,_,rfl,rfl,.inr ⟨by decide,by decide⟩,q _ _ g1⟩
 ·have jP:ns≠[]:=λe=>h (by rw[e];rfl)
  have qpI:0<ns.length:=List.length_pos_iff.mpr jP
  have Y0:(0:Int)<((ns.map V.int).length:Nat):=by rw[za];lia
  have h0:0<=k%((ns.map V.int).length:Nat):=qqL _ (by lia)
  have h1:k%((ns.map V.int).length:Nat)<((ns.map V.int).length:Nat):=Int.emod_lt_of_pos _ Y0
  obtain⟨j,hj⟩:∃j:Nat,k%((ns.map V.int).length:Nat)=(j:Int):=⟨(k%((ns.map V.int).length:Nat)).toNat,by lia⟩
  have Rt:j<ns.length:=by rw[hj,za]at h1;lia
  have hv:(ns.map V.int)[j]? =some (V.int ns[j]):=by rw[xH,jm Rt];rfl
  refine⟨_,rfl,_,rfl,_,rfl,a,_,rfl,.inl mQ,_,_,rfl,rfl,Y0,a,_,_,.int ns[j],rfl,rfl,mQ,?_,?_⟩
  ·rw[hj];exact qY hv
  ·refine⟨_,rfl,_,rfl,a,_,rfl,.inl mQ,_,_,rfl,rfl,⟨Y0,?_⟩,_,_,rfl,rfl,.inr ⟨by decide,by decide⟩,_,_,rfl,rfl,q _ _ g1⟩
   show(((ns.map V.int).length:Nat):Int)<1073741824
   rw[za];lia
inductive AO(vs:List V)(H:Hp)(Q:VK):Prop
 |mk (c:Int) (k:Int) (qQ:vs=[.int c,.int k]) (qZ:∀z:Int,0<=z->Q (.int z) H):AO vs H Q
noncomputable def AI:Sp:=λvs H Q zh=>AO vs H Q
theorem AL:qO ["_law_cell_here","_law_k","_law_more"] ["_law_cell_here","_law_k"] (qK YR):=by symm
theorem qmm(F:qJ K "_law_drawn" "_law_drawn" YR .none f fd):∅ 1 f fd ["_law_cell_here","_law_k"] AI:=by
 refine F.qB AL (by grind) ?_
 omega
 obtain⟨c,k,rfl,q⟩:=h
 refine⟨_,qc (qC (i:=2) AL.nd rfl oI (zV fJ (zV oR (zV Qj (pv 0) qe) (zV Qj (zV oR (pv 1) qe) qe)) qe))
  (qg (qW (zV fJ (zV qkA (pv 2) (pv 2)) qe))),?_⟩
 left
 refine⟨_,rfl,_,_,rfl,rfl,.inr ⟨by decide,by decide⟩,_,rfl,_,_,rfl,rfl,_,_,rfl,rfl,.inr ⟨by decide,by decide⟩,_,_,rfl,rfl,_,_,rfl,rfl,(by show(0:Int)<340282366920938463463374607431768211507;decide),?_⟩
 obtain⟨m,hm⟩:∃m,(c*6364136223846793005+(k+1)*1442695040888963407)%340282366920938463463374607431768211507=m:=⟨_,rfl⟩
 have m0:0<=m:=by rw[<-hm];exact qqL _ (by decide)
 have m1:m<340282366920938463463374607431768211507:=by rw[<-hm];exact Int.emod_lt_of_pos _ (by decide)
 have hb:Builtin.Int.intBits m<=129:=intBits_le_iff.mpr (by
  have :m.natAbs<340282366920938463463374607431768211507:=by lia
  exact qzL this (by decide))
 rw[<-hm]at hb
 refine⟨_,rfl,_,rfl,_,_,rfl,rfl,IntMulOk.of_le (m:=129) (n:=129) hb hb (by decide),_,_,rfl,rfl,(by show(0:Int)<340282366920938463463374607431768211297;decide),?_⟩
 exact q _ (qqL _ (by decide))
theorem kZ:qO ["_law_some"] [] (qK YS):=by symm
noncomputable abbrev mZ:List (Str×Str):=([("leap","refused: BadRow"),("go","refused: BadRow"),("go 0","refused: BadRow"),("go x","refused: BadRow"),("go 01","refused: BadRow"),("go 10000","refused: BadRow"),("go 1 1","refused: BadRow"),("room 7","refused: BadRow")]:List (Str×Str))++([("room 401","refused: BadRow"),("room","refused: BadRow"),("room  9","refused: BadRow"),("kind","refused: BadRow"),("kind ","refused: BadText 0"),("kind (plus 1)","refused: BadText 7"),("kind (plus 1 true)","refused: Unfit"),("move 1","refused: BadRow")]:List (Str×Str))++([("kind (plus x true)","refused: NoName x"),("run (head 1)","refused: Unfit"),("Run 1","refused: BadRow"),("begin (let x 1 y)","refused: NoName y"),("begin","refused: BadRow"),("begin 1 2","refused: BadText 2"),("run 1","1"),("run (over 1 0)","by nought")]:List (Str×Str))++([("run (head (nil int))","of empty"),("run true","true"),("kind (nil int)","(list int)"),("kind (fn x int true)","(fun int bool)"),("run (fn x int x)","fn"),("run (cons 1 (cons -2 (nil int)))","[1,-2]"),("run (pair 1 (pair true 2))","(1,(true,2))"),("   ","")]:List (Str×Str))++([(" run 1","refused: BadRow"),("run (call (rec f n int int (plus 1 (call f n))) 1)","too deep"),("room 400","ok"),("show 1","refused: BadRow"),("made ","refused: BadRow")]:List (Str×Str))
noncomputable def tR (q:Str×Str):Dt:=.tup [.str q.1,.str q.2]
noncomputable def tS (x:Str):Dt:=.tup [.str x,.qd]
noncomputable abbrev Z3:List Dt:=mZ.map tR++[tS "used",tS "show",tS "go 3"]
noncomputable def dJ:List (Str×Str)->TA
 |[]=>xx
 |q::l=>jQ (J9 (jQ (tC (.str q.1)) (jQ (tC (.str q.2)) xx))) (dJ l)
structure xD(X:Cx)(es:List hU)(l:List (Str×Str)):Prop where
 h:PA X es (dJ l)
theorem rn:xD X [] []:=⟨qk⟩
theorem rc{X:Cx}{es:List hU}{l:List (Str×Str)}{a b:Str}{i j k:Nat}{p q r:Pos}(h:xD X es l):xD X (.Tuple [.Constant (.str a) i p,.Constant (.str b) j q] k r::es) ((a,b)::l):=⟨qx (zR (qx qh (qx qh qk))) h.h⟩
theorem Y3:∀(l:List (Str×Str)){σ:St}{H:Hp}{Q:List V->Hp->Prop},(∀xs H',qv H H'->qf K H' (l.map tR) xs->Q xs H')->dJ l σ H Q
 |[],_,H,_,q=>q [] H (qv.refl H) zp
 |(a,b)::l,σ,H,Q,q=>⟨jk,λt ht=>Y3 l λxs H' g d=>q (.ref t::xs) H' ((qv.put ht).trans g) (zx (yV (qb.of (g.same _ _ qu)) (uf b)) d)⟩
theorem qmn{l:List (Str×Str)}{u:TS}(e:H a=some (.lst xs))(d:qf K H ds xs)(hx:xs.length<=100)(hl:l.length<=3)(k:∀a' mJ H',H' a'=some (.lst mJ)->qf K H' (ds++l.map tR) mJ->qv H H'->u D [some (.ref a')] H'):vC (uF (vM Qn (zO 0) (ny (dJ l))) (xF 0)) u D [some (.ref a)] H:=by
 refine⟨_,rfl,Y3 (K:=K) l λys H1 g1 hy=>?_⟩
 have Zy:ys.length=l.length:=by rw[hy.length,za]
 refine⟨by rw[xt];lia,λp hp=>?_⟩
 have g2:=qv.put (o:=.lst ys) hp
 have e2:=@qu H1 p (.lst ys)
 generalize upd H1 p (.lst ys)=H2 at g2 e2⊢
 refine⟨a,p,xs,ys,rfl,rfl,(g1.trans g2).same _ _ e,e2,by rw[xt];lia,λr hr=>?_⟩
 have g3:=qv.put (o:=.lst (xs++ys)) hr
 exact k r _ _ qu (((d.mono (g1.trans g2).same).append (hy.mono g2.same)).mono g3.same) ((g1.trans g2).trans g3)
noncomputable def AG (u:TS):List (List (Str×Str))->TS
 |[]=>u
 |l::ls=>vC (uF (vM Qn (zO 0) (ny (dJ l))) (xF 0)) (AG u ls)
theorem AM{D:Ends}{u:TS}:∀(ls:List (List (Str×Str))){a:jp}{xs:List V}{ds:List Dt}{H:Hp},H a=some (.lst xs)->qf K H ds xs->xs.length+3*ls.length<=100->(∀l∈ls,l.length<=3)->
  (∀a' mJ H',H' a'=some (.lst mJ)->qf K H' (ds++ls.flatten.map tR) mJ->qv H H'->u D [some (.ref a')] H')->AG u ls D [some (.ref a)] H
 |[],a,xs,ds,H,e,d,_,_,k=>k a xs H e (by simpa using d) (qv.refl H)
 |l::ls,a,xs,ds,H,e,d,hx,hl,k=>by
  rw[zH]at hx
  have h3:=hl l xK
  refine qmn (K:=K) e d (by lia) h3 λa' mJ H' e' d' g'=>?_
  have vq:mJ.length=xs.length+l.length:=by rw[d'.length,va,za,d.length]
  exact AM ls e' d' (by lia) (λm hm=>hl m (jF _ hm)) λa2 xs2 H2 e2 d2 g2=>k a2 xs2 H2 e2 (by simpa using d2) (g'.trans g2)
noncomputable def ck (a b:Nat):List (Str×Str):=(mZ.drop a).take b
noncomputable def AN:List (List (Str×Str)):=[ck 2 2,ck 4 2,ck 6 2,ck 8 2,ck 10 2,ck 12 2,ck 14 2,ck 16 2,ck 18 2,ck 20 2,ck 22 2,ck 24 2,ck 26 2,ck 28 2,ck 30 2,ck 32 1,ck 33 1,ck 34 3]
theorem qmd:ck 0 2++AN.flatten=mZ:=by ext
noncomputable def AB (K:Fg):Sp:=λvs H Q _=>vs=[]/\∀l xs H',qv H H'->H' l=some (.lst xs)->qf K H' Z3 xs->Q (.ref l) H'
theorem qmf(F:qJ K "_law_always" "_law_always" YS .none f fd):∅ 1 f fd [] (AB K):=by
 refine F.qB kZ (by grind) ?_
 omega
 obtain⟨rfl,q⟩:=h
 refine⟨_,qc (qC (i:=0) kZ.nd rfl oI (zQ (@xD.h _ _ _ (rc (rc rn)))))
  (qc (qC (i:=0) kZ.nd rfl oI (zV j4 (pv 0) (zQ (@xD.h _ _ _ (rc (rc rn))))))
  (qc (qC (i:=0) kZ.nd rfl oI (zV j4 (pv 0) (zQ (@xD.h _ _ _ (rc (rc rn))))))
  (qc (qC (i:=0) kZ.nd rfl oI (zV j4 (pv 0) (zQ (@xD.h _ _ _ (rc (rc rn))))))
  (qc (qC (i:=0) kZ.nd rfl oI (zV j4 (pv 0) (zQ (@xD.h _ _ _ (rc (rc rn))))))
  (qc (qC (i:=0) kZ.nd rfl oI (zV j4 (pv 0) (zQ (@xD.h _ _ _ (rc (rc rn))))))
  (qc (qC (i:=0) kZ.nd rfl oI (zV j4 (pv 0) (zQ (@xD.h _ _ _ (rc (rc rn))))))
  (qc (qC (i:=0) kZ.nd rfl oI (zV j4 (pv 0) (zQ (@xD.h _ _ _ (rc (rc rn))))))
  (qc (qC (i:=0) kZ.nd rfl oI (zV j4 (pv 0) (zQ (@xD.h _ _ _ (rc (rc rn))))))
  (qc (qC (i:=0) kZ.nd rfl oI (zV j4 (pv 0) (zQ (@xD.h _ _ _ (rc (rc rn))))))
  (qc (qC (i:=0) kZ.nd rfl oI (zV j4 (pv 0) (zQ (@xD.h _ _ _ (rc (rc rn))))))
  (qc (qC (i:=0) kZ.nd rfl oI (zV j4 (pv 0) (zQ (@xD.h _ _ _ (rc (rc rn))))))
  (qc (qC (i:=0) kZ.nd rfl oI (zV j4 (pv 0) (zQ (@xD.h _ _ _ (rc (rc rn))))))
  (qc (qC (i:=0) kZ.nd rfl oI (zV j4 (pv 0) (zQ (@xD.h _ _ _ (rc (rc rn))))))
  (qc (qC (i:=0) kZ.nd rfl oI (zV j4 (pv 0) (zQ (@xD.h _ _ _ (rc (rc rn))))))
  (qc (qC (i:=0) kZ.nd rfl oI (zV j4 (pv 0) (zQ (@xD.h _ _ _ (rc (rc rn))))))
  (qc (qC (i:=0) kZ.nd rfl oI (zV j4 (pv 0) (zQ (@xD.h _ _ _ (rc rn)))))
  (qc (qC (i:=0) kZ.nd rfl oI (zV j4 (pv 0) (zQ (@xD.h _ _ _ (rc rn)))))
  (qc (qC (i:=0) kZ.nd rfl oI (zV j4 (pv 0) (zQ (@xD.h _ _ _ (rc (rc (rc rn)))))))
  (qg (qW (zV j4 (pv 0) (zQ (qx (zR (qx qh (qx d9 qk))) (qx (zR (qx qh (qx d9 qk))) (qx (zR (qx qh (qx d9 qk))) qk))))))))))))))))))))))))),?_⟩
 left
 show vC (uF (ny (dJ (ck 0 2))) (xF 0)) _ _ [none] H
 refine Y3 (K:=K) _ λys H1 g1 hy=>?_
 refine⟨by rw[hy.length,xt];decide,λp hp=>?_⟩
 have g2:=qv.put (o:=.lst ys) hp
 refine AM (K:=K) AN qu (hy.mono g2.same) (by rw[hy.length];decide) (by decide) λa xs H2 e d g3=>?_
 have g:=(g1.trans g2).trans g3
 rw[<-kG,qmd]at d
 have hl:xs.length=37:=by rw[d.length];rfl
 clear g1 g2 g3 hy hp
 refine⟨_,rfl,jk,λt1 h1=>?_⟩
 have k1:=qv.put (o:=.tup [.str "used",.qd]) h1
 have e1:=@qu H2 t1 (.tup [.str "used",.qd])
 generalize upd H2 t1 (.tup [.str "used",.qd])=H1 at k1 e1⊢
 refine⟨jk,λt2 h2=>?_⟩
 have k2:=qv.put (o:=.tup [.str "show",.qd]) h2
 have e2:=@qu H1 t2 (.tup [.str "show",.qd])
 generalize upd H1 t2 (.tup [.str "show",.qd])=H5 at k2 e2⊢
 refine⟨jk,λt3 h3=>?_⟩
 have k3:=qv.put (o:=.tup [.str "go 3",.qd]) h3
 have e3:=@qu H5 t3 (.tup [.str "go 3",.qd])
 generalize upd H5 t3 (.tup [.str "go 3",.qd])=H3 at k3 e3⊢
 refine⟨uI,λp hp=>?_⟩
 have k4:=qv.put (o:=.lst [.ref t1,.ref t2,.ref t3]) hp
 have e4:=@qu H3 p (.lst [.ref t1,.ref t2,.ref t3])
 generalize upd H3 p (.lst [.ref t1,.ref t2,.ref t3])=H4 at k4 e4⊢
 have k:=((k1.trans k2).trans k3).trans k4
 refine⟨a,p,xs,_,rfl,rfl,k.same _ _ e,e4,by rw[hl,xt];show 37+3<=_;decide,λr hr=>?_⟩
 have k5:=qv.put (o:=.lst (xs++[.ref t1,.ref t2,.ref t3])) hr
 have nn:∀{x:Str}{t:jp},H4 t=some (.tup [.str x,.qd])->qw K H4 (tS x) (.ref t):=λh=>yV (qb.of h) (by rw[qw])
 have dd:=(d.mono k.same).append (zx (nn (((k2.trans k3).trans k4).same _ _ e1)) (zx (nn ((k3.trans k4).same _ _ e2)) (zx (nn (k4.same _ _ e3)) zp)))
 exact q r _ _ ((g.trans k).trans k5) qu (dd.mono k5.same)
end
structure Z4(X:Cx)(pos:Pos)(keys:List (Option hU))(values:List hU)(xO:List (TE×TE)):Prop where
 h:rZ X pos keys values xO
structure tT(X:Cx)(ss:List cc)(t:TS):Prop where
 h:xm X ss t
section
variable {p p':Pos} {ks:List (Option hU)} {vs:List hU} {xO:List (TE×TE)} {a b:Str} {j':Nat}
theorem Z5:Z4 X pos [] [] []:=⟨qvm⟩
theorem yL(hr:Z4 X pos ks vs xO):Z4 X pos (some (.Constant (.str a) j p)::ks) (.Constant (.str b) j' p'::vs) ((tC (.str a),tC (.str b))::xO):=⟨qvn qh qh hr.h⟩
theorem Z6(h:Z4 X pos ks vs xO)(uS:ks.all (·.isSome)=true)(hl:ks.length=vs.length)(h0:ks≠[])(XT:ks.length<=15):tT X [.Return (some (.Dict ks vs pos)) p] (fk (XS xO)):=⟨qg (qW (qvb h.h uS hl h0 XT))⟩
end
noncomputable def uU (a b c:Str):List (Key×V):=[(Sum.inr "used",.str a),(Sum.inr "show",.str b),(Sum.inr "go 3",.str c)]
theorem k3:("used":Str)≠"show"/\("used":Str)≠"go 3"/\("show":Str)≠"go 3":=by ext
theorem lu{y:Str}(h:x≠y):¬(Sum.inr x:Key)=Sum.inr y:=λz=>h (He z)
theorem uO{a b c:Str}:jo (uU a b c) (Sum.inr "used":Key)=some (.str a)/\jo (uU a b c) (Sum.inr "show":Key)=some (.str b)/\jo (uU a b c) (Sum.inr "go 3":Key)=some (.str c):=
 ⟨wX rfl,(vc (lu k3.1)).trans (wX rfl),(vc (lu k3.2.1)).trans ((vc (lu k3.2.2)).trans (wX rfl))⟩
theorem qmh(a b c:Str):nV [] (uU a b c)=uU a b c:=by
 show putK (putK (putK ([]:List (Key×V)) (Sum.inr "used") (.str a)) (Sum.inr "show") (.str b)) (Sum.inr "go 3") (.str c)=_
 rw[XN _ XM,qqI,XN _ ((vc (lu k3.1)).trans XM),List.singleton_append,XN _ ((vc (lu k3.2.1)).trans ((vc (lu k3.2.2)).trans XM))]
 rfl
noncomputable def Z7:Nat->List (Key×V)
 |0=>uU "refused: NoMachine" "refused: NoMachine" "refused: NoMachine"
 |1=>uU "0" "7" "done"
 |2=>uU "0" "refused: NotDone" "of empty"
 |_=>uU "0" "refused: NotDone" "running"
section
variable {base:ll}
theorem qmp:qO ["_law_desk"] ["_law_desk"] (qK YT):=by symm
inductive AD(vs:List V)(H:Hp)(Q:VK):Prop
 |mk (n:Nat) (qQ:vs=[.int (n:Nat)]) (qZ:n<4) (qV:∀p H',qv H H'->H p=none->H' p=some (.dK (Z7 n))->Q (.ref p) H'):AD vs H Q
noncomputable def AF:Sp:=λvs H Q zh=>AD vs H Q
theorem Z8{a b c:Str}{Q:VK}(q:∀p H',qv H H'->H p=none->H' p=some (.dK (uU a b c))->Q (.ref p) H'):XS [(tC (.str "used"),tC (.str a)),(tC (.str "show"),tC (.str b)),(tC (.str "go 3"),tC (.str c))] σ H Q:=by
 intro p hp
 refine⟨qu,uU a b c,rfl,(by show 3<=15;decide),?_⟩
 rw[uL,qmh]
 exact q p _ (qv.put hp) hp qu
theorem qmr(F:qJ K "_law_special" "_law_special" YT .none f fd):∅ 1 f fd ["_law_desk"] AF:=by
 refine F.qB qmp (by grind) ?_
 omega
 obtain⟨n,rfl,hn,q⟩:=h
 refine⟨_,qc (qP (qM jb (pv 0) qe (qR _)) (@tT.h _ _ _ (Z6 (yL (yL (yL Z5))) rfl rfl (by intro z;cases z) (by show 3<=15;decide))) zq)
  (qc (qP (qM jb (pv 0) qe (qR _)) (@tT.h _ _ _ (Z6 (yL (yL (yL Z5))) rfl rfl (by intro z;cases z) (by show 3<=15;decide))) zq)
  (qc (qP (qM jb (pv 0) qe (qR _)) (@tT.h _ _ _ (Z6 (yL (yL (yL Z5))) rfl rfl (by intro z;cases z) (by show 3<=15;decide))) zq)
  (@tT.h _ _ _ (Z6 (yL (yL (yL Z5))) rfl rfl (by intro z;cases z) (by show 3<=15;decide))))),?_⟩
 left
 obtain rfl|rfl|rfl|rfl:n=0\/n=1\/n=2\/n=3:=by lia
 ·exact⟨_,rfl,rfl,_,rfl,jG (by ext) (Z8 q)⟩
 ·exact⟨_,rfl,rfl,_,rfl,z0 (by ext) ⟨_,rfl,rfl,_,rfl,jG (by ext) (Z8 q)⟩⟩
 ·exact⟨_,rfl,rfl,_,rfl,z0 (by ext) ⟨_,rfl,rfl,_,rfl,z0 (by ext) ⟨_,rfl,rfl,_,rfl,jG (by ext) (Z8 q)⟩⟩⟩
 ·exact⟨_,rfl,rfl,_,rfl,z0 (by ext) ⟨_,rfl,rfl,_,rfl,z0 (by ext) ⟨_,rfl,rfl,_,rfl,z0 (by ext) (Z8 q)⟩⟩⟩
end
theorem AH{c:Nat}:∀{x y a b:List Nat},c∉x->c∉y->x++c::a=y++c::b->x=y/\a=b
 |[],[],a,b,_,_,h=>⟨rfl,by simpa using h⟩
 |[],d::y,a,b,_,hy,h=>by
  rw[qqI,hG]at h
  exact absurd (qqJ h).1 λz=>hy (by rw[z];exact xK)
 |d::x,[],a,b,hx,_,h=>by
  rw[qqI,hG]at h
  exact absurd (qqJ h).1 λz=>hx (by rw[<-z];exact xK)
 |d::x,e::y,a,b,hx,hy,h=>by
  rw[hG,hG]at h
  obtain⟨h0,h1⟩:=qqJ h
  obtain⟨h3,h2⟩:=AH (λz=>hx (jF _ z)) (λz=>hy (jF _ z)) h1
  exact⟨by rw[h0,h3],h2⟩
theorem dX(x y:Str):(x++y).cps.toList=x.cps.toList++y.cps.toList:=by
 show(x.cps++y.cps).toList=_
 simp
theorem AR{c:Nat}:∀{xs ys:List Str},xs≠[]->ys≠[]->(∀x∈xs,c∉x.cps.toList)->(∀x∈ys,c∉x.cps.toList)->(hW ⟨#[c]⟩ xs).cps.toList=(hW ⟨#[c]⟩ ys).cps.toList->xs=ys
 |[],_,h,_,_,_,_=>absurd rfl h
 |_::_,[],_,h,_,_,_=>absurd rfl h
 |[x],[y],_,_,_,_,h=>by rw[Zf (x:=x) (y:=y) h]
 |[x],y::z::r,_,_,hx,_,h=>by
  have e:(hW ⟨#[c]⟩ (y::z::r)).cps.toList=y.cps.toList++c::(hW ⟨#[c]⟩ (z::r)).cps.toList:=by
   show((y++⟨#[c]⟩)++hW ⟨#[c]⟩ (z::r)).cps.toList=_
   rw[dX,dX];simp
  rw[e]at h
  exact absurd (show c∈x.cps.toList by rw[show x.cps.toList=_ from h];simp) (hx x xK)
 |x::z::r,[y],_,_,_,hy,h=>by
  have e:(hW ⟨#[c]⟩ (x::z::r)).cps.toList=x.cps.toList++c::(hW ⟨#[c]⟩ (z::r)).cps.toList:=by
   show((x++⟨#[c]⟩)++hW ⟨#[c]⟩ (z::r)).cps.toList=_
   rw[dX,dX];simp
  rw[e]at h
  exact absurd (show c∈y.cps.toList by rw[show y.cps.toList=_ from h.symm];simp) (hy y xK)
 |x::z::r,y::u::t,_,_,hx,hy,h=>by
  have e:∀(x z:Str)(r:List Str),(hW ⟨#[c]⟩ (x::z::r)).cps.toList=x.cps.toList++c::(hW ⟨#[c]⟩ (z::r)).cps.toList:=λx z r=>by
   show((x++⟨#[c]⟩)++hW ⟨#[c]⟩ (z::r)).cps.toList=_
   rw[dX,dX];simp
  rw[e,e]at h
  obtain⟨h1,h2⟩:=AH (hx x xK) (hy y xK) h
  rw[Zf (x:=x) (y:=y) h1,AR (by simp) (by simp) (λq hq=>hx q (jF _ hq)) (λq hq=>hy q (jF _ hq)) h2]
theorem qms{ls:List Str}(h0:ls≠[])(h:∀x∈ls,10∉x.cps.toList):sk (fw "\n" ls) "\n"=ls:=by
 have e:("\n":Str)=⟨#[10]⟩:=by ext
 rw[show fw "\n" ls=hW "\n" ls from D' "\n" ls,e]
 exact AR qlC h0 (λx hx=>StrLaws.split_free _ _ _ hx) h (by rw[qzV])
theorem ji{y:Str}{l:List (Str×Str)}(h:Gd S x y)(t:∀q∈l,Gd S q.1 q.2):∀q∈(x,y)::l,Gd S q.1 q.2:=λq hq=>by
 rcases js.mp hq with rfl|hq
 ·exact h
 ·exact t q hq
theorem Z9{l r:List (Str×Str)}(h:∀q∈l,Gd S q.1 q.2)(t:∀q∈r,Gd S q.1 q.2):∀q∈l++r,Gd S q.1 q.2:=λq hq=>by
 rcases ip.mp hq with hq|hq
 ·exact h q hq
 ·exact t q hq
theorem qmt:∀q∈mZ,Gd S q.1 q.2:=Z9 (Z9 (Z9 (Z9 (ji (.bad (by ext)) (ji (.bad (by ext)) (ji (.bad (by ext)) (ji (.bad (by ext)) (ji (.bad (by ext)) (ji (.bad (by ext)) (ji (.bad (by ext)) (ji (r19) (λ_ h=>by cases h))))))))) (ji (r20) (ji (.bad (by ext)) (ji (.bad (by ext)) (ji (.bad (by ext)) (ji (r1) (ji (r2) (ji (r4) (ji (.bad (by ext)) (λ_ h=>by cases h)))))))))) (ji (r5) (ji (r6) (ji (.bad (by ext)) (ji (r7) (ji (.bad (by ext)) (ji (r3) (ji (r10) (ji (r11) (λ_ h=>by cases h)))))))))) (ji (r12) (ji (r13) (ji (r8) (ji (r9) (ji (r14) (ji (r15) (ji (r16) (ji (r21) (λ_ h=>by cases h)))))))))) (ji (.bad (by ext)) (ji (r17) (ji (r18) (ji (.bad (by ext)) (ji (.bad (by ext)) (λ_ h=>by cases h))))))
theorem qma:∀q∈mZ,10∉q.1.cps.toList:=by ext
noncomputable def S_:Nat->Option Ms
 |0=>none|1=>some (mE p7)|2=>some (mE pT)|_=>some (mE pL)
noncomputable def F_:Nat->List Str
 |0=>[]|1=>["begin 7","go 100"]|2=>["begin (tail (nil bool))","go 100"]|_=>["begin (call (rec f n int int (call f n)) 1)","go 100"]
noncomputable def G_:Nat->List Str
 |0=>[]|1=>["ok","done"]|2=>["ok","of empty"]|_=>["ok","running"]
theorem qme(h:n<4)(q:kC (S_ n) rows ja):kC none (F_ n++rows) (G_ n++ja):=by
 obtain rfl|rfl|rfl|rfl:n=0\/n=1\/n=2\/n=3:=by lia
 ·exact q
 ·exact f7 q
 ·exact fT q
 ·exact fL q
noncomputable def sv:Nat->Str->Option Str
 |0,_=>some "refused: NoMachine"
 |1,x=>if x="used" then some "0" else if x="show" then some "7" else some "done"
 |2,x=>if x="used" then some "0" else if x="show" then some "refused: NotDone" else some "of empty"
 |_,x=>if x="used" then none else if x="show" then some "refused: NotDone" else some "running"
theorem qmQ(h:n<4){y:Str}(hx:x∈(["used","show","go 3"]:List Str))(e:sv n x=some y):Gd (S_ n) x y:=by
 simp only[js,xa,ii]at hx
 obtain rfl|rfl|rfl|rfl:n=0\/n=1\/n=2\/n=3:=by lia
 ·have :y="refused: NoMachine":=(xb e).symm
  subst this
  rcases hx with rfl|rfl|rfl
  ·exact u0
  ·exact s0
  ·exact g0
 ·rcases hx with rfl|rfl|rfl
  ·have :y="0":=(xb ((show sv 1 "used"=some "0" by ext).symm.trans e)).symm
   subst this;exact u7
  ·have :y="7":=(xb ((show sv 1 "show"=some "7" by ext).symm.trans e)).symm
   subst this;exact s7
  ·have :y="done":=(xb ((show sv 1 "go 3"=some "done" by ext).symm.trans e)).symm
   subst this;exact YB.YF (by ext)
 ·rcases hx with rfl|rfl|rfl
  ·have :y="0":=(xb ((show sv 2 "used"=some "0" by ext).symm.trans e)).symm
   subst this;exact uT
  ·have :y="refused: NotDone":=(xb ((show sv 2 "show"=some "refused: NotDone" by ext).symm.trans e)).symm
   subst this;exact sT
  ·have :y="of empty":=(xb ((show sv 2 "go 3"=some "of empty" by ext).symm.trans e)).symm
   subst this;exact YD.YF (by ext)
 ·rcases hx with rfl|rfl|rfl
  ·exact absurd e (by rw[show sv 3 "used"=none by ext];intro z;cases z)
  ·have :y="refused: NotDone":=(xb ((show sv 3 "show"=some "refused: NotDone" by ext).symm.trans e)).symm
   subst this;exact sL
  ·have :y="running":=(xb ((show sv 3 "go 3"=some "running" by ext).symm.trans e)).symm
   subst this;exact AW.YF (by ext)
theorem Y4{b:Bool}{t u:TS}(P:St->Hp->Prop)(hr:∀σ H,P σ H->D.nx σ H)(ht:b=true->(∀σ H,P σ H->D.nx σ H)->t D σ H)(hu:b=false->(∀σ H,P σ H->D.nx σ H)->u D σ H):if b=true then t D σ H else u D σ H:=by
 cases b
 ·exact qA (hu rfl hr)
 ·exact zY (ht rfl hr)
noncomputable abbrev tE:List Str:=["used","show","go 3"]
noncomputable def sK (n:Nat):List (Key×V):=if n=3 then putK (Z7 n) (Sum.inr "used") V.qd else Z7 n
noncomputable def vO:Option Str->V
 |some y=>.str y|none=>.qd
theorem qmZ(h:n<4)(hx:x∈tE):jo (sK n) (Sum.inr x)=some (vO (sv n x)):=by
 simp only[tE,js,xa,ii]at hx
 obtain rfl|rfl|rfl|rfl:n=0\/n=1\/n=2\/n=3:=by lia
 ·rcases hx with rfl|rfl|rfl
  ·exact uO.1
  ·exact uO.2.1
  ·exact uO.2.2
 ·rcases hx with rfl|rfl|rfl
  ·rw[show sv 1 "used"=some "0" by ext];exact uO.1
  ·rw[show sv 1 "show"=some "7" by ext];exact uO.2.1
  ·rw[show sv 1 "go 3"=some "done" by ext];exact uO.2.2
 ·rcases hx with rfl|rfl|rfl
  ·rw[show sv 2 "used"=some "0" by ext];exact uO.1
  ·rw[show sv 2 "show"=some "refused: NotDone" by ext];exact uO.2.1
  ·rw[show sv 2 "go 3"=some "of empty" by ext];exact uO.2.2
 ·show jo (putK (Z7 3) (Sum.inr "used":Key) V.qd) (Sum.inr x)=_
  rw[Qe]
  rcases hx with rfl|rfl|rfl
  ·rw[vb rfl,show sv 3 "used"=none by ext];rfl
  ·rw[ke (lu k3.1.symm),show sv 3 "show"=some "refused: NotDone" by ext];exact uO.2.1
  ·rw[ke (lu k3.2.1.symm),show sv 3 "go 3"=some "running" by ext];exact uO.2.2
theorem qmJ(h:n≠3)(hn:n<4):sv n x≠none:=by
 obtain rfl|rfl|rfl:n=0\/n=1\/n=2:=by lia
 ·exact λz=>by cases z
 ·show(if x="used" then some "0" else if x="show" then some "7" else some "done":Option Str)≠none
  split
  ·exact λz=>by cases z
  ·split<;>exact λz=>by cases z
 ·show(if x="used" then some "0" else if x="show" then some "refused: NotDone" else some "of empty":Option Str)≠none
  split
  ·exact λz=>by cases z
  ·split<;>exact λz=>by cases z
theorem qmX:∀q∈mZ,q.1.length<=60:=by ext
theorem qmK:∀x∈tE,10∉x.cps.toList/\x.length<=60:=by ext
theorem qmV(h:n<4):∀x∈F_ n,10∉x.cps.toList/\x.length<=60:=by
 obtain rfl|rfl|rfl|rfl:n=0\/n=1\/n=2\/n=3:=by lia
 all_goals ext
theorem tab_of(h:j<40):∃d,Z3[j]? =some d/\((∃q∈mZ,d=tR q)\/∃x∈tE,d=tS x):=by
 have hl:j<Z3.length:=h
 refine⟨Z3[j],jm hl,?_⟩
 rcases ip.mp (qql hl)with hm|hm
 ·obtain⟨q,hq,e⟩:=rp.mp hm
  exact .inl ⟨q,hq,e.symm⟩
 ·simp only[js,xa,ii]at hm
  rcases hm with e|e|e
  ·exact .inr ⟨_,by simp,e⟩
  ·exact .inr ⟨_,by simp,e⟩
  ·exact .inr ⟨_,by simp,e⟩
theorem at2{d:Dt}(h:qw K H (.tup [.str x,d]) v):∃a u,v= .ref a/\qb K H a [.str x,u]/\qw K H d u:=by
 obtain⟨a,vs,rfl,h1,h2⟩:=cX h
 obtain⟨v,r,rfl,hv,hr⟩:=zA h2
 obtain⟨v2,r2,rfl,v7,bY⟩:=zA hr
 cases kY bY
 cases xW hv
 exact⟨a,v2,rfl,h1,v7⟩
theorem Y5{K:Fg}{H:Hp}:∀(zs:List Str),qf K H (zs.map Dt.str) (zs.map V.str)
 |[]=>by simp[qf]
 |z::zs=>by
  simp only[wq,qf,qw]
  exact⟨_,_,rfl,rfl,Y5 zs⟩
theorem AS:∀(zs:List Str),j7 (zs.map Dt.str)=0
 |[]=>by simp[j7]
 |z::zs=>by
  simp only[wq,j7,dep,AS zs]
  rfl
theorem qmW(ts:List Str):(fw "\n" ts).length<=(ts.map (·.length)).sum+ts.length:=by
 show(qzj "\n" ts).length<=_
 rw[D']
 have :=qq8 "\n" ts
 have e:("\n":Str).length=1:=by decide
 rw[e]at this
 lia
theorem AA:∀ts:List Str,(∀t∈ts,t.length<=60)->(ts.map (·.length)).sum<=60*ts.length
 |[],_=>by simp
 |t::ts,h=>by
  have :=h t xK
  have ih:=AA ts λq hq=>h q (jF _ hq)
  simp only[wq,B2,zH]
  lia
noncomputable abbrev AE (y:Str):Bool:=decide (y≠"")
inductive Iv(H1:Hp)(l1 l2 p:jp)(n i:Nat)(H:Hp):Prop
 |mk (l:List (Str×Str)) (s:kP H1 H) (e1:H l1=some (.lst ((F_ n++l.map (·.1)).map V.str))) (e2:H l2=some (.lst ((G_ n++(l.map (·.2)).filter AE).map V.str))) (e3:H p=some (.dK (sK n)))
  (g:∀q∈l,Gd (S_ n) q.1 q.2) (f:∀q∈l,10∉q.1.cps.toList/\q.1.length<=60) (hl:l.length<=i) (h0:n=0->l.length=i)
structure Ap(H1:Hp)(l1 l2 p:jp):Prop where
 n1:H1 l1=none
 n2:H1 l2=none
 n3:H1 p=none
 a:l1≠l2
 b:l1≠p
 c:l2≠p
theorem Iv.grow{l1 l2 p:jp}(v:Iv H1 l1 l2 p n i H)(g:qv H H'):Iv H1 l1 l2 p n i H':=by
 obtain⟨l,s,e1,e2,e3,a,b,c,d⟩:=v
 exact⟨l,s.trans g.same,g.same _ _ e1,g.same _ _ e2,g.same _ _ e3,a,b,c,d⟩
theorem A0(h:n<4):(F_ n).length<=2/\(G_ n).length<=2/\(n≠0->F_ n≠[]):=by
 obtain rfl|rfl|rfl|rfl:n=0\/n=1\/n=2\/n=3:=by lia
 all_goals exact⟨by decide,by decide,by intro h z;first|exact h rfl|cases z⟩
theorem Jq(s:kP H1 H)(n:H1 a=none):kP H1 (upd H a o):=λb u e=>by
 rw[qm (zM e n)]
 exact s b u e
theorem Iv.rws{l1 l2 p:jp}(v:Iv H1 l1 l2 p n i H)(hn:n<4)(hi:i<=30)(h1:0<i):∃ls ja:List Str,H l1=some (.lst (ls.map V.str))/\H l2=some (.lst (ja.map V.str))/\kC none (sk (fw "\n" ls) "\n") ja/\(ls.map (·.length)).sum+ls.length<=10000:=by
 obtain⟨l,s,e1,e2,e3,g,f,hl,h0⟩:=v
 obtain⟨f1,f2,f3⟩:=A0 hn
 have fl:=qmV hn
 have uS:∀x∈F_ n++l.map (·.1),10∉x.cps.toList/\x.length<=60:=λx hx=>by
  rcases ip.mp hx with hx|hx
  ·exact fl x hx
  ·obtain⟨q,hq,rfl⟩:=rp.mp hx
   exact f q hq
 refine⟨_,_,e1,e2,?_,?_⟩
 ·rw[qms (λz=>?_) λx hx=>(uS x hx).1]
  ·exact qme hn (AY l g)
  ·have z':=List.append_eq_nil_iff.mp z
   by_cases hz:n=0
   ·have :=h0 hz
    have :l=[]:=by simpa using z'.2
    subst this
    simp at *
    lia
   ·exact f3 hz z'.1
 ·have :=AA _ λx hx=>(uS x hx).2
  have e:(F_ n++l.map (·.1)).length=(F_ n).length+l.length:=by simp
  rw[e]at this⊢
  lia
theorem Iv.row{H1:Hp}{l1 l2 p:jp}{n i:Nat}{H:Hp}(v:Iv H1 l1 l2 p n i H)(A:Ap H1 l1 l2 p)(hn:n<4)(hi:i<30){x y:Str}(h:Gd (S_ n) x y)(hx:10∉x.cps.toList/\x.length<=60):
  ∃xs ys:List V,H l1=some (.lst xs)/\H l2=some (.lst ys)/\xs.length<1000/\ys.length<1000/\(y≠""->(upd H l1 (.lst (xs++[.str x]))) l2=some (.lst ys)/\Iv H1 l1 l2 p n (i+1) (upd (upd H l1 (.lst (xs++[.str x]))) l2 (.lst (ys++[.str y]))))/\(y=""->Iv H1 l1 l2 p n (i+1) (upd H l1 (.lst (xs++[.str x])))):=by
 obtain⟨l,s,e1,e2,e3,g,f,hl,h0⟩:=v
 obtain⟨f1,f2,f3⟩:=A0 hn
 have g':∀q∈l++[(x,y)],Gd (S_ n) q.1 q.2:=λq hq=>by
  rcases ip.mp hq with hq|hq
  ·exact g q hq
  ·cases xX.mp hq;exact h
 have f':∀q∈l++[(x,y)],10∉q.1.cps.toList/\q.1.length<=60:=λq hq=>by
  rcases ip.mp hq with hq|hq
  ·exact f q hq
  ·cases xX.mp hq;exact hx
 have t1:(F_ n++(l++[(x,y)]).map (·.1)).map V.str=(F_ n++l.map (·.1)).map V.str++[.str x]:=by simp
 have xB:((l.map (·.2)).filter AE).length<=l.length:=vy (nz _ _) (by simp)
 refine⟨_,_,e1,e2,by simp;lia,by simp only[za,va];lia,λhy=>⟨?_,?_⟩,λhy=>?_⟩
 ·rw[qm A.a.symm];exact e2
 ·refine⟨l++[(x,y)],Jq (Jq s A.n1) A.n2,?_,?_,?_,g',f',by simp;lia,λz=>by simp[h0 z]⟩
  ·rw[qm A.a,qu,t1]
  ·rw[qu]
   congr 2
   simp[hy]
  ·rw[qm A.c.symm,qm A.b.symm];exact e3
 ·refine⟨l++[(x,y)],Jq s A.n1,?_,?_,?_,g',f',by simp;lia,λz=>by simp[h0 z]⟩
  ·rw[qu,t1]
  ·rw[qm A.a.symm,e2]
   congr 2
   simp[hy]
  ·rw[qm A.b.symm];exact e3
noncomputable def P_:Nat->Str
 |1=>"7"|2=>"(tail (nil bool))"|_=>"(call (rec f n int int (call f n)) 1)"
noncomputable def A_:Nat->Str
 |1=>"done"|2=>"of empty"|_=>"running"
theorem dW{x z:V}{i:Int}(e:i=(n:Int))(h:([x,y,z]:List V)[n]? =some v):vB [x,y,z] i=some v:=by
 rw[e];exact qY h
theorem qmY(h:n<4)(h0:n≠0):F_ n=(["begin "++P_ n,"go 100"]:List Str)/\G_ n=(["ok",A_ n]:List Str)/\vB [V.str "7",.str "(tail (nil bool))",.str "(call (rec f n int int (call f n)) 1)"] ((n:Int)-1)=some (.str (P_ n))/\vB [V.str "done",.str "of empty",.str "running"] ((n:Int)-1)=some (.str (A_ n))/\("begin ":Str).length+(P_ n).length<=100:=by
 obtain rfl|rfl|rfl:n=1\/n=2\/n=3:=by lia
 ·exact⟨by ext,by ext,dW (n:=0) (by decide) rfl,dW (n:=0) (by decide) rfl,by ext⟩
 ·exact⟨by ext,by ext,dW (n:=1) (by decide) rfl,dW (n:=1) (by decide) rfl,by ext⟩
 ·exact⟨by ext,by ext,dW (n:=2) (by decide) rfl,dW (n:=2) (by decide) rfl,by ext⟩
noncomputable abbrev lN:List Str:=["_law_script","_law_more","_law_desk","_law_lines","_law_due","_law_part","_law_special_here","_law_k","_law_cell_here","_law_some","_law_line","_law_found"]
theorem wu:qO lN ["_law_script"] (qK YA):=by symm
section
variable {base:ll}
inductive qmU(K:Fg)(vs:List V)(H:Hp)(Q:VK):Prop
 |mk (a:jp) (ns:List Int) (qQ:vs=[.ref a]) (qZ:qp K H a (ns.map V.int)) (qV:ns.length<=63) (qG:∀H',Q (.bl true) H')
noncomputable def Jz (K:Fg):Sp:=λvs H Q zh=>qmU K vs H Q
theorem qmO(F:qJ K "law" "law" YA .none f fd)(G:YE mg)(GC:⋯ 1 "_law_cell" ["_law_script","_law_k"] (AU K))(GD:⋯ 1 "_law_drawn" ["_law_cell_here","_law_k"] AI)
  {fA:jp}{dA:ol}(GA:∅ 1 fA dA [] (AB K))(mA:mg "_law_always"=some (.ref fA))(kA:PySem.W.keepIn K (.ref fA)=true)(bA:Binds K dA [] [])
  (GS:⋯ 1 "_law_special" ["_law_desk"] AF)(GP:⋯ 179 "play" ["text"] (AZ K)):∅ 180 f fd ["_law_script"] (Jz K):=by
 refine F.qB wu (by grind) ?_
 omega
 obtain⟨a,ns,rfl,ha,hn,q⟩:=h
 have h1:=hr.mono (show 1<=179 by decide)
 refine⟨_,qc (qC (i:=1) wu.nd rfl oI (zw GD h1 (qx (zw GC h1 (qx (pv 0) (qx qe qk))) (qx qe qk))))
  (qc (qC (i:=2) wu.nd rfl oI (zV fJ (pv 1) qe))
  (qc (qC (i:=3) wu.nd rfl oI (zQ qk))
  (qc (qC (i:=4) wu.nd rfl oI (zQ qk))
  (qc (qP (qM yf (pv 2) qe (qR _)) (qc (qC (i:=5) wu.nd rfl oI (qU jH (zQ (qx qh (qx qh (qx qh qk)))) (zV JB (pv 2) qe)))
    (qc (qC (i:=3) wu.nd rfl oI (zQ (qx (zV qxv qh (pv 5)) (qx qh qk))))
    (qg (qC (i:=4) wu.nd rfl oI (zQ (qx qh (qx (qU jH (zQ (qx qh (qx qh (qx qh qk)))) (zV JB (pv 2) qe)) qk))))))) zq)
  (qc (qC (i:=6) wu.nd rfl oI (zw GS h1 (qx (pv 2) qk)))
  (qc (qP (qM jb (pv 2) qe (qR _)) (qg (QX (u4 hr.u2) (pv 6) qh d9 rfl)) zq)
  (qc (nj i4 rfl (qjR (by rfl) G.range (qx (jZ (qxw rfl) (by rfl) G.max PyProof.Rows.boot_max (qx qe (qx (jZ (Bx rfl) (by rfl) G.min qqQ (qx qe (qx (jZ wQ (by rfl) G.len xV (qx (pv 0) qk)) qk))) qk))) qk)) (xU (i:=7) wu.nd rfl oI)
   (qc (qC (i:=8) wu.nd rfl oI (zw GD h1 (qx (zw GC h1 (qx (pv 0) (qx (pv 7) qk))) (qx (zV oR (pv 7) qe) qk))))
   (qc (qC (i:=9) wu.nd rfl oI (qxt GA h1 (by rfl) mA kA bA .nil z8))
   (qc (qjO (qU jH (pv 9) (zV fJ (pv 8) (jZ wQ (by rfl) G.len xV (qx (pv 9) qk)))) (fh rfl (uD (xU (i:=10) wu.nd rfl oI) (uD (xU (i:=11) wu.nd rfl oI) fm))))
   (qc (qP (eL (JX (pv 11))) (qc (qC (i:=11) wu.nd rfl oI (DB (u4 hr.u2) (pv 6) (pv 10) (λ_ _=>rfl))) (qg (qP (eL (JX (pv 11))) (qg qjJ) zq))) zq)
   (qc (zG (jA jV vp vt vj (pv 3) (qx (pv 10) qk)))
   (qg (qP (qM fX (pv 11) qh (qR _)) (qg (zG (jA jV vp vt vj (pv 4) (qx (pv 11) qk)))) zq))))))))
  (qg (qW (ki Fq (zw GP hr (qx (jA PySem.F.plainAttrs_str PySem.F.slot_str_join PySem.F.type_str_join XX qh (qx (pv 3) qk)) qk)) (pv 4) (qR _))))))))))),?_⟩
 left
 refine⟨_,rfl,a,ns,_,rfl,ha,hn,λc0 H1 g1=>⟨c0,_,rfl,λm hm=>?_⟩⟩
 obtain⟨M,rfl⟩:∃M:Nat,m=(M:Int):=⟨m.toNat,by lia⟩
 right
 refine⟨_,rfl,_,_,rfl,rfl,(by show(0:Int)<_;decide),?_⟩
 right
 rw[show((M:Int)%4)=((M%4:Nat):Int) by lia]
 have lg:M%4<4:=Nat.mod_lt _ (by decide)
 generalize M%4=n at lg⊢
 refine⟨oO,λl1 uV=>?_⟩
 have k1:=qv.put (o:=.lst []) uV
 have e1:=@qu H1 l1 (.lst [])
 right
 generalize upd H1 l1 (.lst [])=H2 at k1 e1⊢
 refine⟨oO,λl2 vo=>?_⟩
 have k2:=qv.put (o:=.lst []) vo
 have e2:=@qu H2 l2 (.lst [])
 have oW:l1≠l2:=λz=>by subst z;rw[e1]at vo;cases vo
 have e1:=k2.same _ _ e1
 right
 generalize upd H2 l2 (.lst [])=H3 at k2 e1 e2⊢
 have sm:kP H1 H3:=k1.same.trans k2.same
 have a1:H1 l1=none:=uV
 have a2:H1 l2=none:=k1.none _ vo
 refine⟨_,rfl,_,_,rfl,rfl,_,rfl,?_⟩
 refine Y4 (λσ H=>∃l1 l2 o5,σ=[some (.ref a),some (.int (M:Nat)),some (.int (n:Nat)),some (.ref l1),some (.ref l2),o5,none,none,none,none,none,none]/\kP H1 H/\H1 l1=none/\H1 l2=none/\l1≠l2/\H l1=some (.lst ((F_ n).map V.str))/\H l2=some (.lst ((G_ n).map V.str))) ?_ (λhb hN=>?_) (λhb hN=>?_)
 rotate_left
 ·have h0:n≠0:=λz=>by
   subst z
   exact absurd hb (by decide)
  obtain⟨f1,f2,f3,f4,f5⟩:=qmY lg h0
  refine⟨uI,λl hl=>⟨_,rfl,_,_,rfl,rfl,l,_,_,_,rfl,rfl,qp.of qu,f3,?_⟩⟩
  right
  have k3:=qv.put (o:=.lst [.str "7",.str "(tail (nil bool))",.str "(call (rec f n int int (call f n)) 1)"]) hl
  show vC _ _ _ _ (upd H3 l (.lst [.str "7",.str "(tail (nil bool))",.str "(call (rec f n int int (call f n)) 1)"]))
  generalize upd H3 l (.lst [.str "7",.str "(tail (nil bool))",.str "(call (rec f n int int (call f n)) 1)"])=H4 at k3⊢
  refine⟨_,rfl,_,_,rfl,rfl,(by rw[xt];lia),jk,λm1 A1=>?_⟩
  right
  have k4:=qv.put (o:=.lst [.str ("begin "++P_ n),.str "go 100"]) A1
  have e4:(upd H4 m1 (.lst [.str ("begin "++P_ n),.str "go 100"])) m1=some (.lst ((F_ n).map V.str)):=by rw[f1];exact qu
  show uF _ _ _ _ (upd H4 m1 (.lst [.str ("begin "++P_ n),.str "go 100"]))
  generalize upd H4 m1 (.lst [.str ("begin "++P_ n),.str "go 100"])=H5 at k4 e4⊢
  refine⟨uI,λl5 Vi=>⟨_,rfl,_,_,rfl,rfl,l5,_,_,_,rfl,rfl,qp.of qu,f4,?_⟩⟩
  have k5:=qv.put (o:=.lst [.str "done",.str "of empty",.str "running"]) Vi
  refine⟨jk,λm2 Jj=>?_⟩
  right
  have k6:qv (upd H5 l5 (.lst [.str "done",.str "of empty",.str "running"])) (upd (upd H5 l5 (.lst [.str "done",.str "of empty",.str "running"])) m2 (.lst [.str "ok",.str (A_ n)])):=qv.put Jj
  have A2:=k5.same _ _ e4
  refine hN _ _ ⟨m1,m2,_,rfl,?_,k1.none _ (k2.none _ (k3.none _ A1)),k1.none _ (k2.none _ (k3.none _ (k4.none _ (k5.none _ Jj)))),λz=>?_,k6.same _ _ A2,?_⟩
  ·exact sm.trans (((k3.trans k4).trans k5).trans k6).same
  ·subst z;rw[A2]at Jj;cases Jj
  ·rw[f2];exact qu
 ·have :n=0:=by
   have :=K' hb
   lia
  subst this
  exact hN _ _ ⟨l1,l2,none,rfl,sm,a1,a2,oW,e1,e2⟩
 clear e1 e2 oW a1 a2 sm k1 k2 uV vo
 rintro σ H4 ⟨l1,l2,o5,rfl,sm,a1,a2,oW,e1,e2⟩
 have a3:∀p,H4 p=none->H1 p=none:=λp hp=>by
  cases z:H1 p with
  |none=>rfl
  |some o=>rw[sm _ _ z]at hp;cases hp
 refine⟨_,rfl,n,rfl,lg,λp H5 g5 hp e3=>?_⟩
 right
 have A:Ap H1 l1 l2 p:=⟨a1,a2,a3 p hp,oW,(λz=>by subst z;rw[e1]at hp;cases hp),(λz=>by subst z;rw[e2]at hp;cases hp)⟩
 have sm:=sm.trans g5.same
 have e1:=g5.same _ _ e1
 have e2:=g5.same _ _ e2
 refine⟨_,rfl,rfl,_,rfl,?_⟩
 refine Y4 (λσ H=>σ=[some (.ref a),some (.int (M:Nat)),some (.int (n:Nat)),some (.ref l1),some (.ref l2),o5,some (.ref p),none,none,none,none,none]/\Iv H1 l1 l2 p n 0 H) ?_ (λhb hN=>?_) (λhb hN=>?_)
 rotate_left
 ·have h3:n=3:=by
   have :=vi hb
   injection this with this
   lia
  refine⟨_,rfl,p,_,rfl,cj.k (k:=Sum.inr "used") e3 (by rw[xt];subst h3;decide),hN _ _ ⟨rfl,?_⟩⟩
  refine⟨[],Jq sm A.n3,?_,?_,?_,λq h=>(by cases h),λq h=>(by cases h),qL _,λ_=>rfl⟩
  ·rw[qm A.b,e1];simp
  ·rw[qm A.c,e2];simp
  ·rw[qu];unfold sK;rw[vb h3]
 ·have h3:n≠3:=λz=>by
   subst z
   exact absurd hb (by decide)
  refine hN _ _ ⟨rfl,[],sm,?_,?_,?_,λq h=>(by cases h),λq h=>(by cases h),qL _,λ_=>rfl⟩
  ·rw[e1];simp
  ·rw[e2];simp
  ·rw[e3];unfold sK;rw[ke h3]
 clear e1 e2 e3 a1 a2 a3 sm oW g5 hp
 rintro σ H6 ⟨rfl,iv⟩
 have mQ:=g1.same.seq ha
 have hS6:qp K H6 a (ns.map V.int):=by obtain⟨l,s,_⟩:=iv;exact s.seq mQ
 obtain⟨J,hJ,A3⟩:∃J:Nat,(if(if(((ns.map V.int).length:Nat):Int)<30 then(((ns.map V.int).length:Nat):Int)else 30)>1 then(if(((ns.map V.int).length:Nat):Int)<30 then(((ns.map V.int).length:Nat):Int)else 30)else 1)=(J:Int)/\(0<J/\J<=30):=by
  refine⟨(if(if(((ns.map V.int).length:Nat):Int)<30 then(((ns.map V.int).length:Nat):Int)else 30)>1 then(if(((ns.map V.int).length:Nat):Int)<30 then(((ns.map V.int).length:Nat):Int)else 30)else 1:Int).toNat,?_⟩
  split<;>split<;>lia
 refine⟨_,rfl,a,_,rfl,.inl hS6,_,_,rfl,_,_,rfl,_,rfl,?_,?_,?_⟩
 ·rw[hJ];lia
 ·rw[hJ];lia
 rw[hJ]
 refine qj1 (λi σ H=>∃o7 o8 o9 o10 o11,σ=[some (.ref a),some (.int (M:Nat)),some (.int (n:Nat)),some (.ref l1),some (.ref l2),o5,some (.ref p),o7,o8,o9,o10,o11]/\Iv H1 l1 l2 p n i H) ⟨_,_,_,_,_,rfl,iv⟩ ?_ ?_
 ·rintro i σ H2 hi ⟨o7,o8,o9,o10,o11,rfl,iv⟩
  have hi:i<30:=by lia
  right
  generalize (0:Int)+(i:Int)=k
  have hS2:qp K H2 a (ns.map V.int):=by obtain⟨l,s,_⟩:=iv;exact s.seq mQ
  refine⟨_,rfl,_,rfl,a,ns,k,rfl,hS2,hn,λc1 H3 g3=>⟨_,rfl,_,_,rfl,rfl,c1,_,rfl,λm hm=>?_⟩⟩
  obtain⟨N,rfl⟩:∃N:Nat,m=(N:Int):=⟨m.toNat,by lia⟩
  have iv:=iv.grow g3
  right
  refine⟨rfl,λt xs H4 g4 ht hd=>?_⟩
  have iv:=iv.grow g4
  right
  have vP:xs.length=40:=by rw[hd.length];rfl
  obtain⟨d,oZ,hd2⟩:=tab_of (Nat.mod_lt N (show 0<40 by decide))
  obtain⟨v,uQ,v7⟩:=hd.get oZ
  refine⟨_,rfl,_,rfl,_,rfl,t,xs,rfl,.inl (qp.of ht),_,_,rfl,rfl,?_,t,xs,_,v,rfl,rfl,qp.of ht,?_,?_⟩
  ·show(0:Int)<(xs.length:Nat);rw[vP];decide
  ·rw[vP];exact qY (j:=N%40) uQ
  obtain⟨x,u,ad,rfl,hq,hx,hu⟩:∃x u ad,v= .ref ad/\qb K H4 ad [.str x,u]/\(10∉x.cps.toList/\x.length<=60)/\((∃y,u= .str y/\Gd (S_ n) x y)\/(u= .qd/\x∈tE)):=by
   rcases hd2 with⟨q,hq,rfl⟩|⟨x,hx,rfl⟩
   ·obtain⟨ad,u,rfl,h1,h2⟩:=at2 v7
    cases xW h2
    exact⟨_,_,ad,rfl,h1,⟨qma q hq,qmX q hq⟩,.inl ⟨_,rfl,qmt q hq⟩⟩
   ·obtain⟨ad,u,rfl,h1,h2⟩:=at2 v7
    rw[qw]at h2
    exact⟨_,_,ad,rfl,h1,qmK x hx,.inr ⟨h2,hx⟩⟩
  refine⟨ad,_,rfl,hq,rfl,_,_,rfl,_,_,rfl,rfl,?_⟩
  right
  refine⟨_,rfl,_,rfl,?_⟩
  refine Y4 (λσ H=>∃y,σ=[some (.ref a),some (.int (M:Nat)),some (.int (n:Nat)),some (.ref l1),some (.ref l2),o5,some (.ref p),some (.int k),some (.int (N:Nat)),some (.ref t),some (.str x),some (.str y)]/\Gd (S_ n) x y/\Iv H1 l1 l2 p n i H) ?_ (λhb hN=>?_) (λhb hN=>?_)
  rotate_left
  ·rcases hu with⟨y,rfl,_⟩|⟨rfl,hx3⟩
   ·exact absurd (vi hb) (by intro z;cases z)
   ·have e3:H4 p=some (.dK (sK n)):=by obtain⟨l,s,e1,e2,e3,_⟩:=iv;exact e3
    have vv:=qmZ lg hx3
    refine⟨_,rfl,_,rfl,p,_,rfl,(by rw[<-vv];exact oq.k (k:=Sum.inr x) e3),?_⟩
    right
    refine⟨_,rfl,_,rfl,?_⟩
    cases hs:sv n x with
    |none=>
     refine jG (by ext) ?_
     refine⟨_,_,_,_,_,rfl,?_⟩
     obtain⟨l,s,e1,e2,e3,g,f,hl,h0⟩:=iv
     exact⟨l,s,e1,e2,e3,g,f,Nat.le_succ_of_le hl,λz=>absurd hs (qmJ (by lia) lg)⟩
    |some y=>exact z0 (xn (by intro z;cases z)) (hN _ _ ⟨y,rfl,qmQ lg hx3 hs,iv⟩)
  ·rcases hu with⟨y,rfl,hy⟩|⟨rfl,hx3⟩
   ·exact hN _ _ ⟨y,rfl,hy,iv⟩
   ·exact absurd hb (by ext)
  clear hu hq
  rintro σ H5 ⟨y,rfl,hy,iv⟩
  obtain⟨xs1,ys1,e1,e2,b1,b2,r1,r2⟩:=iv.row A lg hi hy hx
  refine⟨_,rfl,.inl ⟨rfl,_,qp.of e1⟩,_,rfl,l1,xs1,_,rfl,rfl,e1,by rw[xt];lia,?_⟩
  refine⟨_,rfl,rfl,_,rfl,?_⟩
  by_cases h0:y=""
  ·subst h0
   exact z0 (by ext) ⟨_,_,_,_,_,rfl,r2 rfl⟩
  ·obtain⟨e4,r1⟩:=r1 h0
   refine jG (by rw[xn (λz=>h0 (by injection z))];rfl) ?_
   exact⟨_,rfl,.inl ⟨rfl,_,qp.of e4⟩,_,rfl,l2,ys1,_,rfl,rfl,e4,by rw[xt];lia,_,_,_,_,_,rfl,r1⟩
 ·rintro σ H7 ⟨o7,o8,o9,o10,o11,rfl,iv⟩
  obtain⟨ls,ja,e1,e2,rw1,sm⟩:=iv.rws lg A3.2 A3.1
  have jl:=qmW ls
  refine⟨rfl,_,rfl,_,l1,ls,rfl,rfl,qp.of e1,(by decide),(by lia),_,ja,rfl,(by lia),rw1,λl H8 g8 _ e8=>?_⟩
  refine⟨_,rfl,l,l2,_,_,ja.map Dt.str,ja.map Dt.str,rfl,rfl,qp.of e8,qp.of (g8.same _ _ e2),Y5 ja,Y5 ja,?_,?_⟩
  ·rw[AS];exact u4 hr.u2
  ·rw[X0];exact q _
end
end K27
set_option maxHeartbeats 8000000
namespace K27
open PySem L2 PyProof
noncomputable abbrev t6:List Str:=(["nil","cons","head","tail","empty","pair","first","second","if","let","fn","rec","call","plus","minus","times","over","rest","less","same","and","or","not"]:List Str)
noncomputable abbrev ksO:List Str:=(["put","nil","get","cons","head","tail","empty","pair","first","second","plus","minus","times","over","rest","less","same","not","fn","rec","call","last call","tell","unless","skip","slide"]:List Str)
noncomputable abbrev qmB:List Str:=(["let","fn","rec"]:List Str)
noncomputable abbrev A4:List Str:=(["cons","head","tail","empty","first","second","if","call"]:List Str)
noncomputable abbrev qmD:List Str:=(["num","truth","plus","minus","times","over","rest","less","same","and","or","not"]:List Str)
noncomputable abbrev qmF:List Str:=(["call","if","and","or","let"]:List Str)
noncomputable abbrev qmH:List Str:=(["move","show","made","used"]:List Str)
noncomputable abbrev qmP:List Str:=(["kind","begin","run"]:List Str)
noncomputable abbrev qmR:List Str:=(["room","go"]:List Str)
theorem qmS(K:Fg):PySem.W.kitOne K (.type "tuple") (.type "str")=some false:=by
 unfold PySem.W.kitOne
 rw[ke (by decide)]
 show(if PySem.W.kitMeta "str"=true then(Fu "tuple").map (·.contains (Value.type "str"))else none)=some false
 ext
theorem qmT{S c:jp}(h:c≠S):(kU S).contains (.ref c)=false:=by
 have e1:(Value.ref c==Value.ref S)=false:=kS.mpr λz=>h (qqX z)
 unfold kU
 rw[og,e1]
 rfl
section
variable {base:ll} {fT BT f1 f2 f3:jp} {wk d1 d2 d3:ol} {bt:List zt}
theorem A5(F:Df K mg "read_kind" sO ["pieces","depth"] f1 d1)(FB:Df K mg "read_kind_brackets" Zr ["pieces","depth"] f2 d2)(T:Tk P w K mg base C fI fT wk)(G:sM K mg)(GC:⋯ 3 "close_brackets" ["pieces"] (sG C)):∀n,⋯ (2*n+3) "read_kind" ["pieces","depth"] (bJ K C n)
 |0=>F.kn (qog F.fn)
 |n+1=>F.kn (qom F.fn T G (FB.kn (qoc (by lia) FB.fn T G GC (A5 F FB T G GC n))))
theorem A6(F:Df K mg "read_part" sH ["pieces","depth"] f1 d1)(FB:Df K mg "read_part_brackets" ZX ["pieces","depth"] f2 d2)(FS:Df K mg "read_slot" ZJ ["pieces","slot","depth"] f3 d3)(T:Tk P w K mg base C fI fT wk)(G:Ze K mg)(GR:cS K mg)(U:EB P w K mg base BT bt)(zT:mg "tuple"=none)(GC:⋯ 3 "close_brackets" ["pieces"] (sG C))(GN:⋯ 3 "read_name" ["pieces"] (VR C))(GK:⋯ 19 "read_kind" ["pieces","depth"] (bJ K C 8))
  (GU:⋯ 1 "is_number" ["run"] VD)(GI:⋯ 2 "is_name" ["run"] ZZ):∀n,⋯ (3*n+24) "read_part" ["pieces","depth"] (sR K C BT n)
 |0=>F.kn (qo3 F.fn)
 |n+1=>F.kn (qo4 F.fn T GR U (FB.kn (qoS (by lia) FB.fn T G GR zT GC (FS.kn (qoF (by lia) FS.fn GN GK (A6 F FB FS T G GR U zT GC GN GK GU GI n))))) GU GI)
end
theorem us0(h:(us++([]:List zt)).length=0):us=[]:=by
 rw[lr]at h
 exact match us,h with |[],_=>rfl
open PySem.W
theorem us1(h:(us++([]:List zt)).length=1):∃a,us=[a]:=by
 rw[lr]at h
 exact match us,h with |[a],_=>⟨a,rfl⟩
theorem us2(h:(us++([]:List zt)).length=2):∃a b,us=[a,b]:=by
 rw[lr]at h
 exact match us,h with |[a,b],_=>⟨a,b,rfl⟩
theorem us3(h:(us++([]:List zt)).length=3):∃a b c,us=[a,b,c]:=by
 rw[lr]at h
 exact match us,h with |[a,b,c],_=>⟨a,b,c,rfl⟩
theorem us4(h:(us++([]:List zt)).length=4):∃a b c d,us=[a,b,c,d]:=by
 rw[lr]at h
 exact match us,h with |[a,b,c,d],_=>⟨a,b,c,d,rfl⟩
noncomputable def Nf (K:Frag) (x:Str) (st:cc) (f:jp) (fd:ol):Prop:=QP K xi x=some (some (.ref f))/\∃o cd,K.lookup f=some o/\nU o x x st .none cd fd/\codeIn K cd x=true/\qz3 K (.ref f)=true
noncomputable def Mf (K:Frag) (C:jp) (x q:Str) (st:cc) (f:jp) (fd:ol):Prop:=pb K (.ref C) x=some (some (.ref f))/\isFn K (.ref f)=true/\∃o cd,K.lookup f=some o/\nU o x q st .none cd fd/\codeIn K cd q=true/\qz3 K (.ref f)=true
structure Me(K:Frag)(C:jp)(x q:Str)(st:cc)(ps:List Str)(f:jp)(fd:ol):Prop where
 fn:qJ K x q st .none f fd
 mt:Meth K C x f
 bi:Binds K fd ps []
theorem Nf.df{K:Frag}(n:Nf K x st f fd)(X:K.In h)(G:h.Ns xi mg)(ps:List Str)(b:qJ K x x st .none f fd->Binds K fd ps []):Df K mg x st ps f fd:=by
 obtain⟨a,o,cd,h1,h2,h3,h4⟩:=n
 exact⟨h2.d h1 h3 h4,be X G a,b (h2.d h1 h3 h4)⟩
theorem Mf.me{K:Frag}{q:Str}(n:Mf K C x q st f fd)(ps:List Str)(b:qJ K x q st .none f fd->Binds K fd ps []):Me K C x q st ps f fd:=by
 obtain⟨a,i,o,cd,h1,h2,h3,h4⟩:=n
 exact⟨h2.d h1 h3 h4,⟨a,i,h4⟩,b (h2.d h1 h3 h4)⟩
theorem qmE(K:Frag):qzq K (.type "int") (.type "tuple")=some false:=by
 unfold qzq
 rw[ke (by decide)]
 show(if kitMeta "tuple"=true then(Fu "int").map (·.contains (Value.type "tuple"))else none)=some false
 ext
theorem qm0(K:Frag):qzq K (.type "bool") (.type "tuple")=some false:=by
 unfold qzq
 rw[ke (by decide)]
 show(if kitMeta "tuple"=true then(Fu "bool").map (·.contains (Value.type "tuple"))else none)=some false
 ext
theorem qm1(K:Frag):qzq K (.type "NoneType") (.type "tuple")=some false:=by
 unfold qzq
 rw[ke (by decide)]
 show(if kitMeta "tuple"=true then(Fu "NoneType").map (·.contains (Value.type "tuple"))else none)=some false
 ext
theorem qm2(K:Frag):qzq K (.type "int") (.type "bool")=some false:=by
 unfold qzq
 rw[ke (by decide)]
 show(if kitMeta "bool"=true then(Fu "int").map (·.contains (Value.type "bool"))else none)=some false
 ext
theorem qm3(K:Frag):qzq K (.type "bool") (.type "bool")=some true:=by
 unfold qzq
 rw[vb (by decide)]
theorem qm4:∀x∈FX.map (·.1),vV x A4=none:=by ext
theorem all_mk{l:OpenLaw}{K:Frag}{fa MA HP PC S fN tN fB tB BT TL ND NM BR fVb fWn fLu fNb fOn fKo fRq fRw Y6 Y7 Y8 Y9 Uq Uz Uj fPk fFt fCm fOp A7 fFc fVc fCo fNo fRf fIr fSt fOr Jk Ux Uk fIs oU Jv Jw fTh fRm Uv Uw fM2 t7 Uy Uu fEn Uo fCu fVt fPi fTp fBa A8 fHf fHu fHm fHs fHb A9 fRu fSh fKt fIw fIn fIu fPa fPe fRd fRp fPb fRs fRn fRx fKb fCb Ui Uc Ez fSd Ej Ex fMu Ek Ew fMo Ey Eo Ei fRc fDw fR1 fR2 fRa fPy fCe fDr fAl fSp fLw aq az aj ak av ay au ao ai af ah aa aQ aZ aJ aX aK aV aW aY aU aO aI Ul pO6 qn9 qbq qbz qbj TO Jy qbx qbk qbw qby Ju Ec El Eg qbu qbo Em qbi qbc qbl qbg qbm qbn Jo Ug qbb Um qbd qbf Ji Jc Jl TE Jg Jm Ub Ud:jp}{oN Ed oB Ef Eh Ep Es Et Ea EQ EZ EJ EX EK EV EW EY EO EI EC EL EG ED EF EH ER ES ET EA EE E1 E2 E3 E4 E5 OO E6 E7 E8 E9 qqq qqz qqj OPC OXB OXT OXC oTE OKZ OTR OBK OBP:Obj}{cdN dN cdB dB:zt}{ua V1 qbh qbp qbr qbs qbt qba qbe qbQ qbZ qbJ qbX qbK qbV qbW qbY qbU qbO qbI qbC qbL qbG qbM qbN qbB qbD qbF qbH qbP Uh qqm qqn qbR Up qqb qqd qbS qbT qqf qqh qbA Ur qqp qqr qbE qqs qb0 qb1 qb2 qb3 qb4 qb5 qb6 qb7 qb8 qb9 qdq qdz qdj qdx qdk qdv qdw qdy qdu qdo qdi qdc qdl qdg qdm qdn qdb qdd qdf qqt qdh qdp qdr qds qdt qda qde qdQ qdZ qdJ qdX qdK qdV qdW qdY qdU qdO qdI qdC qdL qdG qqa:ol}{nN nB:Nat}{tk0 tk1 tk2 tk3 tk4 tk5 tk6 tk7 tk8 tk9 qdA qdE qd0 qd1 qd2 qd3 qd4 qd5:Tok}(X:K.In h)(G:h.Ns xi mg)(hfa:mg "law"=some (.ref fa))(Us:QP K xi "Machine"=some (some (.ref MA)))(Ut:plainGet K MA ci=true)(Ua:hasDictIn K MA=true)(Ue:plainOver K MA=true)(UQ:pb K (.ref MA) "__setattr__"=some (some (.builtin "object.__setattr__")))(UZ:makesIn K MA=true)(UJ:qz3 K (.ref MA)=true)(UX:pb K (.ref MA) "code"=some none)(UK:pb K (.ref MA) "heap"=some none)(UW:pb K (.ref MA) "stack"=some none)(UY:pb K (.ref MA) "base"=some none)(UU:pb K (.ref MA) "place"=some none)(UO:pb K (.ref MA) "pending"=some none)(UI:pb K (.ref MA) "standing"=some none)(UC:QP K xi "Heap"=some (some (.ref HP)))(UL:plainGet K HP ci=true)(UG:hasDictIn K HP=true)(UM:plainOver K HP=true)(UN:pb K (.ref HP) "__setattr__"=some (some (.builtin "object.__setattr__")))(UB:makesIn K HP=true)(UD:qz3 K (.ref HP)=true)(UH:pb K (.ref HP) "room"=some none)(UP:pb K (.ref HP) "things"=some none)(UR:pb K (.ref HP) "made_so_far"=some none)(US:QP K xi "Pieces"=some (some (.ref PC)))(UT:plainGet K PC ci=true)(UA:hasDictIn K PC=true)(UE:plainOver K PC=true)(U0:pb K (.ref PC) "__setattr__"=some (some (.builtin "object.__setattr__")))(U3:makesIn K PC=true)(U4:qz3 K (.ref PC)=true)(U5:pb K (.ref PC) "text"=some none)(U6:pb K (.ref PC) "place"=some none)(U7:pb K (.ref PC) "behind"=some none)(U8:QP K xi "Desk"=some (some (.ref CD)))(U9:plainGet K CD ci=true)(U':hasDictIn K CD=true)(Oq:plainOver K CD=true)(Oz:pb K (.ref CD) "__setattr__"=some (some (.builtin "object.__setattr__")))(Oj:makesIn K CD=true)(Ox:qz3 K (.ref CD)=true)(Ov:pb K (.ref CD) "room"=some none)(Ow:pb K (.ref CD) "machine"=some none)(aS:QP K xi "SpeakError"=some (some (.ref S)))(Ou:specialIn K (.ref S) "__getattribute__"=some (some (.builtin "type.__getattribute__")))(Oo:readsIn K S (.type "type")=true)(Oi:findCls K (.ref S) (.type "type") "__init__"=some (.val (.builtin "ValueError.__init__")))(Oc:QP K xi "BadText"=some (some (.ref BT)))(Ol:iV K BT Eh)(Og:cY Eh BT (kU S))(Om:QP K xi "NoName"=some (some (.ref NN)))(Ob:iV K NN Ep)(Of:cY Ep NN (kU S))(Oh:QP K xi "Unfit"=some (some (.ref UF)))(Ot:iV K UF Es)(Oa:cY Es UF (kU S))(Oe:pb K (.ref UF) "__init__"=some (some (.builtin "ValueError.__init__")))(OQ:QP K xi "TooLong"=some (some (.ref TL)))(OZ:iV K TL Et)(OJ:cY Et TL (kU S))(OX:QP K xi "NotDone"=some (some (.ref ND)))(OV:iV K ND Ea)(OW:cY Ea ND (kU S))(tF:pb K (.ref ND) "__init__"=some (some (.builtin "ValueError.__init__")))(OY:QP K xi "NoMachine"=some (some (.ref NM)))(OU:iV K NM EQ)(OI:cY EQ NM (kU S))(OC:pb K (.ref NM) "__init__"=some (some (.builtin "ValueError.__init__")))(OL:QP K xi "BadRow"=some (some (.ref BR)))(OG:iV K BR EZ)(OM:cY EZ BR (kU S))(ON:pb K (.ref BR) "__init__"=some (some (.builtin "ValueError.__init__")))(nd:([BR,BT,NN,UF,NM,ND]:List jp).Nodup)(ns:∀D∈([BR,BT,NN,UF,NM,ND]:List jp),D≠S)(Jb:pb K (.ref NN) "name"=some none)(aN:pb K (.ref NN) "__init__"=some (some (.ref fN)))(lN:K.lookup fN=some oN)(OB:nU oN "__init__" "NoName.__init__" Kh (.ref tN) cdN ua)(cN:codeIn K cdN "NoName.__init__"=true)(kN:qz3 K (.ref fN)=true)(ltN:K.lookup tN=some Ed)(stN:Ed.data= .seq #[dN] nN)(OD:typeIn K (.ref fN)=some (.type "function"))(Jd:pb K (.ref BT) "at"=some none)(aB:pb K (.ref BT) "__init__"=some (some (.ref fB)))(lB:K.lookup fB=some oB)(OF:nU oB "__init__" "BadText.__init__" Va (.ref tB) cdB V1)(cB:codeIn K cdB "BadText.__init__"=true)(kB:qz3 K (.ref fB)=true)(ltB:K.lookup tB=some Ef)(OH:Ef.data= .seq #[dB] nB)(tyB:typeIn K (.ref fB)=some (.type "function"))(OP:Nf K "values_behind" Kr fVb qbh)(OR:Nf K "with_name" Ks fWn qbp)(OS:Nf K "looked_up" Ka fLu qbr)(OT:Nf K "names_bound" Ke fNb qbs)(OA:Nf K "outside_names" sd fOn qbt)(OE:Nf K "kind_of" Vd fKo qba)(O0:Nf K "require" KQ fRq qbe)(O1:Nf K "require_word" KZ fRw qbQ)(O2:Nf K "cons_kind" FT Y6 qbZ)(O3:Nf K "head_kind" FA Y7 qbJ)(O4:Nf K "tail_kind" F0 Y8 qbX)(O5:Nf K "call_kind" F1 Y9 qbK)(O6:Nf K "let_kind" Q2 Uq qbV)(O7:Nf K "fn_kind" Q3 Uz qbW)(O8:Nf K "rec_kind" Q4 Uj qbY)(O9:Nf K "pair_kind" KY fPk qbU)(Iq:Nf K "fitted" rT fFt qbO)(Iz:Nf K "compiled" Vk fCm qbI)(Ij:Nf K "operands_code" Zx fOp qbC)(Ik:Nf K "call_code" Zk A7 qbL)(Iw:Nf K "function_code" cM fFc qbG)(Iu:Nf K "value_code" Vv fVc qbM)(Io:Nf K "code_of" gK fCo qbN)(Ii:Nf K "is_by_nought" V0 fNo qbB)(Ic:Nf K "reference_to" V2 fRf qbD)(Il:Nf K "is_reference" V3 fIr qbF)(Ig:Nf K "do_step" V4 fSt qbH)(hOr:Nf K "do_order" V5 fOr qbP)(Im:Nf K "put" V6 Jk Uh)(Ih:Nf K "put_nil" V7 Ux qqm)(Ip:Nf K "put_slot" V8 Uk qqn)(Ir:Nf K "in_slot" V9 fIs qbR)(Ia:Nf K "reckon_sum" Wq oU Up)(gi:Nf K "take_first" Wz Jv qqb)(di:Nf K "take_second" Wj Jw qqd)(Ie:Nf K "take_held" Wx fTh qbS)(IQ:Nf K "has_room" Wk fRm qbT)(IZ:Nf K "make_cell" Wv Uv qqf)(IJ:Nf K "make_pair" Ww Uw qqh)(tZ:Nf K "make_of_two" Wy fM2 qbA)(IX:Nf K "make_function" Wu t7 Ur)(IK:Nf K "call" Wo Uy qqp)(IV:Nf K "last_call" Wi Uu qqr)(IW:Nf K "enter" Wc fEn qbE)(wF:Nf K "tell" Wl Uo qqs)(IY:Nf K "cut_stack" Wm fCu qb0)(IU:Nf K "value_text" Wn fVt qb1)(II:Nf K "pieces_of" Wb fPi qb2)(IC:Nf K "tail_pieces" Wd fTp qb3)(IL:Nf K "bare_text" Wh fBa qb4)(aC:Mf K HP "__init__" "Heap.__init__" Wr A8 qb5)(IG:Mf K HP "is_full" "Heap.is_full" Ws fHf qb6)(IM:Mf K HP "used" "Heap.used" Wt fHu qb7)(IB:Mf K HP "make" "Heap.make" Wa fHm qb8)(ID:Mf K HP "sort_of" "Heap.sort_of" We fHs qb9)(IF:Mf K HP "held_by" "Heap.held_by" WQ fHb qdq)(aL:Mf K MA "__init__" "Machine.__init__" WZ A9 qdz)(IP:Mf K MA "run" "Machine.run" WJ fRu qdj)(IS:Mf K MA "shown" "Machine.shown" WK fSh qdx)(IT:Nf K "kind_text" sN fKt qdk)(IA:Nf K "is_word" VN fIw qdv)(IE:Nf K "is_name" VB fIn qdw)(Cq:Nf K "is_number" sD fIu qdy)(Cz:Nf K "piece_start" Zn fPa qdu)(Cj:Nf K "piece_end" Zb fPe qdo)(Ck:Nf K "read" VH fRd qdi)(Cv:Nf K "read_part" sH fRp qdc)(Cw:Nf K "read_part_brackets" ZX fPb qdl)(Cy:Nf K "read_slot" ZJ fRs qdg)(Cu:Nf K "read_name" VF fRn qdm)(Co:Nf K "read_kind" sO fRx qdn)(ng:Nf K "read_kind_brackets" Zr fKb qdb)(Ci:Nf K "close_brackets" VJ fCb qdd)(aG:Mf K PC "__init__" "Pieces.__init__" Vs Ui qdf)(Cc:Mf K PC "take" "Pieces.take" Vt Uc qqt)(aM:Mf K CD "__init__" "Desk.__init__" Ym Ez qdh)(Cg:Nf K "standing_machine" Yn fSd qdp)(Cn:Nf K "go_on" Yb Ej qdr)(Cf:Nf K "show" Yh Ex qds)(Cp:Mf K MA "used" "Machine.used" WX fMu qdt)(Cr:Nf K "tell_used" Yp Ek qda)(Cs:Nf K "set_room" Yd Ew qde)(Ct:Nf K "machine_of" Ys fMo qdQ)(Ca:Nf K "tell_kind" Yt Ey qdZ)(Ce:Nf K "begin" Ye Eo qdJ)(CQ:Nf K "run_alone" YQ Ei qdX)(CZ:Nf K "read_count" YX fRc qdK)(CJ:Nf K "done_row" YK fDw qdV)(CK:Nf K "refused" YC fR1 qdW)(CV:Nf K "refused_with" YL fR2 qdY)(CW:Nf K "row_answer" YG fRa qdU)(CY:Nf K "play" YM fPy qdO)(CU:Nf K "_law_cell" YH fCe qdI)(CO:Nf K "_law_drawn" YR fDr qdC)(CI:Nf K "_law_always" YS fAl qdL)(CC:Nf K "_law_special" YT fSp qdG)(aD:Nf K "law" YA fLw qqa)(CL:QP K xi "LEAST_NUMBER"=some (some (.int (-9223372036854775808) tk0)))(CG:QP K xi "ROUND"=some (some (.int 18446744073709551616 tk1)))(CM:QP K xi "LEAST_ROOM"=some (some (.int 8 tk2)))(CN:QP K xi "GREATEST_ROOM"=some (some (.int 400 tk3)))(CB:QP K xi "LONGEST_SHOWN"=some (some (.int 1000 tk4)))(CF:QP K xi "MOST_PENDING"=some (some (.int 40 tk5)))(CP:QP K xi "GREATEST_NUMBER"=some (some (.int 9223372036854775807 tk6)))(CS:QP K xi "MOST_FIGURES"=some (some (.int 19 tk7)))(CT:QP K xi "LONGEST_NAME"=some (some (.int 8 tk8)))(CA:QP K xi "LONGEST_TEXT"=some (some (.int 2000 tk9)))(C1:QP K xi "DEEPEST_PART"=some (some (.int 30 qdA)))(C2:QP K xi "DEEPEST_KIND"=some (some (.int 8 qdE)))(C3:QP K xi "LETTERS"=some (some (.str yy qd0)))(C4:QP K xi "FIGURES"=some (some (.str j8 qd1)))(C5:QP K xi "WHITE_SIGNS"=some (some (.str bQ qd2)))(C6:QP K xi "RUN_SIGNS"=some (some (.str runs qd3)))(C7:QP K xi "MOST_COUNT_FIGURES"=some (some (.int 4 qd4)))(C8:QP K xi "STEPS_OF_RUN"=some (some (.int 20000 qd5)))(gE:QP K xi "EMPTY"=some (some .none))(C9:QP K xi "PART_SLOTS"=some (some (.ref Ul)))(Lq:K.lookup Ul=some EJ)(Lz:yz EJ (t6.zip ([.ref aq,.ref az,.ref aj,.ref ak,.ref av,.ref ay,.ref au,.ref ao,.ref ai,.ref af,.ref ah,.ref aa,.ref aQ,.ref aZ,.ref aJ,.ref aX,.ref aK,.ref aV,.ref aW,.ref aY,.ref aU,.ref aO,.ref aI]:List V)))(Lj:(Ul==ul)=false)(Lx:K.lookup aq=some EX)(Lv:jX EX ((["kind"]:List Str).map V.str))(Lw:K.lookup az=some EK)(Ly:jX EK ((["part","part"]:List Str).map V.str))(Lu:K.lookup aj=some EV)(Lo:jX EV ((["part"]:List Str).map V.str))(Li:K.lookup ak=some EW)(Ll:jX EW ((["part"]:List Str).map V.str))(Lg:K.lookup av=some EY)(Lm:jX EY ((["part"]:List Str).map V.str))(Ln:K.lookup ay=some EO)(Lb:jX EO ((["part","part"]:List Str).map V.str))(Ld:K.lookup au=some EI)(Lf:jX EI ((["part"]:List Str).map V.str))(Lh:K.lookup ao=some EC)(Lp:jX EC ((["part"]:List Str).map V.str))(Lr:K.lookup ai=some EL)(Ls:jX EL ((["part","part","part"]:List Str).map V.str))(La:K.lookup af=some EG)(Le:jX EG ((["name","part","part"]:List Str).map V.str))(LQ:K.lookup ah=some ED)(LZ:jX ED ((["name","kind","part"]:List Str).map V.str))(LJ:K.lookup aa=some EF)(LX:jX EF ((["name","name","kind","kind","part"]:List Str).map V.str))(LK:K.lookup aQ=some EH)(LV:jX EH ((["part","part"]:List Str).map V.str))(LW:K.lookup aZ=some ER)(LY:jX ER ((["part","part"]:List Str).map V.str))(LU:K.lookup aJ=some ES)(LO:jX ES ((["part","part"]:List Str).map V.str))(LI:K.lookup aX=some ET)(LC:jX ET ((["part","part"]:List Str).map V.str))(LL:K.lookup aK=some EA)(LG:jX EA ((["part","part"]:List Str).map V.str))(LM:K.lookup aV=some EE)(LN:jX EE ((["part","part"]:List Str).map V.str))(LB:K.lookup aW=some E1)(LD:jX E1 ((["part","part"]:List Str).map V.str))(LF:K.lookup aY=some E2)(LH:jX E2 ((["part","part"]:List Str).map V.str))(LP:K.lookup aU=some E3)(LR:jX E3 ((["part","part"]:List Str).map V.str))(LS:K.lookup aO=some E4)(LA:jX E4 ((["part","part"]:List Str).map V.str))(L0:K.lookup aI=some E5)(Gq:jX E5 ((["part"]:List Str).map V.str))(Gz:QP K xi "ORDERS"=some (some (.ref TO)))(Gj:K.lookup TO=some OO)(Gx:yz OO (ksO.zip ([.ref Jk,.ref Ux,.ref Uk,.ref Uv,.ref Jv,.ref Jw,.ref pO6,.ref Uw,.ref Jv,.ref Jw,.ref oU,.ref oU,.ref oU,.ref oU,.ref oU,.ref oU,.ref oU,.ref qn9,.ref t7,.ref t7,.ref Uy,.ref Uu,.ref Uo,.ref qbq,.ref qbz,.ref qbj]:List V)))(Gy:(TO==ul)=false)(Gu:QP K xi "BINDING_RULES"=some (some (.ref Jy)))(Gg:K.lookup Jy=some E6)(Gn:yz E6 (qmB.zip ([.ref Uq,.ref Uz,.ref Uj]:List V)))(Ga:(Jy==ul)=false)(Ge:QP K xi "KIND_RULES"=some (some (.ref Ju)))(GQ:K.lookup Ju=some E7)(GZ:yz E7 (A4.zip ([.ref Y6,.ref Y7,.ref Y8,.ref qbx,.ref qbk,.ref qbw,.ref qby,.ref Y9]:List V)))(GJ:(Ju==ul)=false)(GY:QP K xi "FIXED_KINDS"=some (some (.ref Jo)))(GG:K.lookup Jo=some E8)(G0:yz E8 (qmD.zip ([.ref Ec,.ref El,.ref Eg,.ref qbu,.ref qbo,.ref Em,.ref qbi,.ref qbc,.ref qbl,.ref qbg,.ref qbm,.ref qbn]:List V)))(G3:(Jo==ul)=false)(G4:K.lookup Ec=some E9)(G5:jX E9 ((["int"]:List Str).map V.str))(G6:K.lookup El=some qqq)(G7:jX qqq ((["bool"]:List Str).map V.str))(G8:K.lookup Eg=some qqz)(G9:jX qqz ((["int","int","int"]:List Str).map V.str))(Mq:K.lookup Em=some qqj)(Mz:jX qqj ((["int","int","int"]:List Str).map V.str))(Mj:QP K xi "PLACED_CODES"=some (some (.ref Um)))(Mx:K.lookup Um=some OPC)(Mv:yz OPC (qmF.zip ([.ref A7,.ref Ug,.ref Ug,.ref Ug,.ref qbb]:List V)))(Mw:(Um==ul)=false)(My:QP K xi "BARE_ROWS"=some (some (.ref Ji)))(Mu:K.lookup Ji=some OXB)(Mi:yz OXB (qmH.zip ([.ref qbd,.ref Ex,.ref qbf,.ref Ek]:List V)))(Ml:(Ji==ul)=false)(Mg:QP K xi "TEXT_ROWS"=some (some (.ref Jc)))(Mm:K.lookup Jc=some OXT)(Mn:yz OXT (qmP.zip ([.ref Ey,.ref Eo,.ref Ei]:List V)))(Mb:(Jc==ul)=false)(Mh:QP K xi "COUNT_ROWS"=some (some (.ref Jl)))(Mp:K.lookup Jl=some OXC)(Mr:yz OXC (qmR.zip ([.ref Ew,.ref Ej]:List V)))(Mt:(Jl==ul)=false)(Ma:QP K xi "KIND_SIZES"=some (some (.ref Jg)))(MQ:K.lookup Jg=some OKZ)(MZ:yz OKZ sC)(MJ:(Jg==ul)=false)(MX:QP K xi "TRUTHS"=some (some (.ref Jm)))(MK:K.lookup Jm=some OTR)(MV:yz OTR xO)(MW:(Jm==ul)=false)(MY:QP K xi "BARE_KINDS"=some (some (.ref Ub)))(MU:K.lookup Ub=some OBK)(MO:jX OBK [.str "int",.str "bool"])(MI:QP K xi "BARE_PARTS"=some (some (.ref Ud)))(MC:K.lookup Ud=some OBP)(ML:jX OBP [.str "num",.str "truth",.str "name"])(MG:QP K xi "ENDING_ORDERS"=some (some (.ref TE)))(MM:K.lookup TE=some oTE)(MN:jX oTE [.str "tell",.str "skip",.str "slide"])(MB:QP K xi "zip"=some none)(MD:QP K xi "dict"=some none)(MF:QP K xi "list"=some none)(MH:QP K xi "enumerate"=some none)(MP:QP K xi "len"=some none)(MR:QP K xi "isinstance"=some none)(MT:QP K xi "tuple"=some none)(ME:QP K xi "bool"=some none)(M0:QP K xi "str"=some none)(M3:QP K xi "reversed"=some none)(M4:QP K xi "int"=some none)(M5:QP K xi "max"=some none)(M6:QP K xi "min"=some none)(M7:QP K xi "range"=some none)(M8:QP K xi "all"=some none):
  ∃fd:ol,(∀(s:zr)(v:zt),qqC s fd ⟨[v],[]⟩ [("_law_script",v)])/\∀base:ll,K.In base->base.Ns xi mg->xg l.prog w K mg base (zJ l.prog w) 180 fa fd ["_law_script"] (Jz K):=by
 have e:=hfa.symm.trans (be X G aD.1)
 cases e
 have aF:=OP.df X G ["part","sort"] (by funext)
 have DWn:=OR.df X G ["scope","name","bound"] (by walk_at "b3")
 have DLu:=OS.df X G ["scope","name"] (by funext)
 have DNb:=OT.df X G ["part"] (by and_intros)
 have DOn:=OA.df X G ["part"] (by and_intros)
 have DKo:=OE.df X G ["part"] (by and_intros)
 have DRq:=O0.df X G ["holds"] (by and_intros)
 have DRw:=O1.df X G ["kind","word"] (by funext)
 have DCn:=O2.df X G ["kinds"] (by and_intros)
 have DHk:=O3.df X G ["kinds"] (by and_intros)
 have DTk:=O4.df X G ["kinds"] (by and_intros)
 have DCk:=O5.df X G ["kinds"] (by and_intros)
 have DLk:=O6.df X G ["part","scope","pairs"] (by walk_at "b3")
 have DNk:=O7.df X G ["part","scope","pairs"] (by walk_at "b3")
 have DXk:=O8.df X G ["part","scope","pairs"] (by walk_at "b3")
 have DPk:=O9.df X G ["kinds","pairs"] (by funext)
 have DFt:=Iq.df X G ["part","scope","pairs"] (by walk_at "b3")
 have DCm:=Iz.df X G ["part"] (by and_intros)
 have DOp:=Ij.df X G ["part","slots","height"] (by walk_at "b3")
 have DCc:=Ik.df X G ["part","slots","height","last"] (by walk_at "b4")
 have DFc:=Iw.df X G ["part","slots"] (by funext)
 have DVc:=Iu.df X G ["part","slots"] (by funext)
 have DCo:=Io.df X G ["part","slots","height","last"] (by walk_at "b4")
 have DNo:=Ii.df X G ["word","other"] (by funext)
 have DRf:=Ic.df X G ["place"] (by and_intros)
 have DIr:=Il.df X G ["value"] (by and_intros)
 have DSt:=Ig.df X G ["machine"] (by and_intros)
 have DOr:=hOr.df X G ["machine"] (by and_intros)
 have aH:=Im.df X G ["machine","order"] (by funext)
 have M9:=Ih.df X G ["machine","order"] (by funext)
 have Nq:=Ip.df X G ["machine","order"] (by funext)
 have DIs:=Ir.df X G ["machine","slot"] (by funext)
 have aP:=Ia.df X G ["machine","order"] (by funext)
 have Nz:=gi.df X G ["machine","order"] (by funext)
 have Nj:=di.df X G ["machine","order"] (by funext)
 have DTh:=Ie.df X G ["machine","which"] (by funext)
 have DRm:=IQ.df X G ["machine"] (by and_intros)
 have Nk:=IZ.df X G ["machine","order"] (by funext)
 have Nv:=IJ.df X G ["machine","order"] (by funext)
 have DM2:=tZ.df X G ["machine","sort"] (by funext)
 have aR:=IX.df X G ["machine","order"] (by funext)
 have Ny:=IK.df X G ["machine","order"] (by funext)
 have Nu:=IV.df X G ["machine","order"] (by funext)
 have DEn:=IW.df X G ["machine","function","handed"] (by walk_at "b3")
 have Ni:=wF.df X G ["machine","order"] (by funext)
 have DCu:=IY.df X G ["machine","height"] (by funext)
 have DVt:=IU.df X G ["heap","value"] (by funext)
 have DPi:=II.df X G ["heap","piece"] (by funext)
 have DTp:=IC.df X G ["heap","tail"] (by funext)
 have DBa:=IL.df X G ["value"] (by and_intros)
 have EHi:=aC.me ["self","room"] (by funext)
 have aT:=IG.me ["self"] (by and_intros)
 have Nc:=IM.me ["self"] (by and_intros)
 have aA:=IB.me ["self","sort","held"] (by walk_at "b3")
 have Nl:=ID.me ["self","reference"] (by funext)
 have mX:=IF.me ["self","reference"] (by funext)
 have EMa:=aL.me ["self","code","room"] (by walk_at "b3")
 have aE:=IP.me ["self","steps"] (by funext)
 have a8:=IS.me ["self"] (by and_intros)
 have DKt:=IT.df X G ["kind"] (by and_intros)
 have DIw:=IA.df X G ["run"] (by and_intros)
 have DIn:=IE.df X G ["run"] (by and_intros)
 have DIu:=Cq.df X G ["run"] (by and_intros)
 have Ng:=Cz.df X G ["text","place"] (by funext)
 have Nm:=Cj.df X G ["text","start"] (by funext)
 have DRd:=Ck.df X G ["text"] (by and_intros)
 have DRp:=Cv.df X G ["pieces","depth"] (by funext)
 have DPb:=Cw.df X G ["pieces","depth"] (by funext)
 have DRs:=Cy.df X G ["pieces","slot","depth"] (by walk_at "b3")
 have DRn:=Cu.df X G ["pieces"] (by and_intros)
 have DRx:=Co.df X G ["pieces","depth"] (by funext)
 have DKb:=ng.df X G ["pieces","depth"] (by funext)
 have DCb:=Ci.df X G ["pieces"] (by and_intros)
 have EPx:=aG.me ["self","text"] (by funext)
 have Nn:=Cc.me ["self"] (by and_intros)
 have EDi:=aM.me ["self"] (by and_intros)
 have DSd:=Cg.df X G ["desk"] (by and_intros)
 have DGo:=Cn.df X G ["desk","count"] (by funext)
 have DSw:=Cf.df X G ["desk"] (by and_intros)
 have Nd:=Cp.me ["self"] (by and_intros)
 have DUs:=Cr.df X G ["desk"] (by and_intros)
 have DSr:=Cs.df X G ["desk","count"] (by funext)
 have DMo:=Ct.df X G ["desk","text"] (by funext)
 have DTl:=Ca.df X G ["desk","text"] (by funext)
 have DBg:=Ce.df X G ["desk","text"] (by funext)
 have DRl:=CQ.df X G ["desk","text"] (by funext)
 have DRc:=CZ.df X G ["told"] (by and_intros)
 have DDw:=CJ.df X G ["desk","row"] (by funext)
 have Jf:=CK.df X G ["name"] (by and_intros)
 have Jh:=CV.df X G ["name","field"] (by funext)
 have DRa:=CW.df X G ["desk","row"] (by funext)
 have DPy:=CY.df X G ["text"] (by and_intros)
 have DCe:=CU.df X G ["_law_script","_law_k"] (by funext)
 have DDr:=CO.df X G ["_law_cell_here","_law_k"] (by funext)
 have Jr:=CI.df X G [] (λF=>F.binds λ_ _ _ _ _ _ s us _ hl=>by cases us0 hl;exact .of_eq rfl)
 have DSp:=CC.df X G ["_law_desk"] (by and_intros)
 have DLw:=aD.df X G ["_law_script"] (by and_intros)
 have mg0:=be X G CL
 have mg1:=be X G CG
 have mg2:=be X G CM
 have mg3:=be X G CN
 have mg4:=be X G CB
 have mg5:=be X G CF
 have mg6:=be X G CP
 have mg7:=be X G CS
 have mg8:=be X G CT
 have mg9:=be X G CA
 have qfs:=be X G C1
 have qft:=be X G C2
 have qfa:=be X G C3
 have qfe:=be X G C4
 have qfQ:=be X G C5
 have qfZ:=be X G C6
 have qfJ:=be X G C7
 have qfX:=be X G C8
 have Nh:=be X G gE
 have qfK:=mf X G MB
 have qfV:=mf X G MD
 have eg:=mf X G MF
 have qzd:=mf X G MH
 have wC:=mf X G MP
 have Js:=mf X G MR
 have dY:=mf X G MT
 have y_bool:=mf X G ME
 have Np:=mf X G M0
 have qfW:=mf X G M3
 have qzf:=mf X G M4
 have qfY:=mf X G M5
 have qzh:=mf X G M6
 have qfU:=mf X G M7
 have qfO:=mf X G M8
 have mMA:=be X G Us
 have mHP:=be X G UC
 have Gw:ZN mg:=⟨Js,y_bool,Np,eg,qfW,wC,Nh,⟨_,mg4⟩⟩
 have Gh:S2 mg:=⟨Js,dY,eg,wC⟩
 have Gm:ZM mg:=⟨eg,⟨_,mg2⟩,⟨_,mg3⟩⟩
 have Gk:Sn mg:=⟨wC,⟨_,mg5⟩⟩
 have Gl':YE mg:=⟨wC,qzf,qfY,qzh,qfU⟩
 have It:IsT K:=⟨qmE K,qm0 K,qm1 K,Hx K⟩
 have Ib:Tj K:=⟨qm2 K,qm3 K⟩
 have xZ:Mc K MA:=⟨⟨Ut,Ua,Ue,UQ⟩,UX,UK,UW,UY,UU,UO,UI⟩
 have wL:Hc K HP:=⟨⟨UL,UG,UM,UN⟩,UH,UP,UR⟩
 have MkH:Mk K HP A8:=⟨UB,aC.1,aC.2.1,UD⟩
 have MkM:Mk K MA A9:=⟨UZ,aL.1,aL.2.1,UJ⟩
 have xBT:=Ol.xc Og
 have xNN:=Ob.xc Of
 have xUF:=Ot.xc Oa
 have xTL:=OZ.xc OJ
 have ZF:=OV.xc OW
 have xNM:=OU.xc OI
 have xBR:=OG.xc OM
 have mS:=be X G aS
 have mBT:=be X G Oc
 have mNN:=be X G Om
 have mUF:=be X G Oh
 have mTL:=be X G OQ
 have ZH:=be X G OX
 have mNM:=be X G OY
 have mBR:=be X G OL
 have FN:=OB.d lN cN kN
 have bN3:Binds K ua ["self","text","name"] []:=FN.binds λ_ _ _ _ _ _ s us X' hl=>match us,hl with |[_,_,_],_=>.of_defaults rfl (X' _ _ ltN) stN rfl rfl
 have FB:=OF.d lB cB kB
 have bB3:Binds K V1 ["self","text","at"] []:=FB.binds λ_ _ _ _ _ _ s us X' hl=>match us,hl with |[_,_,_],_=>.of_defaults rfl (X' _ _ ltB) OH rfl rfl
 have Sp':KJ K mg S:=⟨mS,Ou,Oo,Oi⟩
 have Eu:EU K mg UF (kU S):=⟨xUF,Oe,mUF⟩
 have Nr:EM K mg "BadRow" BR (kU S):=⟨xBR,ON,mBR⟩
 have Em':EM K mg "NoMachine" NM (kU S):=⟨xNM,OC,mNM⟩
 have eZ:Dc K CD:=⟨⟨U9,U',Oq,Oz⟩,Ov,Ow⟩
 have Nt:Pk K PC Ui Uc:=⟨⟨UT,UA,UE,U0⟩,U5,U6,U7,⟨U3,aG.1,aG.2.1,U4⟩,Nn.mt⟩
 have MkD:Mk K CD Ez:=⟨Oj,aM.1,aM.2.1,Ox⟩
 have Hs':Hs K mg ⟨BT,NN,UF,BR,NM,ND⟩ TL (kU S):=⟨λc hc=>by
   simp only[js,xa,ii]at hc
   rcases hc with rfl|rfl|rfl|rfl|rfl|rfl|rfl<;>assumption,mBR,mBT,mNN,mUF,mNM,ZH,mTL,Jd,Jb,nd,λc hc=>by
   exact qmT (ns c hc)⟩
 have mPC:=be X G US
 have mCD:=be X G U8
 have Gs:VI K mg:=⟨Js,Np,qmS K⟩
 have Gi:Hv mg:=⟨Js,dY⟩
 have Gb:Zd mg:=⟨wC,qzh,⟨_,qfQ⟩,⟨_,qfZ⟩⟩
 have Gkd:sM K mg:=⟨⟨Ub,be X G MY,MO.s MU (by decide)⟩,⟨Jg,be X G Ma,MZ.s MQ MJ⟩,⟨_,qft⟩,wC,dY⟩
 have Gr:cS K mg:=⟨qfO,qzf,wC,⟨_,qfa⟩,⟨_,qfe⟩,⟨_,mg8⟩,⟨_,mg7⟩,⟨_,mg0⟩,⟨_,mg6⟩,⟨Jm,be X G MX,MV.s MK MW⟩,⟨Ud,be X G MI,ML.s MC (by decide)⟩,⟨_,qfs⟩⟩
 have key:∀wd,(SL.lookup wd=none/\xl wd (t6.zip ([.ref aq,.ref az,.ref aj,.ref ak,.ref av,.ref ay,.ref au,.ref ao,.ref ai,.ref af,.ref ah,.ref aa,.ref aQ,.ref aZ,.ref aJ,.ref aX,.ref aK,.ref aV,.ref aW,.ref aY,.ref aU,.ref aO,.ref aI]:List V))=none)\/∃ss tp,SL.lookup wd=some ss/\xl wd (t6.zip ([.ref aq,.ref az,.ref aj,.ref ak,.ref av,.ref ay,.ref au,.ref ao,.ref ai,.ref af,.ref ah,.ref aa,.ref aQ,.ref aZ,.ref aJ,.ref aX,.ref aK,.ref aV,.ref aW,.ref aY,.ref aU,.ref aO,.ref aI]:List V))=some (.ref tp)/\∀H,qb K H tp (ss.map V.str):=λwd=>by
  have eSL:SL=t6.zip ([["kind"],["part","part"],["part"],["part"],["part"],["part","part"],["part"],["part"],["part","part","part"],["name","part","part"],["name","kind","part"],["name","name","kind","kind","part"],["part","part"],["part","part"],["part","part"],["part","part"],["part","part"],["part","part"],["part","part"],["part","part"],["part","part"],["part","part"],["part"]]:List (List Str)):=rfl
  rw[eSL]
  refine FQ (K:=K) (ks:=t6) (iK:=([["kind"],["part","part"],["part"],["part"],["part"],["part","part"],["part"],["part"],["part","part","part"],["name","part","part"],["name","kind","part"],["name","name","kind","kind","part"],["part","part"],["part","part"],["part","part"],["part","part"],["part","part"],["part","part"],["part","part"],["part","part"],["part","part"],["part","part"],["part"]]:List (List Str))) (vs:=([.ref aq,.ref az,.ref aj,.ref ak,.ref av,.ref ay,.ref au,.ref ao,.ref ai,.ref af,.ref ah,.ref aa,.ref aQ,.ref aZ,.ref aJ,.ref aX,.ref aK,.ref aV,.ref aW,.ref aY,.ref aU,.ref aO,.ref aI]:List V)) rfl rfl (λi ss v e1 e2=>?_) wd
  match i,e1,e2 with
  |0,e1,e2=>cases e1;cases e2;exact⟨_,rfl,(Lv.s Lx (by decide))⟩
  |1,e1,e2=>cases e1;cases e2;exact⟨_,rfl,(Ly.s Lw (by decide))⟩
  |2,e1,e2=>cases e1;cases e2;exact⟨_,rfl,(Lo.s Lu (by decide))⟩
  |3,e1,e2=>cases e1;cases e2;exact⟨_,rfl,(Ll.s Li (by decide))⟩
  |4,e1,e2=>cases e1;cases e2;exact⟨_,rfl,(Lm.s Lg (by decide))⟩
  |5,e1,e2=>cases e1;cases e2;exact⟨_,rfl,(Lb.s Ln (by decide))⟩
  |6,e1,e2=>cases e1;cases e2;exact⟨_,rfl,(Lf.s Ld (by decide))⟩
  |7,e1,e2=>cases e1;cases e2;exact⟨_,rfl,(Lp.s Lh (by decide))⟩
  |8,e1,e2=>cases e1;cases e2;exact⟨_,rfl,(Ls.s Lr (by decide))⟩
  |9,e1,e2=>cases e1;cases e2;exact⟨_,rfl,(Le.s La (by decide))⟩
  |10,e1,e2=>cases e1;cases e2;exact⟨_,rfl,(LZ.s LQ (by decide))⟩
  |11,e1,e2=>cases e1;cases e2;exact⟨_,rfl,(LX.s LJ (by decide))⟩
  |12,e1,e2=>cases e1;cases e2;exact⟨_,rfl,(LV.s LK (by decide))⟩
  |13,e1,e2=>cases e1;cases e2;exact⟨_,rfl,(LY.s LW (by decide))⟩
  |14,e1,e2=>cases e1;cases e2;exact⟨_,rfl,(LO.s LU (by decide))⟩
  |15,e1,e2=>cases e1;cases e2;exact⟨_,rfl,(LC.s LI (by decide))⟩
  |16,e1,e2=>cases e1;cases e2;exact⟨_,rfl,(LG.s LL (by decide))⟩
  |17,e1,e2=>cases e1;cases e2;exact⟨_,rfl,(LN.s LM (by decide))⟩
  |18,e1,e2=>cases e1;cases e2;exact⟨_,rfl,(LD.s LB (by decide))⟩
  |19,e1,e2=>cases e1;cases e2;exact⟨_,rfl,(LH.s LF (by decide))⟩
  |20,e1,e2=>cases e1;cases e2;exact⟨_,rfl,(LR.s LP (by decide))⟩
  |21,e1,e2=>cases e1;cases e2;exact⟨_,rfl,(LA.s LS (by decide))⟩
  |22,e1,e2=>cases e1;cases e2;exact⟨_,rfl,(Gq.s L0 (by decide))⟩
  |n+23,e1,e2=>simp at e1
 have Tps:=Lz.s Lq Lj
 have mPS:=be X G C9
 have Gv:F3 K mg:=⟨qfK,_,_,mPS,Tps,λwd=>by
  unfold slotsOf
  rcases key wd with⟨h1,h2⟩|⟨ss,tp,h1,h2,h3⟩
  ·exact .inl ⟨by rw[h1];rfl,h2⟩
  ·exact .inr ⟨tp,h2,by rw[h1];exact h3⟩⟩
 have Gp:Ze K mg:=by
  refine⟨_,_,mPS,Tps,λwd hn=>?_,λwd ss hs=>?_⟩
  ·rcases key wd with⟨_,h2⟩|⟨ss,tp,h1,_⟩
   ·rw[<-tJ,h2];rfl
   ·rw[hn]at h1;cases h1
  ·rcases key wd with⟨h1,_⟩|⟨QH,tp,h1,h2,h3⟩
   ·rw[hs]at h1;cases h1
   ·rw[hs]at h1;cases h1
    exact⟨by rw[<-tJ,h2];rfl,tp,h2,h3⟩
 have Go:K9 mg:=⟨qzd,wC,eg⟩
 have Gc:Vl mg:=⟨qzd,wC,dY⟩
 refine⟨qqa,λs v=>?_,λbase kb nb=>?_⟩
 ·obtain⟨_,_,_,_,nLw,_,_⟩:=aD
  obtain⟨oc,od,kV,doc,pm,an,ct,wB,rfl,rfl⟩:=nLw
  exact .of_eq rfl
 ·have qzW:=qwT (P:=l.prog) (w:=w) (base:=base) aF.fn Gv
  have Na:=aF.kn qzW
  have Jt:=DRq.kn (qw0 (P:=l.prog) (w:=w) (base:=base) DRq.fn Eu)
  have GNn:=qwR (P:=l.prog) (w:=w) (base:=base) FN Sp' xNN Jb
  have GBt:=qoj (P:=l.prog) (w:=w) (base:=base) FB Sp' xBT Jd
  have En:EN l.prog w K mg base NN (kU S):=⟨xNN,mNN,_,_,GNn,aN,OD,bN3⟩
  have Eb:EB l.prog w K mg base BT (kU S):=⟨xBT,mBT,_,_,GBt,aB,tyB,bB3⟩
  have GWn:=DWn.kn (qw4 (P:=l.prog) (w:=w) (base:=base) DWn.fn qfV)
  have GLu:=DLu.kn (qw7 DLu.fn En)
  have GLv:=quO GLu
  have GNb:=DNb.kn (qw3 DNb.fn qzW aF.at_ aF.fn.kp aF.bi)
  have NQ:=DRw.kn (qyj DRw.fn Gi Jt)
  have GCn:=ue DCn.fn Jt
  have GHk:=qyy DHk.fn NQ
  have GTk:=qyu DTk.fn NQ
  have GCk:=qyo DCk.fn Jt NQ
  have GPk:=DPk.kn (qyc (P:=l.prog) (w:=w) (base:=base) (mg:=mg) DPk.fn)
  have Gf:KP l.prog w K mg base UF Uq Uz Uj:=by
   refine⟨eg,⟨Jy,be X G Gu,Gn.s Gg Ga⟩,⟨Ju,_,be X G Ge,GZ.s GQ GJ,λwd ks κ m=>iX (qm4 wd (HG m)),λwd n R m=>?_⟩,⟨Jo,_,be X G GY,G0.s GG G3,λwd ks κ m=>?_⟩⟩
   ·simp only[KR,js,xa,ii,G']at m
    rcases m with⟨rfl,rfl,rfl⟩|⟨rfl,rfl,rfl⟩|⟨rfl,rfl,rfl⟩|⟨rfl,rfl,rfl⟩
    ·exact⟨v8 (i:=0) (by ext) (by show 0<8;decide),Y6,jn (i:=0) (by ext) rfl,DCn.at (GCn.mono (by decide))⟩
    ·exact⟨v8 (i:=1) (by ext) (by show 1<8;decide),Y7,jn (i:=1) (by ext) rfl,DHk.at (GHk.mono (by decide))⟩
    ·exact⟨v8 (i:=2) (by ext) (by show 2<8;decide),Y8,jn (i:=2) (by ext) rfl,DTk.at (GTk.mono (by decide))⟩
    ·exact⟨v8 (i:=7) (by ext) (by show 7<8;decide),Y9,jn (i:=7) (by ext) rfl,DCk.at (GCk.mono (by decide))⟩
   ·simp only[FX,js,xa,ii,G']at m
    rcases m with⟨rfl,rfl,rfl⟩|⟨rfl,rfl,rfl⟩|⟨rfl,rfl,rfl⟩|⟨rfl,rfl,rfl⟩
    ·exact⟨_,jn (i:=0) (by ext) rfl,(G5.s G4 (by decide))⟩
    ·exact⟨_,jn (i:=1) (by ext) rfl,(G7.s G6 (by decide))⟩
    ·exact⟨_,jn (i:=2) (by ext) rfl,(G9.s G8 (by decide))⟩
    ·exact⟨_,jn (i:=5) (by ext) rfl,(Mz.s Mq (by decide))⟩
  have GFt:=P0 DFt DLk DNk DXk Gf Na Jt GLu GPk GWn 50
  have GKo:=DKo.kn (quG DKo.fn GFt)
  have GOn:=P1 DOn Go Na GNb
  have GVc:=DVc.kn (qy4 DVc.fn GLv)
  have GCo:=P4 DCo DOp DCc DFc Gc (be X G Mj) (Mv.s Mx Mw) Na GNb GLv GWn GVc GOn 50
  have GCm:=DCm.kn (quD DCm.fn GKo GCo)
  have GNo:=DNo.kn (qiv (P:=l.prog) (w:=w) (base:=base) (mg:=mg) DNo.fn)
  have GRf:=DRf.kn (qiR (P:=l.prog) (w:=w) (base:=base) (mg:=mg) DRf.fn)
  have GIr:=DIr.kn (qc3 (P:=l.prog) (w:=w) (base:=base) DIr.fn Gh It)
  have NZ:=qiI (P:=l.prog) (w:=w) (base:=base) (mg:=mg) mX.fn wL
  have GHs:=qiG (P:=l.prog) (w:=w) (base:=base) (mg:=mg) Nl.fn wL
  have GHf:=qiB (P:=l.prog) (w:=w) (base:=base) aT.fn wL wC
  have GHu:=qiF (P:=l.prog) (w:=w) (base:=base) Nc.fn wL wC
  have GHm:=qiA aA.fn wL wC dY aT.mt GHf aT.bi GRf
  have GRm:=DRm.kn (qcZ (k:=3) DRm.fn xZ wL aT.mt GHf aT.bi)
  have GM2:=DM2.kn (qcX DM2.fn xZ wL GRm aA.mt GHm aA.bi)
  have GMc:=qcW Nk.fn GM2
  have GMp:=qcY Nv.fn GM2
  have GIs:=DIs.kn (qiV (P:=l.prog) (w:=w) (base:=base) (mg:=mg) DIs.fn xZ)
  have GMf:=qcC aR.fn xZ wL GRm GIs aA.mt GHm aA.bi
  have GPu:=qiQ (P:=l.prog) (w:=w) (base:=base) (mg:=mg) (CH:=HP) aH.fn xZ
  have GPn:=qiJ (P:=l.prog) (w:=w) (base:=base) (CH:=HP) M9.fn xZ Nh
  have GPs:=qiY (CH:=HP) Nq.fn xZ GIs
  have GTh:=DTh.kn (qi7 (P:=l.prog) (w:=w) (base:=base) (CH:=HP) DTh.fn xZ Nh)
  have GT1:=qcq Nz.fn GTh
  have GT2:=qcz Nj.fn GTh
  have GRk:=qcj (CH:=HP) aP.fn xZ GNo
  have GCu:=DCu.kn (qcw (P:=l.prog) (w:=w) (base:=base) DCu.fn xZ wC)
  have GEn:=DEn.kn (qco DEn.fn xZ wL mX.mt NZ mX.bi)
  have GCa:=qcg Ny.fn xZ Gk GEn
  have GLa:=qcf Nu.fn xZ GCu GEn
  have GTe:=qch (CH:=HP) Ni.fn xZ GCu
  have Od:SH l.prog w K mg base MA HP 7:=by
   refine⟨TO,_,be X G Gz,Gx.s Gj Gy,λo ho=>?_⟩
   match o,ho with
   | .num n,_=>exact⟨Jk,Uh,1,_,by decide,(show xl ("put":Str) _=_ from jn (i:=0) (by ext) rfl),.inl ⟨n,rfl⟩,GPu,aH.fn.kp,aH.bi⟩
   | .zI b,_=>exact⟨Jk,Uh,1,_,by decide,(show xl ("put":Str) _=_ from jn (i:=0) (by ext) rfl),.inr ⟨b,rfl⟩,GPu,aH.fn.kp,aH.bi⟩
   | .nil,_=>exact⟨Ux,qqm,1,(λo=>o= .nil),by decide,(show xl ("nil":Str) _=_ from jn (i:=1) (by ext) rfl),rfl,GPn,M9.fn.kp,M9.bi⟩
   | .get k,_=>exact⟨Uk,qqn,2,_,by decide,(show xl ("get":Str) _=_ from jn (i:=2) (by ext) rfl),⟨k,rfl⟩,GPs,Nq.fn.kp,Nq.bi⟩
   | .make .cell,_=>exact⟨Uv,qqf,7,(λo=>o= .make .cell),by decide,(show xl ("cons":Str) _=_ from jn (i:=3) (by ext) rfl),rfl,GMc,Nk.fn.kp,Nk.bi⟩
   | .make .pair,_=>exact⟨Uw,qqh,7,(λo=>o= .make .pair),by decide,(show xl ("pair":Str) _=_ from jn (i:=7) (by ext) rfl),rfl,GMp,Nv.fn.kp,Nv.bi⟩
   | .make .fn,ho=>exact absurd rfl ho
   | .take x i,ho=>
    have ho:(x,i)∈([("head",0),("tail",1)]:List (Str×Nat)):=ho
    simp only[js,xa,ii,G']at ho
    rcases ho with⟨rfl,rfl⟩|⟨rfl,rfl⟩
    ·exact⟨Jv,qqb,3,_,by decide,(show xl ("head":Str) _=_ from jn (i:=4) (by ext) rfl),⟨_,rfl⟩,GT1,Nz.fn.kp,Nz.bi⟩
    ·exact⟨Jw,qqd,3,_,by decide,(show xl ("tail":Str) _=_ from jn (i:=5) (by ext) rfl),⟨_,rfl⟩,GT2,Nj.fn.kp,Nj.bi⟩
   | .sum .plus,_=>exact⟨oU,Up,4,_,by decide,(show xl ("plus":Str) _=_ from jn (i:=10) (by ext) rfl),⟨_,rfl⟩,GRk,aP.fn.kp,aP.bi⟩
   | .sum .over,_=>exact⟨oU,Up,4,_,by decide,(show xl ("over":Str) _=_ from jn (i:=13) (by ext) rfl),⟨_,rfl⟩,GRk,aP.fn.kp,aP.bi⟩
   | .func true ks n,ho=>exact⟨t7,Ur,6,_,by decide,(show xl ("rec":Str) _=_ from jn (i:=19) (by ext) rfl),⟨_,_,_,rfl,ho⟩,GMf,aR.fn.kp,aR.bi⟩
   | .func false ks n,ho=>exact⟨t7,Ur,6,_,by decide,(show xl ("fn":Str) _=_ from jn (i:=18) (by ext) rfl),⟨_,_,_,rfl,ho⟩,GMf,aR.fn.kp,aR.bi⟩
   | .call,_=>exact⟨Uy,qqp,3,(λo=>o= .call),by decide,(show xl ("call":Str) _=_ from jn (i:=20) (by ext) rfl),rfl,GCa,Ny.fn.kp,Ny.bi⟩
   | .last,_=>exact⟨Uu,qqr,3,(λo=>o= .last),by decide,(show xl ("last call":Str) _=_ from jn (i:=21) (by ext) rfl),rfl,GLa,Nu.fn.kp,Nu.bi⟩
   | .tell,_=>exact⟨Uo,qqs,2,(λo=>o= .tell),by decide,(show xl ("tell":Str) _=_ from jn (i:=22) (by ext) rfl),rfl,GTe,Ni.fn.kp,Ni.bi⟩
  have GOr:=DOr.kn (qcD DOr.fn xZ Od)
  have GSt:=DSt.kn (qcR DSt.fn xZ ⟨TE,be X G MG,MN.s MM (by decide)⟩ GOr)
  have GRu:=qc0 aE.fn xZ GSt
  have GBa:=DBa.kn (qlf (P:=l.prog) (w:=w) (base:=base) DBa.fn Gw Ib)
  have GTp:=DTp.kn (qlp DTp.fn Gw wL mX.mt NZ mX.bi)
  have GPi:=DPi.kn (qlt DPi.fn wL GTp GIr GBa Nl.mt GHs Nl.bi mX.mt NZ mX.bi)
  have GVt:=DVt.kn (qlW DVt.fn Gw GPi)
  have dc:=qlI (CH:=HP) a8.fn xZ GVt ZF tF ZH
  have GHi:=qc7 (P:=l.prog) (w:=w) (base:=base) (mg:=mg) EHi.fn wL
  have GMa:=qlq EMa.fn xZ wL Gm GHi mHP MkH EHi.bi
  have GPx:=qu6 (P:=l.prog) (w:=w) (base:=base) (mg:=mg) EPx.fn Nt
  have GPt:=qu9 (P:=l.prog) (w:=w) (base:=base) Nn.fn Nt Gb Ng.fn Nm.fn Ng.at_ Nm.at_ Ng.bi Nm.bi
  have eX:Tk l.prog w K mg base PC Ui Uc qqt:=⟨Nt,GPt,Nn.bi⟩
  have GIw:=DIw.kn (qoY (P:=l.prog) (w:=w) (base:=base) DIw.fn Gp Gkd Gr)
  have GIn:=DIn.kn (qoI DIn.fn Gr GIw)
  have GIu:=DIu.kn (qoC (P:=l.prog) (w:=w) (base:=base) DIu.fn Gr)
  have GCb:=DCb.kn (qow DCb.fn eX)
  have GRn:=DRn.kn (qoM DRn.fn eX GIn)
  have GRx:=A5 DRx DKb eX Gkd GCb
  have GRp:=A6 DRp DPb DRs eX Gp Gr Eb dY GCb GRn (GRx 8) GIu GIn 8
  have dZ:=DRd.kn (qo7 DRd.fn eX Eb wC ⟨_,mg9⟩ mPC GPx EPx.bi GRp)
  have GKt:=Ra (P:=l.prog) (w:=w) (base:=base) DKt Gs 8
  have GDi:=qlE (P:=l.prog) (w:=w) (base:=base) EDi.fn eZ Gm
  have NJ:=DSd.kn (ql2 (P:=l.prog) (w:=w) (base:=base) (C:=MA) (CH:=HP) DSd.fn eZ Em')
  have GGo:=ql5 DGo.fn xZ NJ aE.mt GRu aE.bi (by decide)
  have GSw:=ql9 DSw.fn xZ NJ a8.mt dc a8.bi
  have GMu:=qgj Nd.fn xZ wL Nc.mt GHu Nc.bi
  have GUs:=qgv DUs.fn xZ Np NJ Nd.mt GMu Nd.bi
  have GSr:=qgu (P:=l.prog) (w:=w) (base:=base) (C:=MA) (CH:=HP) DSr.fn eZ Gm Nr
  let Z:Cl:=⟨BT,NN,UF,BR,NM,ND⟩
  have GMo:=DMo.kn (qgm (Z:=Z) DMo.fn eZ dZ GCm mMA MkM GMa EMa.bi)
  have GTl:=qgp (Z:=Z) DTl.fn dZ GKo GKt
  have GBg:=qga DBg.fn eZ GMo
  have GRl:=qgZ DRl.fn xZ ⟨_,qfX⟩ GMo aE.mt GRu aE.bi (by decide) a8.mt dc a8.bi
  have GRc:=DRc.kn (qgK (P:=l.prog) (w:=w) (base:=base) (Z:=Z) DRc.fn Gr ⟨_,qfJ⟩ Nr)
  have Tb:Al l.prog w K mg base MA HP CD Z 10 _ _ _ _ _ _ _ _ _:=⟨⟨Ji,be X G My,Mi.s Mu Ml⟩,⟨Jc,be X G Mg,Mn.s Mm Mb⟩,⟨Jl,be X G Mh,Mr.s Mp Mt⟩,DSw.at GSw,DUs.at GUs,DTl.at GTl,DBg.at GBg,DRl.at GRl,DSr.at GSr,DGo.at GGo,by decide⟩
  have GDw:=DDw.kn (qgW DDw.fn Tb Nr GRc)
  have Rf':Aa l.prog w K mg base:=⟨⟨_,_,qgO (P:=l.prog) (w:=w) (base:=base) (mg:=mg) Jf.fn,Jf.at_,Jf.fn.kp,Jf.bi⟩,⟨_,_,qgL (P:=l.prog) (w:=w) (base:=base) (mg:=mg) Jh.fn,Jh.at_,Jh.fn.kp,Jh.bi⟩⟩
  have GRa:=DRa.kn (qgM DRa.fn Hs' Rf' GDw)
  have GPy:=DPy.kn (qg4 DPy.fn mCD MkD GDi EDi.bi GRa)
  have GCe:=DCe.kn (qmg (P:=l.prog) (w:=w) (base:=base) DCe.fn Gl')
  have GDr:=DDr.kn (qmm (P:=l.prog) (w:=w) (base:=base) (mg:=mg) DDr.fn)
  have GAl:=qmf (P:=l.prog) (w:=w) (base:=base) (mg:=mg) Jr.fn
  have GSp:=DSp.kn (qmr (P:=l.prog) (w:=w) (base:=base) (mg:=mg) DSp.fn)
  exact qmO DLw.fn Gl' GCe GDr GAl Jr.at_ Jr.fn.kp Jr.bi GSp GPy
theorem qhE{s:zr}{e:zt}(z:zJ P w outer H s (λ_ _ _=>False) e s'):False:=by
 obtain⟨_,_,_,_,_,_,_,_,_,_,_,_,_,_,_,_,y⟩:=z
 exact y
theorem walk{l:OpenLaw}{q:cv}{loose:List Str}{XP:(Str->Option zt)->ll->Prop}{YP:fe->ll->Prop}{d:DefRec}{K:Params->Frag}(hn:l.most=some 63)(pU:d.params.defaults=[])
  (hY:∀(w:fe)(h:ll),YP w h->(K w.params).In h)
  (F:∀(w:fe)(mg:Str->Option zt)(fa:jp)(h:ll),(K w.params).In h->h.Ns xi mg->mg d.name=some (.ref fa)->
   ∃fd:ol,(∀(s:zr)(u:zt),qqC s fd ⟨[u],[]⟩ [("_law_script",u)])/\∀base:ll,(K w.params).In base->base.Ns xi mg->xg l.prog w (K w.params) mg base (zJ l.prog w) 180 fa fd ["_law_script"] (Jz (K w.params))):
  WalkO q loose XP YP l.row.toRowW d [] (λf vs=>PySem.call f vs):=
 L2.qkk (n:=63) (k:=180) (x:="_law_script") (CX:=λw=>zJ l.prog w) (sp:=λw=>Jz (K w.params)) hn (by decide) pU ⟨rfl,by decide,by decide⟩ hY F (λ_ _ a ns hl _ hS=>⟨a,ns,rfl,hS,hl,λ_=>rfl⟩) λ_ _ _ _ _ z=>qhE z
end K27
open PySem PySem.W PyProof.Rows
set_option maxRecDepth 100000 in
set_option maxHeartbeats 0 in
theorem PySem.Challenge.cw_plainspeak_k27_desk_refusals_holds : PySem.Challenge.rw_plainspeak_k27_desk_refusals.Holds := by
 w_on;refine HD.2 ?_;dsimp only[HD]
 k_fill
 refine K27.walk (l:=PySem.Challenge.rw_plainspeak_k27_desk_refusals) rfl rfl (λw h Y=>PySem.W.kIn_of Y) ?F
 case F=>
  intro w mg fa h KX G pO
  refine' K27.all_mk KX G pO ?Us ?Ut ?Ua ?Ue ?UQ ?UZ ?UJ ?UX ?UK ?UW ?UY ?UU ?UO ?UI ?UC ?UL ?UG ?UM ?UN ?UB ?UD ?UH ?UP ?UR ?US ?UT ?UA ?UE ?U0 ?U3 ?U4 ?U5 ?U6 ?U7 ?U8 ?U9 ?U' ?Oq ?Oz ?Oj ?Ox ?Ov ?Ow ?aS ?Ou ?Oo ?Oi ?Oc ?Ol ?Og ?Om ?Ob ?Of ?Oh ?Ot ?Oa ?Oe ?OQ ?OZ ?OJ ?OX ?OV ?OW ?tF ?OY ?OU ?OI ?OC ?OL ?OG ?OM ?ON ?nd ?ns ?Jb ?aN ?lN ?OB ?cN ?kN ?ltN ?stN ?OD ?Jd ?aB ?lB ?OF ?cB ?kB ?ltB ?OH ?tyB ?OP ?OR ?OS ?OT ?OA ?OE ?O0 ?O1 ?O2 ?O3 ?O4 ?O5 ?O6 ?O7 ?O8 ?O9 ?Iq ?Iz ?Ij ?Ik ?Iw ?Iu ?Io ?Ii ?Ic ?Il ?Ig ?hOr ?Im ?Ih ?Ip ?Ir ?Ia ?gi ?di ?Ie ?IQ ?IZ ?IJ ?tZ ?IX ?IK ?IV ?IW ?wF ?IY ?IU ?II ?IC ?IL ?aC ?IG ?IM ?IB ?ID ?IF ?aL ?IP ?IS ?IT ?IA ?IE ?Cq ?Cz ?Cj ?Ck ?Cv ?Cw ?Cy ?Cu ?Co ?ng ?Ci ?aG ?Cc ?aM ?Cg ?Cn ?Cf ?Cp ?Cr ?Cs ?Ct ?Ca ?Ce ?CQ ?CZ ?CJ ?CK ?CV ?CW ?CY ?CU ?CO ?CI ?CC ?aD ?CL ?CG ?CM ?CN ?CB ?CF ?CP ?CS ?CT ?CA ?C1 ?C2 ?C3 ?C4 ?C5 ?C6 ?C7 ?C8 ?gE ?C9 ?Lq ?Lz ?Lj ?Lx ?Lv ?Lw ?Ly ?Lu ?Lo ?Li ?Ll ?Lg ?Lm ?Ln ?Lb ?Ld ?Lf ?Lh ?Lp ?Lr ?Ls ?La ?Le ?LQ ?LZ ?LJ ?LX ?LK ?LV ?LW ?LY ?LU ?LO ?LI ?LC ?LL ?LG ?LM ?LN ?LB ?LD ?LF ?LH ?LP ?LR ?LS ?LA ?L0 ?Gq ?Gz ?Gj ?Gx ?Gy ?Gu ?Gg ?Gn ?Ga ?Ge ?GQ ?GZ ?GJ ?GY ?GG ?G0 ?G3 ?G4 ?G5 ?G6 ?G7 ?G8 ?G9 ?Mq ?Mz ?Mj ?Mx ?Mv ?Mw ?My ?Mu ?Mi ?Ml ?Mg ?Mm ?Mn ?Mb ?Mh ?Mp ?Mr ?Mt ?Ma ?MQ ?MZ ?MJ ?MX ?MK ?MV ?MW ?MY ?MU ?MO ?MI ?MC ?ML ?MG ?MM ?MN ?MB ?MD ?MF ?MH ?MP ?MR ?MT ?ME ?M0 ?M3 ?M4 ?M5 ?M6 ?M7 ?M8
  (case Us|Ut|Ua|Ue|UQ|UZ|UJ|UX|UK|UW|UY|UU|UO|UI|UC|UL|UG|UM|UN|UB|UD|UH|UP|UR|US|UT|UA|UE|U0|U3|U4|U5|U6|U7|U8|U9|U'|Oq|Oz|Oj|Ox|Ov|Ow|aS|Ou|Oo|Oi|Oc=>k_is)
  (case Ol=>(constructor<;>k_is))
  (case Og=>exact⟨_,_,_,_,_,_,_,_,_,_,_,_,_,_,rfl⟩)
  (case Om=>k_is)
  (case Ob=>(constructor<;>k_is))
  (case Of=>exact⟨_,_,_,_,_,_,_,_,_,_,_,_,_,_,rfl⟩)
  (case Oh=>k_is)
  (case Ot=>(constructor<;>k_is))
  (case Oa=>exact⟨_,_,_,_,_,_,_,_,_,_,_,_,_,_,rfl⟩)
  (case Oe|OQ=>k_is)
  (case OZ=>(constructor<;>k_is))
  (case OJ=>exact⟨_,_,_,_,_,_,_,_,_,_,_,_,_,_,rfl⟩)
  (case OX=>k_is)
  (case OV=>(constructor<;>k_is))
  (case OW=>exact⟨_,_,_,_,_,_,_,_,_,_,_,_,_,_,rfl⟩)
  (case tF|OY=>k_is)
  (case OU=>(constructor<;>k_is))
  (case OI=>exact⟨_,_,_,_,_,_,_,_,_,_,_,_,_,_,rfl⟩)
  (case OC|OL=>k_is)
  (case OG=>(constructor<;>k_is))
  (case OM=>exact⟨_,_,_,_,_,_,_,_,_,_,_,_,_,_,rfl⟩)
  (case ON=>k_is)
  (case nd|ns=>decide)
  (case Jb|aN|lN=>k_is)
  (case OB=>exact⟨_,_,_,_,_,_,_,_,rfl,rfl⟩)
  (case cN|kN|ltN=>k_is)
  (case stN=>rfl)
  (case OD|Jd|aB|lB=>k_is)
  (case OF=>exact⟨_,_,_,_,_,_,_,_,rfl,rfl⟩)
  (case cB|kB|ltB=>k_is)
  (case OH=>rfl)
  (case tyB=>k_is)
  (case OP|OR|OS|OT|OA|OE|O0|O1|O2|O3|O4|O5|O6|O7|O8|O9|Iq|Iz|Ij|Ik|Iw|Iu|Io|Ii|Ic|Il|Ig|hOr|Im|Ih|Ip|Ir|Ia|gi|di|Ie|IQ|IZ|IJ|tZ|IX|IK|IV|IW|wF|IY|IU|II|IC|IL=>refine⟨?_,?_⟩;k_is;apply Exists.intro;apply Exists.intro;refine⟨?_,?_,?_,?_⟩;k_is;exact⟨_,_,_,_,_,_,_,_,rfl,rfl⟩;k_is;k_is)
  (case aC|IG|IM|IB|ID|IF|aL|IP|IS=>refine⟨?_,?_,?_⟩;k_is;k_is;apply Exists.intro;apply Exists.intro;refine⟨?_,?_,?_,?_⟩;k_is;exact⟨_,_,_,_,_,_,_,_,rfl,rfl⟩;k_is;k_is)
  (case IT|IA|IE|Cq|Cz|Cj|Ck|Cv|Cw|Cy|Cu|Co|ng|Ci=>refine⟨?_,?_⟩;k_is;apply Exists.intro;apply Exists.intro;refine⟨?_,?_,?_,?_⟩;k_is;exact⟨_,_,_,_,_,_,_,_,rfl,rfl⟩;k_is;k_is)
  (case aG|Cc|aM=>refine⟨?_,?_,?_⟩;k_is;k_is;apply Exists.intro;apply Exists.intro;refine⟨?_,?_,?_,?_⟩;k_is;exact⟨_,_,_,_,_,_,_,_,rfl,rfl⟩;k_is;k_is)
  (case Cg|Cn|Cf=>refine⟨?_,?_⟩;k_is;apply Exists.intro;apply Exists.intro;refine⟨?_,?_,?_,?_⟩;k_is;exact⟨_,_,_,_,_,_,_,_,rfl,rfl⟩;k_is;k_is)
  (case Cp=>refine⟨?_,?_,?_⟩;k_is;k_is;apply Exists.intro;apply Exists.intro;refine⟨?_,?_,?_,?_⟩;k_is;exact⟨_,_,_,_,_,_,_,_,rfl,rfl⟩;k_is;k_is)
  (case Cr|Cs|Ct|Ca|Ce|CQ|CZ|CJ|CK|CV|CW|CY|CU|CO|CI|CC|aD=>refine⟨?_,?_⟩;k_is;apply Exists.intro;apply Exists.intro;refine⟨?_,?_,?_,?_⟩;k_is;exact⟨_,_,_,_,_,_,_,_,rfl,rfl⟩;k_is;k_is)
  (case CL|CG|CM|CN|CB|CF|CP|CS|CT|CA|C1|C2|C3|C4|C5|C6|C7|C8|gE|C9|Lq=>k_is)
  (case Lz=>(refine⟨⟨rfl,rfl,rfl⟩,_,_,rfl,?_⟩;(repeat refine .cons rfl rfl ?_);exact .nil))
  (case Lj=>decide)
  (case Lx=>k_is)
  (case Lv=>(refine⟨rfl,_,_,rfl,?_⟩;(repeat refine .cons ⟨_,rfl⟩ ?_);exact .nil))
  (case Lw=>k_is)
  (case Ly=>(refine⟨rfl,_,_,rfl,?_⟩;(repeat refine .cons ⟨_,rfl⟩ ?_);exact .nil))
  (case Lu=>k_is)
  (case Lo=>(refine⟨rfl,_,_,rfl,?_⟩;(repeat refine .cons ⟨_,rfl⟩ ?_);exact .nil))
  (case Li=>k_is)
  (case Ll=>(refine⟨rfl,_,_,rfl,?_⟩;(repeat refine .cons ⟨_,rfl⟩ ?_);exact .nil))
  (case Lg=>k_is)
  (case Lm=>(refine⟨rfl,_,_,rfl,?_⟩;(repeat refine .cons ⟨_,rfl⟩ ?_);exact .nil))
  (case Ln=>k_is)
  (case Lb=>(refine⟨rfl,_,_,rfl,?_⟩;(repeat refine .cons ⟨_,rfl⟩ ?_);exact .nil))
  (case Ld=>k_is)
  (case Lf=>(refine⟨rfl,_,_,rfl,?_⟩;(repeat refine .cons ⟨_,rfl⟩ ?_);exact .nil))
  (case Lh=>k_is)
  (case Lp=>(refine⟨rfl,_,_,rfl,?_⟩;(repeat refine .cons ⟨_,rfl⟩ ?_);exact .nil))
  (case Lr=>k_is)
  (case Ls=>(refine⟨rfl,_,_,rfl,?_⟩;(repeat refine .cons ⟨_,rfl⟩ ?_);exact .nil))
  (case La=>k_is)
  (case Le=>(refine⟨rfl,_,_,rfl,?_⟩;(repeat refine .cons ⟨_,rfl⟩ ?_);exact .nil))
  (case LQ=>k_is)
  (case LZ=>(refine⟨rfl,_,_,rfl,?_⟩;(repeat refine .cons ⟨_,rfl⟩ ?_);exact .nil))
  (case LJ=>k_is)
  (case LX=>(refine⟨rfl,_,_,rfl,?_⟩;(repeat refine .cons ⟨_,rfl⟩ ?_);exact .nil))
  (case LK=>k_is)
  (case LV=>(refine⟨rfl,_,_,rfl,?_⟩;(repeat refine .cons ⟨_,rfl⟩ ?_);exact .nil))
  (case LW=>k_is)
  (case LY=>(refine⟨rfl,_,_,rfl,?_⟩;(repeat refine .cons ⟨_,rfl⟩ ?_);exact .nil))
  (case LU=>k_is)
  (case LO=>(refine⟨rfl,_,_,rfl,?_⟩;(repeat refine .cons ⟨_,rfl⟩ ?_);exact .nil))
  (case LI=>k_is)
  (case LC=>(refine⟨rfl,_,_,rfl,?_⟩;(repeat refine .cons ⟨_,rfl⟩ ?_);exact .nil))
  (case LL=>k_is)
  (case LG=>(refine⟨rfl,_,_,rfl,?_⟩;(repeat refine .cons ⟨_,rfl⟩ ?_);exact .nil))
  (case LM=>k_is)
  (case LN=>(refine⟨rfl,_,_,rfl,?_⟩;(repeat refine .cons ⟨_,rfl⟩ ?_);exact .nil))
  (case LB=>k_is)
  (case LD=>(refine⟨rfl,_,_,rfl,?_⟩;(repeat refine .cons ⟨_,rfl⟩ ?_);exact .nil))
  (case LF=>k_is)
  (case LH=>(refine⟨rfl,_,_,rfl,?_⟩;(repeat refine .cons ⟨_,rfl⟩ ?_);exact .nil))
  (case LP=>k_is)
  (case LR=>(refine⟨rfl,_,_,rfl,?_⟩;(repeat refine .cons ⟨_,rfl⟩ ?_);exact .nil))
  (case LS=>k_is)
  (case LA=>(refine⟨rfl,_,_,rfl,?_⟩;(repeat refine .cons ⟨_,rfl⟩ ?_);exact .nil))
  (case L0=>k_is)
  (case Gq=>(refine⟨rfl,_,_,rfl,?_⟩;(repeat refine .cons ⟨_,rfl⟩ ?_);exact .nil))
  (case Gz|Gj=>k_is)
  (case Gx=>(refine⟨⟨rfl,rfl,rfl⟩,_,_,rfl,?_⟩;(repeat refine .cons rfl rfl ?_);exact .nil))
  (case Gy=>decide)
  (case Gu|Gg=>k_is)
  (case Gn=>(refine⟨⟨rfl,rfl,rfl⟩,_,_,rfl,?_⟩;(repeat refine .cons rfl rfl ?_);exact .nil))
  (case Ga=>decide)
  (case Ge|GQ=>k_is)
  (case GZ=>(refine⟨⟨rfl,rfl,rfl⟩,_,_,rfl,?_⟩;(repeat refine .cons rfl rfl ?_);exact .nil))
  (case GJ=>decide)
  (case GY|GG=>k_is)
  (case G0=>(refine⟨⟨rfl,rfl,rfl⟩,_,_,rfl,?_⟩;(repeat refine .cons rfl rfl ?_);exact .nil))
  (case G3=>decide)
  (case G4=>k_is)
  (case G5=>(refine⟨rfl,_,_,rfl,?_⟩;(repeat refine .cons ⟨_,rfl⟩ ?_);exact .nil))
  (case G6=>k_is)
  (case G7=>(refine⟨rfl,_,_,rfl,?_⟩;(repeat refine .cons ⟨_,rfl⟩ ?_);exact .nil))
  (case G8=>k_is)
  (case G9=>(refine⟨rfl,_,_,rfl,?_⟩;(repeat refine .cons ⟨_,rfl⟩ ?_);exact .nil))
  (case Mq=>k_is)
  (case Mz=>(refine⟨rfl,_,_,rfl,?_⟩;(repeat refine .cons ⟨_,rfl⟩ ?_);exact .nil))
  (case Mj|Mx=>k_is)
  (case Mv=>(refine⟨⟨rfl,rfl,rfl⟩,_,_,rfl,?_⟩;(repeat refine .cons rfl rfl ?_);exact .nil))
  (case Mw=>decide)
  (case My|Mu=>k_is)
  (case Mi=>(refine⟨⟨rfl,rfl,rfl⟩,_,_,rfl,?_⟩;(repeat refine .cons rfl rfl ?_);exact .nil))
  (case Ml=>decide)
  (case Mg|Mm=>k_is)
  (case Mn=>(refine⟨⟨rfl,rfl,rfl⟩,_,_,rfl,?_⟩;(repeat refine .cons rfl rfl ?_);exact .nil))
  (case Mb=>decide)
  (case Mh|Mp=>k_is)
  (case Mr=>(refine⟨⟨rfl,rfl,rfl⟩,_,_,rfl,?_⟩;(repeat refine .cons rfl rfl ?_);exact .nil))
  (case Mt=>decide)
  (case Ma|MQ=>k_is)
  (case MZ=>exact⟨⟨rfl,rfl,rfl⟩,_,_,rfl,.cons rfl ⟨_,rfl⟩ (.cons rfl ⟨_,rfl⟩ (.cons rfl ⟨_,rfl⟩ .nil))⟩)
  (case MJ=>decide)
  (case MX|MK=>k_is)
  (case MV=>exact⟨⟨rfl,rfl,rfl⟩,_,_,rfl,.cons rfl rfl (.cons rfl rfl .nil)⟩)
  (case MW=>decide)
  (case MY|MU=>k_is)
  (case MO=>exact⟨rfl,_,_,rfl,.cons ⟨_,rfl⟩ (.cons ⟨_,rfl⟩ .nil)⟩)
  (case MI|MC=>k_is)
  (case ML=>exact⟨rfl,_,_,rfl,.cons ⟨_,rfl⟩ (.cons ⟨_,rfl⟩ (.cons ⟨_,rfl⟩ .nil))⟩)
  (case MG|MM=>k_is)
  (case MN=>exact⟨rfl,_,_,rfl,.cons ⟨_,rfl⟩ (.cons ⟨_,rfl⟩ (.cons ⟨_,rfl⟩ .nil))⟩)
  (case MB|MD|MF|MH|MP|MR|MT|ME|M0|M3|M4|M5|M6|M7|M8=>k_is)
